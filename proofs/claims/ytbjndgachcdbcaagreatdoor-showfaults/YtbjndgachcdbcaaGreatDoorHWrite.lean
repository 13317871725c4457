import Derived.Test.YtbjndgachcdbcaaGreatDoorHShow
import Derived.Test.YtbjndgachcdbcaaGreatDoorShelf
namespace Go.Proofs.YtbjndgachcdbcaaGreatDoor
open Go.RowKit Go.Shelf
set_option maxHeartbeats 16000000
set_option maxRecDepth 100000
structure xy (B:Nat) (w:World) (most:Nat) (os:List Ob) (h:Nat) (vo vc:Value):Prop where
 hp:zA (fun k=>k<B) w most os h vo vc
 le:B≤w.heap.size
 tabs:∀W,Below B w W→zQ W
theorem xy.on {B:Nat} {w w':World} {most:Nat} {os:List Ob} {h:Nat} {vo vc:Value} (H:xy B w most os h vo vc) (hb:Below B w w'):xy B w' most os h vo vc :=
 ⟨H.hp.kept fun k hk _=>hb.block k hk,Nat.le_trans H.le hb.size,fun W hW=>H.tabs W (hb.trans hW)⟩
def YO (b:Bool):List UInt8:=if b then YM else yu
def zf (B:Nat) (w:World) (v:Value) (bs:List UInt8):Prop:=w.ownsRow B 5 1 v bs.length (Lib.byteCells bs)
theorem y9 (B:Nat) (v:Value) (us:List UInt8) (b:Bool) (w:World) (hown:w.ownsRow B 5 1 v us.length (Lib.byteCells us)) (hB:B≤w.heap.size) (hl:us.length≤100000000000) :
  Calls Tryz.prog 69 #[v,.bool b] w fun e w'=>∃v',e=.returned v'∧zf B w' v' (us++YO b)∧Below B w w':=by
 cases b with
 | true =>
  go_enter Tryz.func69,Tryz.ntmps69
  go_wp2_with (at_builtin;refine ze rfl _ _ rfl B _ us rfl hown YM rfl (by simp [YM];omega) hB ?_;intro m o c h)
  go_ret
  exact ⟨m,rfl,c,(Below.refl _ _).grown h hB (fun q hq=>(hown.lt q hq).1)⟩
 | false =>
  go_enter Tryz.func69,Tryz.ntmps69
  go_wp2_with (at_builtin;refine ze rfl _ _ rfl B _ us rfl hown yu rfl (by simp [yu];omega) hB ?_;intro m o c h)
  go_ret
  exact ⟨m,rfl,c,(Below.refl _ _).grown h hB (fun q hq=>(hown.lt q hq).1)⟩
theorem zN (B:Nat) (v:Value) (us:List UInt8) (b:Bool) (w:World) (hown:w.ownsRow B 5 1 v us.length (Lib.byteCells us)) (hB:B≤w.heap.size) (hl:us.length≤100000000000) :
  Calls Tryz.prog 55 #[v,.bool b] w fun e w'=>∃h,e=.returned h∧zf B w' h (us++YO b)∧Below B w w':=by
 have c:=y9 B v us b w hown hB hl;clear hown
 go_enter Tryz.func55,Tryz.ntmps55
 go_wp2_with fail
 refine c.mono ?_;clear c;rintro e w' ⟨h,rfl,m,o⟩;have q:Hid (zf B w' h (us++YO b)):=m;have u:Hid (Below B w w'):=o;clear m o;go_wp2
 go_ret
 exact ⟨h,rfl,q.out,u.out⟩
def yV (d:Nat):Prop:=∀(B:Nat) (w:World) (most:Nat) (os:List Ob) (h:Nat) (vo vc:Value),xy B w most os h vo vc→∀(l:List Vl) (pv:Value) (us:List UInt8) (bv:Value),zC (fun k=>k<B) w pv l→(∀v∈l,zb v os.length=true∧zv v)→l.length≤8 →
 w.ownsRow B 5 1 bv us.length (Lib.byteCells us)→us.length+10*z7 d≤100000000000 →
 Calls Tryz.prog 48 #[.pointer (some ⟨h,0,none⟩),bv,.int .i64 (d:Int),pv] w fun e w'=>∃v',e=.returned v'∧zf B w' v' (us++zg (zI os d) l)∧Below B w w'
def XD (d:Nat):Prop:=∀(B:Nat) (w:World) (most:Nat) (os:List Ob) (h:Nat) (vo vc:Value),xy B w most os h vo vc→∀(j:Nat) (hj:j<os.length) (us:List UInt8) (bv:Value),
 w.ownsRow B 5 1 bv us.length (Lib.byteCells us)→us.length+z7 d≤100000000000 →
 Calls Tryz.prog 56 #[.pointer (some ⟨h,0,none⟩),bv,.int .i64 (d:Int),Z6 os j hj] w fun e w'=>∃v',e=.returned v'∧zf B w' v' (us++yb os d os[j])∧Below B w w'
theorem Xb:XD 0:=by
 intro B w A os h O K H j M x E b F;have G:=H.le;have D:Hid (w.ownsRow B 5 1 E x.length (Lib.byteCells x)):=b;have u:z7 0=3000000:=rfl;rw [u] at F
 unfold Z6
 obtain ⟨z,m⟩:∃z:Int,z=((fromO os j:Nat):Int):=⟨_,rfl⟩;obtain ⟨y,o⟩:∃y:Int,y=((fromO os j+(os[j]).2.length:Nat):Int):=⟨_,rfl⟩;rw [←m,←o,show yb os 0 os[j]=zS from rfl]
 generalize (os[j]).1=tg;clear m o b;show Calls Tryz.prog 56 #[.pointer (some ⟨h,0,none⟩),E,.int .i64 0,.agg #[.string (za tg),.int .i64 z,.int .i64 y]] w _
 go_enter Tryz.func56,Tryz.ntmps56
 go_wp2_with (at_builtin;refine ze rfl _ _ rfl B _ x rfl (D.out.alloc _) zS rfl (by simp [zS];omega) (by simp;omega) ?_;intro I J c e)
 go_ret
 exact ⟨I,rfl,c,((Below.refl _ _).alloc G _).grown e (by simp;omega) (fun q hq=>(D.out.lt q hq).1)⟩
def yx (us:List UInt8) (f:Vl→List UInt8) (l:List Vl) (i:Nat):List UInt8:=us++zg f (l.take i)++if i=0 then [] else [44,32]
theorem xz (us:List UInt8) (f:Vl→List UInt8) (l:List Vl) (i:Nat) (h:i<l.length):us++zg f (l.take (i+1))=yx us f l i++f l[i]:=by
 unfold yx
 rw [List.take_succ_eq_append_getElem h,Xa]
 by_cases h0:i=0
 ·subst h0;simp [zg]
 ·have b:l.take i≠[]:=fun e=>by
   have:=congrArg List.length e
   rw [List.length_take,List.length_nil] at this;omega
  rw [if_neg h0,if_neg b]
  simp
end Go.Proofs.YtbjndgachcdbcaaGreatDoor
