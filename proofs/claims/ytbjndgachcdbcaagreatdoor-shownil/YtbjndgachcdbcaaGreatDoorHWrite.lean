import Derived.Test.YtbjndgachcdbcaaGreatDoorHShow
import Derived.Test.YtbjndgachcdbcaaGreatDoorShelf
namespace Go.Proofs.YtbjndgachcdbcaaGreatDoor
open Go.RowKit Go.Shelf
set_option maxHeartbeats 16000000
set_option maxRecDepth 100000
structure xM (B:Nat) (w:World) (most:Nat) (os:List Ob) (h:Nat) (vo vc:Value):Prop where
 hp:zA (fun k=>k<B) w most os h vo vc
 le:B≤w.heap.size
 tabs:∀W,Below B w W→zQ W
theorem xM.on {B:Nat} {w w':World} {most:Nat} {os:List Ob} {h:Nat} {vo vc:Value} (H:xM B w most os h vo vc) (hb:Below B w w'):xM B w' most os h vo vc :=
 ⟨H.hp.kept fun k hk _=>hb.block k hk,Nat.le_trans H.le hb.size,fun W hW=>H.tabs W (hb.trans hW)⟩
def YY (b:Bool):List UInt8:=if b then YW else yy
def zf (B:Nat) (w:World) (v:Value) (bs:List UInt8):Prop:=w.ownsRow B 5 1 v bs.length (Lib.byteCells bs)
theorem Yl (B:Nat) (v:Value) (us:List UInt8) (b:Bool) (w:World) (hown:w.ownsRow B 5 1 v us.length (Lib.byteCells us)) (hB:B≤w.heap.size) (hl:us.length≤100000000000) :
  Calls Tryz.prog 69 #[v,.bool b] w fun e w'=>∃v',e=.returned v'∧zf B w' v' (us++YY b)∧Below B w w':=by
 cases b with
 | true =>
  go_enter Tryz.func69,Tryz.ntmps69
  go_wp2_with (at_builtin;refine ze rfl _ _ rfl B _ us rfl hown YW rfl (by simp [YW];omega) hB ?_;intro m o h c)
  go_ret
  exact ⟨m,rfl,h,(Below.refl _ _).grown c hB (fun q hq=>(hown.lt q hq).1)⟩
 | false =>
  go_enter Tryz.func69,Tryz.ntmps69
  go_wp2_with (at_builtin;refine ze rfl _ _ rfl B _ us rfl hown yy rfl (by simp [yy];omega) hB ?_;intro m o h c)
  go_ret
  exact ⟨m,rfl,h,(Below.refl _ _).grown c hB (fun q hq=>(hown.lt q hq).1)⟩
theorem zM (B:Nat) (v:Value) (us:List UInt8) (b:Bool) (w:World) (hown:w.ownsRow B 5 1 v us.length (Lib.byteCells us)) (hB:B≤w.heap.size) (hl:us.length≤100000000000) :
  Calls Tryz.prog 55 #[v,.bool b] w fun e w'=>∃h,e=.returned h∧zf B w' h (us++YY b)∧Below B w w':=by
 have c:=Yl B v us b w hown hB hl;clear hown
 go_enter Tryz.func55,Tryz.ntmps55
 go_wp2_with fail
 refine c.mono ?_;clear c;rintro e w' ⟨h,rfl,o,m⟩;have q:Hid (zf B w' h (us++YY b)):=o;have u:Hid (Below B w w'):=m;clear o m;go_wp2
 go_ret
 exact ⟨h,rfl,q.out,u.out⟩
def Yb (d:Nat):Prop:=∀(B:Nat) (w:World) (most:Nat) (os:List Ob) (h:Nat) (vo vc:Value),xM B w most os h vo vc→∀(l:List Vl) (pv:Value) (us:List UInt8) (bv:Value),zC (fun k=>k<B) w pv l→(∀v∈l,zb v os.length=true∧zw v)→l.length≤8 →
 w.ownsRow B 5 1 bv us.length (Lib.byteCells us)→us.length+10*z8 d≤100000000000 →
 Calls Tryz.prog 48 #[.pointer (some ⟨h,0,none⟩),bv,.int .i64 (d:Int),pv] w fun e w'=>∃v',e=.returned v'∧zf B w' v' (us++zg (zH os d) l)∧Below B w w'
def XX (d:Nat):Prop:=∀(B:Nat) (w:World) (most:Nat) (os:List Ob) (h:Nat) (vo vc:Value),xM B w most os h vo vc→∀(j:Nat) (hj:j<os.length) (us:List UInt8) (bv:Value),
 w.ownsRow B 5 1 bv us.length (Lib.byteCells us)→us.length+z8 d≤100000000000 →
 Calls Tryz.prog 56 #[.pointer (some ⟨h,0,none⟩),bv,.int .i64 (d:Int),Z9 os j hj] w fun e w'=>∃v',e=.returned v'∧zf B w' v' (us++ye os d os[j])∧Below B w w'
theorem Xs:XX 0:=by
 intro B w D os h K O H j M y E b I;have F:=H.le;have A:Hid (w.ownsRow B 5 1 E y.length (Lib.byteCells y)):=b;have u:z8 0=3000000:=rfl;rw [u] at I
 unfold Z9
 obtain ⟨x,o⟩:∃x:Int,x=((fromO os j:Nat):Int):=⟨_,rfl⟩;obtain ⟨z,m⟩:∃z:Int,z=((fromO os j+(os[j]).2.length:Nat):Int):=⟨_,rfl⟩;rw [←o,←m,show ye os 0 os[j]=zS from rfl]
 generalize (os[j]).1=tg;clear o m b;show Calls Tryz.prog 56 #[.pointer (some ⟨h,0,none⟩),E,.int .i64 0,.agg #[.string (za tg),.int .i64 x,.int .i64 z]] w _
 go_enter Tryz.func56,Tryz.ntmps56
 go_wp2_with (at_builtin;refine ze rfl _ _ rfl B _ y rfl (A.out.alloc _) zS rfl (by simp [zS];omega) (by simp;omega) ?_;intro G J e c)
 go_ret
 exact ⟨G,rfl,e,((Below.refl _ _).alloc F _).grown c (by simp;omega) (fun q hq=>(A.out.lt q hq).1)⟩
def yB (us:List UInt8) (f:Vl→List UInt8) (l:List Vl) (i:Nat):List UInt8:=us++zg f (l.take i)++if i=0 then [] else [44,32]
theorem xN (us:List UInt8) (f:Vl→List UInt8) (l:List Vl) (i:Nat) (h:i<l.length):us++zg f (l.take (i+1))=yB us f l i++f l[i]:=by
 unfold yB
 rw [List.take_succ_eq_append_getElem h,Xr]
 by_cases h0:i=0
 ·subst h0;simp [zg]
 ·have b:l.take i≠[]:=fun e=>by
   have:=congrArg List.length e
   rw [List.length_take,List.length_nil] at this;omega
  rw [if_neg h0,if_neg b]
  simp
end Go.Proofs.YtbjndgachcdbcaaGreatDoor
