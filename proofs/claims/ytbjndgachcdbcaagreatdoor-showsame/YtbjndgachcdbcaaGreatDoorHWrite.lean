import Derived.Test.YtbjndgachcdbcaaGreatDoorMC13
import Derived.Test.YtbjndgachcdbcaaGreatDoorShelf
namespace Go.Proofs.YtbjndgachcdbcaaGreatDoor
open Go.RowKit Go.Shelf
set_option maxHeartbeats 16000000
set_option maxRecDepth 100000
structure XF (B:Nat) (w:World) (most:Nat) (os:List Ob) (h:Nat) (vo vc:Value):Prop where
 hp:zs (fun k=>k<B) w most os h vo vc
 le:B≤w.heap.size
 tabs:∀W,Below B w W→zJ W
theorem XF.on {B:Nat} {w w':World} {most:Nat} {os:List Ob} {h:Nat} {vo vc:Value} (H:XF B w most os h vo vc) (hb:Below B w w'):XF B w' most os h vo vc :=
 ⟨H.hp.kept fun k hk _=>hb.block k hk,Nat.le_trans H.le hb.size,fun W hW=>H.tabs W (hb.trans hW)⟩
def xA (b:Bool):List UInt8:=if b then xy else y5
def zg (B:Nat) (w:World) (v:Value) (bs:List UInt8):Prop:=w.ownsRow B 5 1 v bs.length (Lib.byteCells bs)
theorem YT (B:Nat) (v:Value) (us:List UInt8) (b:Bool) (w:World) (hown:w.ownsRow B 5 1 v us.length (Lib.byteCells us)) (hB:B≤w.heap.size) (hl:us.length≤100000000000) :
  Calls Tryz.prog 69 #[v,.bool b] w fun e w'=>∃v',e=.returned v'∧zg B w' v' (us++xA b)∧Below B w w':=by
 cases b with
 | true =>
  go_enter Tryz.func69,Tryz.ntmps69
  go_wp2_with (at_builtin;refine ze rfl _ _ rfl B _ us rfl hown xy rfl (by simp [xy];omega) hB ?_;intro m o c h)
  go_ret
  exact ⟨m,rfl,c,(Below.refl _ _).grown h hB (fun q hq=>(hown.lt q hq).1)⟩
 | false =>
  go_enter Tryz.func69,Tryz.ntmps69
  go_wp2_with (at_builtin;refine ze rfl _ _ rfl B _ us rfl hown y5 rfl (by simp [y5];omega) hB ?_;intro m o c h)
  go_ret
  exact ⟨m,rfl,c,(Below.refl _ _).grown h hB (fun q hq=>(hown.lt q hq).1)⟩
theorem zU (B:Nat) (v:Value) (us:List UInt8) (b:Bool) (w:World) (hown:w.ownsRow B 5 1 v us.length (Lib.byteCells us)) (hB:B≤w.heap.size) (hl:us.length≤100000000000) :
  Calls Tryz.prog 55 #[v,.bool b] w fun e w'=>∃h,e=.returned h∧zg B w' h (us++xA b)∧Below B w w':=by
 have c:=YT B v us b w hown hB hl;clear hown
 go_enter Tryz.func55,Tryz.ntmps55
 go_wp2_with fail
 refine c.mono ?_;clear c;rintro e w' ⟨h,rfl,o,m⟩;have q:Hid (zg B w' h (us++xA b)):=o;have u:Hid (Below B w w'):=m;clear o m;go_wp2
 go_ret
 exact ⟨h,rfl,q.out,u.out⟩
def YI (d:Nat):Prop:=∀(B:Nat) (w:World) (most:Nat) (os:List Ob) (h:Nat) (vo vc:Value),XF B w most os h vo vc→∀(l:List Vl) (pv:Value) (us:List UInt8) (bv:Value),zk (fun k=>k<B) w pv l→(∀v∈l,rightV v os.length=true∧zr v)→l.length≤8 →
 w.ownsRow B 5 1 bv us.length (Lib.byteCells us)→us.length+10*Zj d≤100000000000 →
 Calls Tryz.prog 48 #[.pointer (some ⟨h,0,none⟩),bv,.int .i64 (d:Int),pv] w fun e w'=>∃v',e=.returned v'∧zg B w' v' (us++zf (zy os d) l)∧Below B w w'
def Vj (d:Nat):Prop:=∀(B:Nat) (w:World) (most:Nat) (os:List Ob) (h:Nat) (vo vc:Value),XF B w most os h vo vc→∀(j:Nat) (hj:j<os.length) (us:List UInt8) (bv:Value),
 w.ownsRow B 5 1 bv us.length (Lib.byteCells us)→us.length+Zj d≤100000000000 →
 Calls Tryz.prog 56 #[.pointer (some ⟨h,0,none⟩),bv,.int .i64 (d:Int),yB os j hj] w fun e w'=>∃v',e=.returned v'∧zg B w' v' (us++yD os d os[j])∧Below B w w'
theorem vA:Vj 0:=by
 intro B w E os h O J H j K us A b I;have F:=H.le;have D:Hid (w.ownsRow B 5 1 A us.length (Lib.byteCells us)):=b;have u:Zj 0=3000000:=rfl;rw [u] at I
 unfold yB
 obtain ⟨y,m⟩:∃y:Int,y=((fromO os j:Nat):Int):=⟨_,rfl⟩;obtain ⟨z,o⟩:∃z:Int,z=((fromO os j+(os[j]).2.length:Nat):Int):=⟨_,rfl⟩;rw [←m,←o,show yD os 0 os[j]=z8 from rfl]
 generalize (os[j]).1=tg;clear m o b;show Calls Tryz.prog 56 #[.pointer (some ⟨h,0,none⟩),A,.int .i64 0,.agg #[.string (za tg),.int .i64 y,.int .i64 z]] w _
 go_enter Tryz.func56,Tryz.ntmps56
 go_wp2_with (at_builtin;refine ze rfl _ _ rfl B _ us rfl (D.out.alloc _) z8 rfl (by simp [z8];omega) (by simp;omega) ?_;intro G M c e)
 go_ret
 exact ⟨G,rfl,c,((Below.refl _ _).alloc F _).grown e (by simp;omega) (fun q hq=>(D.out.lt q hq).1)⟩
def Yb (us:List UInt8) (f:Vl→List UInt8) (l:List Vl) (i:Nat):List UInt8:=us++zf f (l.take i)++if i=0 then [] else [44,32]
theorem XG (us:List UInt8) (f:Vl→List UInt8) (l:List Vl) (i:Nat) (h:i<l.length):us++zf f (l.take (i+1))=Yb us f l i++f l[i]:=by
 unfold Yb
 rw [List.take_succ_eq_append_getElem h,vz]
 by_cases h0:i=0
 ·subst h0;simp [zf]
 ·have b:l.take i≠[]:=fun e=>by
   have:=congrArg List.length e
   rw [List.length_take,List.length_nil] at this;omega
  rw [if_neg h0,if_neg b]
  simp
end Go.Proofs.YtbjndgachcdbcaaGreatDoor
