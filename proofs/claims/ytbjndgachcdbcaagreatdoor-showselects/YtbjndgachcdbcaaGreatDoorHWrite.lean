import Derived.Test.YtbjndgachcdbcaaGreatDoorMC13
import Derived.Test.YtbjndgachcdbcaaGreatDoorShelf
namespace Go.Proofs.YtbjndgachcdbcaaGreatDoor
open Go.RowKit Go.Shelf
set_option maxHeartbeats 16000000
set_option maxRecDepth 100000
structure Xj (B:Nat) (w:World) (most:Nat) (os:List Ob) (h:Nat) (vo vc:Value):Prop where
 hp:zx (fun k=>k<B) w most os h vo vc
 le:B≤w.heap.size
 tabs:∀W,Below B w W→zF W
theorem Xj.on {B:Nat} {w w':World} {most:Nat} {os:List Ob} {h:Nat} {vo vc:Value} (H:Xj B w most os h vo vc) (hb:Below B w w'):Xj B w' most os h vo vc :=
 ⟨H.hp.kept fun k hk _=>hb.block k hk,Nat.le_trans H.le hb.size,fun W hW=>H.tabs W (hb.trans hW)⟩
def xg (b:Bool):List UInt8:=if b then xe else yX
def zf (B:Nat) (w:World) (v:Value) (bs:List UInt8):Prop:=w.ownsRow B 5 1 v bs.length (Lib.byteCells bs)
theorem YK (B:Nat) (v:Value) (us:List UInt8) (b:Bool) (w:World) (hown:w.ownsRow B 5 1 v us.length (Lib.byteCells us)) (hB:B≤w.heap.size) (hl:us.length≤100000000000) :
  Calls Tryz.prog 69 #[v,.bool b] w fun e w'=>∃v',e=.returned v'∧zf B w' v' (us++xg b)∧Below B w w':=by
 cases b with
 | true =>
  go_enter Tryz.func69,Tryz.ntmps69
  go_wp2_with (at_builtin;refine ze rfl _ _ rfl B _ us rfl hown xe rfl (by simp [xe];omega) hB ?_;intro m o h c)
  go_ret
  exact ⟨m,rfl,h,(Below.refl _ _).grown c hB (fun q hq=>(hown.lt q hq).1)⟩
 | false =>
  go_enter Tryz.func69,Tryz.ntmps69
  go_wp2_with (at_builtin;refine ze rfl _ _ rfl B _ us rfl hown yX rfl (by simp [yX];omega) hB ?_;intro m o h c)
  go_ret
  exact ⟨m,rfl,h,(Below.refl _ _).grown c hB (fun q hq=>(hown.lt q hq).1)⟩
theorem zQ (B:Nat) (v:Value) (us:List UInt8) (b:Bool) (w:World) (hown:w.ownsRow B 5 1 v us.length (Lib.byteCells us)) (hB:B≤w.heap.size) (hl:us.length≤100000000000) :
  Calls Tryz.prog 55 #[v,.bool b] w fun e w'=>∃h,e=.returned h∧zf B w' h (us++xg b)∧Below B w w':=by
 have c:=YK B v us b w hown hB hl;clear hown
 go_enter Tryz.func55,Tryz.ntmps55
 go_wp2_with fail
 refine c.mono ?_;clear c;rintro e w' ⟨h,rfl,o,m⟩;have u:Hid (zf B w' h (us++xg b)):=o;have q:Hid (Below B w w'):=m;clear o m;go_wp2
 go_ret
 exact ⟨h,rfl,u.out,q.out⟩
def Yz (d:Nat):Prop:=∀(B:Nat) (w:World) (most:Nat) (os:List Ob) (h:Nat) (vo vc:Value),Xj B w most os h vo vc→∀(l:List Vl) (pv:Value) (us:List UInt8) (bv:Value),zp (fun k=>k<B) w pv l→(∀v∈l,rightV v os.length=true∧zq v)→l.length≤8 →
 w.ownsRow B 5 1 bv us.length (Lib.byteCells us)→us.length+10*Zf d≤100000000000 →
 Calls Tryz.prog 48 #[.pointer (some ⟨h,0,none⟩),bv,.int .i64 (d:Int),pv] w fun e w'=>∃v',e=.returned v'∧zf B w' v' (us++zg (zJ os d) l)∧Below B w w'
def vF (d:Nat):Prop:=∀(B:Nat) (w:World) (most:Nat) (os:List Ob) (h:Nat) (vo vc:Value),Xj B w most os h vo vc→∀(j:Nat) (hj:j<os.length) (us:List UInt8) (bv:Value),
 w.ownsRow B 5 1 bv us.length (Lib.byteCells us)→us.length+Zf d≤100000000000 →
 Calls Tryz.prog 56 #[.pointer (some ⟨h,0,none⟩),bv,.int .i64 (d:Int),yu os j hj] w fun e w'=>∃v',e=.returned v'∧zf B w' v' (us++yw os d os[j])∧Below B w w'
theorem XU:vF 0:=by
 intro B w F os h R O H j M u E b G;have I:=H.le;have D:Hid (w.ownsRow B 5 1 E u.length (Lib.byteCells u)):=b;have z:Zf 0=3000000:=rfl;rw [z] at G
 unfold yu
 obtain ⟨A,m⟩:∃A:Int,A=((fromO os j:Nat):Int):=⟨_,rfl⟩;obtain ⟨y,o⟩:∃y:Int,y=((fromO os j+(os[j]).2.length:Nat):Int):=⟨_,rfl⟩;rw [←m,←o,show yw os 0 os[j]=zO from rfl]
 generalize (os[j]).1=tg;clear m o b;show Calls Tryz.prog 56 #[.pointer (some ⟨h,0,none⟩),E,.int .i64 0,.agg #[.string (za tg),.int .i64 A,.int .i64 y]] w _
 go_enter Tryz.func56,Tryz.ntmps56
 go_wp2_with (at_builtin;refine ze rfl _ _ rfl B _ u rfl (D.out.alloc _) zO rfl (by simp [zO];omega) (by simp;omega) ?_;intro J K e c)
 go_ret
 exact ⟨J,rfl,e,((Below.refl _ _).alloc I _).grown c (by simp;omega) (fun q hq=>(D.out.lt q hq).1)⟩
def y5 (us:List UInt8) (f:Vl→List UInt8) (l:List Vl) (i:Nat):List UInt8:=us++zg f (l.take i)++if i=0 then [] else [44,32]
theorem Xk (us:List UInt8) (f:Vl→List UInt8) (l:List Vl) (i:Nat) (h:i<l.length):us++zg f (l.take (i+1))=y5 us f l i++f l[i]:=by
 unfold y5
 rw [List.take_succ_eq_append_getElem h,XT]
 by_cases h0:i=0
 ·subst h0;simp [zg]
 ·have b:l.take i≠[]:=fun e=>by
   have:=congrArg List.length e
   rw [List.length_take,List.length_nil] at this;omega
  rw [if_neg h0,if_neg b]
  simp
end Go.Proofs.YtbjndgachcdbcaaGreatDoor
