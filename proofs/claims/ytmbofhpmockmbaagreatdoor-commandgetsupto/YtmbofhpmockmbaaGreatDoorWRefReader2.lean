import Derived.Test.YtmbofhpmockmbaaGreatDoorMC6
import Derived.Lib.MinMax
namespace Go.Proofs.YtmbofhpmockmbaaGreatDoor
open Go.RowKit
set_option maxHeartbeats 16000000
set_option maxRecDepth 100000
theorem qh (w:World) (a:Obj):Below w.heap.size w (w.alloc a):=(Below.refl _ _).alloc (Nat.le_refl _) _
theorem ui (l:List UInt8) (at0:Nat) (most:Int) :
  (∃e,e≠0∧Z5 l at0=(0,0,e)∧stepR (0:Int) at0 0 (zU (l.drop at0) most)=(0,at0,e)) ∨
  (∃n k,Z5 l at0=(n,k,0)∧n<0∧stepR (0:Int) at0 0 (zU (l.drop at0) most)=(0,at0,4)) ∨
  (∃n k,Z5 l at0=(n,k,0)∧0≤n∧max 0 most<n∧stepR (0:Int) at0 0 (zU (l.drop at0) most)=(0,at0,5)) ∨
  (∃n k,Z5 l at0=(n,k,0)∧0≤n∧n≤max 0 most∧stepR (0:Int) at0 0 (zU (l.drop at0) most)=(n,k,0)):=by
 obtain ⟨v,k,e,z⟩:∃v k e,zL (l.drop at0)=(v,k,e):=⟨_,_,_,rfl⟩;have o:zU (l.drop at0) most=if e≠0 then (0,0,e) else if v<0 then (0,0,4) else if max most 0<v then (0,0,5) else (v,k,e):=by unfold zU;rw [z]
 by_cases he:e=0
 ·subst he
  right
  have y:Z5 l at0=(v,at0+k,0):=XI z;rw [if_neg (by simp)] at o
  by_cases hv:v<0
  ·left;exact ⟨v,_,y,hv,by rw [o,if_pos hv];unfold stepR;simp⟩
  ·right
   rw [if_neg hv] at o
   by_cases hm:max most 0<v
   ·left;exact ⟨v,_,y,by omega,by omega,by rw [o,if_pos hm];unfold stepR;simp⟩
   ·right;exact ⟨v,_,y,by omega,by omega,by rw [o,if_neg hm];unfold stepR;simp⟩
 ·left
  refine ⟨e,he,?_,?_⟩
  ·unfold Z5;rw [z];simp [he]
  ·rw [o,if_pos he];unfold stepR;simp [he]
theorem xZ (s:ByteArray) (at0 er:Nat) (most:Int) (w:World) (hs:s.size≤9223372036854775000) (ha:at0≤s.size) :
  Calls Tryz.prog 66 #[.agg #[.string s,.int .i64 at0,.int .i64 er],.int .i64 most] w fun e w' =>
   e=.returned (.tuple #[.agg #[.string s,.int .i64 (stepR (0:Int) at0 er (zU (s.data.toList.drop at0) most)).2.1,.int .i64 (stepR (0:Int) at0 er (zU (s.data.toList.drop at0) most)).2.2],.int .i64 (stepR (0:Int) at0 er (zU (s.data.toList.drop at0) most)).1])∧Below w.heap.size w w':=by
 by_cases her:er≠0
 ·have T:Hid (stepR (0:Int) at0 er (zU (s.data.toList.drop at0) most)=(0,at0,er)):=if_pos her
  have O:((er:Int) != 0)=true:=by rw [bne_iff_ne];omega
  clear her;rw [T.out]
  go_enter Tryz.func66,Tryz.ntmps66
  go_wp2
  exact bodyPost_ret (v:=.tuple #[.agg #[.string s,.int .i64 at0,.int .i64 er],.int .i64 0]) (by simp [results,Tryz.results66,go_sem]) rfl ⟨rfl,Z6 _ _ _⟩
 ·have Q:er=0:=by omega
  subst Q;clear her;have A:Hid (∀D,Calls Tryz.prog 64 #[.string s,.int .i64 at0] D fun e w'=>e=.returned (.tuple #[.int .i64 (Z5 s.data.toList at0).1,.int .i64 (Z5 s.data.toList at0).2.1,.int .i64 (Z5 s.data.toList at0).2.2])∧D=w'):=fun D=>xo s at0 D hs ha
  rcases ui s.data.toList at0 most with ⟨e,U,z,y⟩ | ⟨n,k,z,L,y⟩ | ⟨n,k,z,L,R,y⟩ | ⟨n,k,z,L,R,y⟩
  ·rw [y]
   rw [z] at A;have O:((e:Int) != 0)=true:=by rw [bne_iff_ne];omega
   clear U z y
   go_enter Tryz.func66,Tryz.ntmps66
   go_wp2_with fail
   refine (A.out _).mono ?_;rintro G D ⟨rfl,rfl⟩;go_wp2_with fail
   refine (yx s at0 0 e _).mono ?_;rintro G E ⟨rfl,o⟩;obtain ⟨H,J⟩:=Yh o;have K:w.heap.size+1<E.heap.size:=by have:=o.size;simp at this;omega
   have I:Hid (Below w.heap.size w E):=(Z6 w _ _).trans (o.mono (by simp;omega))
   clear o;go_wp2
   refine bodyPost_ret (v:=.tuple #[.agg #[.string s,.int .i64 at0,.int .i64 e],.int .i64 0]) (by simp [results,Tryz.results66,go_sem,H]) rfl ⟨rfl,?_⟩
   exact ((I.out.setCell (by simp) _).setCell (by simp) _).setCell (by simp) _
  ·rw [y]
   rw [z] at A;clear z y
   go_enter Tryz.func66,Tryz.ntmps66
   go_wp2_with fail
   refine (A.out _).mono ?_;rintro G D ⟨rfl,rfl⟩;go_wp2_with fail
   refine (yx s at0 0 4 _).mono ?_;rintro G E ⟨rfl,o⟩;obtain ⟨H,J⟩:=Yh o;have K:w.heap.size+1<E.heap.size:=by have:=o.size;simp at this;omega
   have I:Hid (Below w.heap.size w E):=(Z6 w _ _).trans (o.mono (by simp;omega))
   clear o;go_wp2
   refine bodyPost_ret (v:=.tuple #[.agg #[.string s,.int .i64 at0,.int .i64 4],.int .i64 0]) (by simp [results,Tryz.results66,go_sem,H]) rfl ⟨rfl,?_⟩
   exact ((I.out.setCell (by simp) _).setCell (by simp) _).setCell (by simp) _
  ·rw [y]
   rw [z] at A;have M:decide (max 0 most<n)=true:=decide_eq_true (by omega)
   clear z y
   go_enter Tryz.func66,Tryz.ntmps66
   go_wp2_with fail
   refine (A.out _).mono ?_;rintro G D ⟨rfl,rfl⟩;go_wp2_with fail
   refine (yx s at0 0 5 _).mono ?_;rintro G E ⟨rfl,o⟩;obtain ⟨H,J⟩:=Yh o;have K:w.heap.size+1<E.heap.size:=by have:=o.size;simp at this;omega
   have I:Hid (Below w.heap.size w E):=(Z6 w _ _).trans (o.mono (by simp;omega))
   clear o;go_wp2
   refine bodyPost_ret (v:=.tuple #[.agg #[.string s,.int .i64 at0,.int .i64 5],.int .i64 0]) (by simp [results,Tryz.results66,go_sem,H]) rfl ⟨rfl,?_⟩
   exact ((I.out.setCell (by simp) _).setCell (by simp) _).setCell (by simp) _
  ·rw [y]
   rw [z] at A;have M:decide (max 0 most<n)=false:=decide_eq_false (by omega)
   clear z y
   go_enter Tryz.func66,Tryz.ntmps66
   go_wp2_with fail
   refine (A.out _).mono ?_;rintro G D ⟨rfl,rfl⟩;go_wp2
   exact bodyPost_ret (v:=.tuple #[.agg #[.string s,.int .i64 k,.int .i64 0],.int .i64 n]) (by simp [results,Tryz.results66,go_sem]) rfl ⟨rfl,Z6 _ _ _⟩
end Go.Proofs.YtmbofhpmockmbaaGreatDoor
