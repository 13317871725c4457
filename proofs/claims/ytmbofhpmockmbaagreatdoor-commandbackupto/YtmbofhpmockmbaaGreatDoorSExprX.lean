import Derived.Test.YtmbofhpmockmbaaGreatDoorSReadX
namespace Go.Proofs.YtmbofhpmockmbaaGreatDoor
open Go.RowKit Go.Shelf
set_option maxHeartbeats 16000000
set_option maxRecDepth 100000
theorem V6 (l:List UInt8) (w:World) (ht:Zh w) (hl:ZL w) (he:y3 w) :
  Calls Tryz.prog 56 #[.string (za l)] w fun e w' =>
   ∃(x:Ex) (h o:Nat) (v:Value),e=.returned (.tuple #[v,.int .i64 h,.int .i64 o])∧zS l x h o∧zM w.heap.size w' x v∧Below w.heap.size w w':=by
 have I:Below w.heap.size w (w.alloc zA):=(Below.refl w.heap.size w).alloc (Nat.le_refl _) _;have L:=V5 l (w.alloc zA) (ht.below I (Nat.le_refl _)) (fun j v hj=>ze (hl j v hj) _) (ze he _)
 go_enter Tryz.func56,Tryz.ntmps56
 go_wp2_with fail
 refine L.mono ?_;clear L;rintro e w1 ⟨x,h,o,v,rfl,K,G,y⟩;obtain ⟨a,b,c,A,D,z,k,rfl⟩:=G.agg;have H:(w.alloc zA).heap.size=w.heap.size+1:=by simp
 rw [H] at G y;have J:w1.heap[w.heap.size]?=some zA:=(y.block w.heap.size (by omega)).trans (World.alloc_heap_new w _)
 obtain ⟨V,Z,W,q3,Y,X⟩:=zr J;obtain ⟨O,N,U,M,Q⟩:=zo J (.int .i64 a) (.string b) (.int .i64 c) (.slice A D z) (.int .i64 k);have E:Below w.heap.size w w1:=I.trans (y.mono (by omega))
 have R:Hid (Below w.heap.size w (set5 w1 w.heap.size (.int .i64 a) (.string b) (.int .i64 c) (.slice A D z) (.int .i64 k))) :=
  ((((E.setCell (p:=⟨w.heap.size,0,none⟩) (by simp) _).setCell (p:=⟨w.heap.size,1,none⟩) (by simp) _).setCell (p:=⟨w.heap.size,2,none⟩) (by simp) _).setCell (p:=⟨w.heap.size,3,none⟩) (by simp) _).setCell (p:=⟨w.heap.size,4,none⟩) (by simp) _
 have S:Hid (zM w.heap.size (set5 w1 w.heap.size (.int .i64 a) (.string b) (.int .i64 c) (.slice A D z) (.int .i64 k)) x (.agg #[.int .i64 a,.string b,.int .i64 c,.slice A D z,.int .i64 k])) :=
  zM.mono (zM.kept G (w':=set5 w1 w.heap.size (.int .i64 a) (.string b) (.int .i64 c) (.slice A D z) (.int .i64 k)) (by simp) fun j hj _=>zg _ _ _ _ _ _ _ (by omega)) (by omega)
 have T:Hid (zS l x h o):=K;clear I E G y K J ht hl he;go_wp2
 exact bodyPost_ret (v:=.tuple #[.agg #[.int .i64 a,.string b,.int .i64 c,.slice A D z,.int .i64 k],.int .i64 h,.int .i64 o]) (by simp [results,Tryz.results56,go_sem,O,N,U,M,Q]) rfl ⟨x,h,o,_,rfl,T.out,S.out,R.out⟩
end Go.Proofs.YtmbofhpmockmbaaGreatDoor
