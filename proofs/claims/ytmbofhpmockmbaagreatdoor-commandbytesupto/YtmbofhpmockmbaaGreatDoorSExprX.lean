import Derived.Test.YtmbofhpmockmbaaGreatDoorSReadX
namespace Go.Proofs.YtmbofhpmockmbaaGreatDoor
open Go.RowKit Go.Shelf
set_option maxHeartbeats 16000000
set_option maxRecDepth 100000
theorem U0 (l:List UInt8) (w:World) (ht:Zt w) (hl:Z2 w) (he:YD w) :
  Calls Tryz.prog 56 #[.string (za l)] w fun e w' =>
   ∃(x:Ex) (y o:Nat) (v:Value),e=.returned (.tuple #[v,.int .i64 y,.int .i64 o])∧zY l x y o∧zQ w.heap.size w' x v∧Below w.heap.size w w':=by
 have J:Below w.heap.size w (w.alloc zD):=(Below.refl w.heap.size w).alloc (Nat.le_refl _) _;have M:=UZ l (w.alloc zD) (ht.below J (Nat.le_refl _)) (fun j v hj=>ze (hl j v hj) _) (ze he _)
 go_enter Tryz.func56,Tryz.ntmps56
 go_wp2_with fail
 refine M.mono ?_;clear M;rintro e w1 ⟨x,y,o,v,rfl,L,H,z⟩;obtain ⟨a,b,c,E,A,D,k,rfl⟩:=H.agg;have K:(w.alloc zD).heap.size=w.heap.size+1:=by simp
 rw [K] at H z;have I:w1.heap[w.heap.size]?=some zD:=(z.block w.heap.size (by omega)).trans (World.alloc_heap_new w _)
 obtain ⟨q0,q1,q2,X,Z,Y⟩:=zt I;obtain ⟨Q,V,T,U,N⟩:=zq I (.int .i64 a) (.string b) (.int .i64 c) (.slice E A D) (.int .i64 k);have G:Below w.heap.size w w1:=J.trans (z.mono (by omega))
 have W:Hid (Below w.heap.size w (set5 w1 w.heap.size (.int .i64 a) (.string b) (.int .i64 c) (.slice E A D) (.int .i64 k))) :=
  ((((G.setCell (p:=⟨w.heap.size,0,none⟩) (by simp) _).setCell (p:=⟨w.heap.size,1,none⟩) (by simp) _).setCell (p:=⟨w.heap.size,2,none⟩) (by simp) _).setCell (p:=⟨w.heap.size,3,none⟩) (by simp) _).setCell (p:=⟨w.heap.size,4,none⟩) (by simp) _
 have O:Hid (zQ w.heap.size (set5 w1 w.heap.size (.int .i64 a) (.string b) (.int .i64 c) (.slice E A D) (.int .i64 k)) x (.agg #[.int .i64 a,.string b,.int .i64 c,.slice E A D,.int .i64 k])) :=
  zQ.mono (zQ.kept H (w':=set5 w1 w.heap.size (.int .i64 a) (.string b) (.int .i64 c) (.slice E A D) (.int .i64 k)) (by simp) fun j hj _=>zi _ _ _ _ _ _ _ (by omega)) (by omega)
 have R:Hid (zY l x y o):=L;clear J G H z L I ht hl he;go_wp2
 exact bodyPost_ret (v:=.tuple #[.agg #[.int .i64 a,.string b,.int .i64 c,.slice E A D,.int .i64 k],.int .i64 y,.int .i64 o]) (by simp [results,Tryz.results56,go_sem,Q,V,T,U,N]) rfl ⟨x,y,o,_,rfl,R.out,O.out,W.out⟩
end Go.Proofs.YtmbofhpmockmbaaGreatDoor
