import Derived.Test.YtmbofhpmockmbaaGreatDoorSReadX
namespace Go.Proofs.YtmbofhpmockmbaaGreatDoor
open Go.RowKit Go.Shelf
set_option maxHeartbeats 16000000
set_option maxRecDepth 100000
theorem Uv (l:List UInt8) (w:World) (ht:Zp w) (hl:ZW w) (he:Ym w) :
  Calls Tryz.prog 56 #[.string (za l)] w fun e w' =>
   ∃(x:Ex) (y o:Nat) (v:Value),e=.returned (.tuple #[v,.int .i64 y,.int .i64 o])∧zV l x y o∧zN w.heap.size w' x v∧Below w.heap.size w w':=by
 have I:Below w.heap.size w (w.alloc zC):=(Below.refl w.heap.size w).alloc (Nat.le_refl _) _;have M:=Uu l (w.alloc zC) (ht.below I (Nat.le_refl _)) (fun j v hj=>ze (hl j v hj) _) (ze he _)
 go_enter Tryz.func56,Tryz.ntmps56
 go_wp2_with fail
 refine M.mono ?_;clear M;rintro e w1 ⟨x,y,o,v,rfl,L,H,z⟩;obtain ⟨a,b,c,D,A,E,k,rfl⟩:=H.agg;have K:(w.alloc zC).heap.size=w.heap.size+1:=by simp
 rw [K] at H z;have J:w1.heap[w.heap.size]?=some zC:=(z.block w.heap.size (by omega)).trans (World.alloc_heap_new w _)
 obtain ⟨q0,Y,Z,W,q4,X⟩:=zs J;obtain ⟨V,T,Q,S,N⟩:=zq J (.int .i64 a) (.string b) (.int .i64 c) (.slice D A E) (.int .i64 k);have G:Below w.heap.size w w1:=I.trans (z.mono (by omega))
 have O:Hid (Below w.heap.size w (set5 w1 w.heap.size (.int .i64 a) (.string b) (.int .i64 c) (.slice D A E) (.int .i64 k))) :=
  ((((G.setCell (p:=⟨w.heap.size,0,none⟩) (by simp) _).setCell (p:=⟨w.heap.size,1,none⟩) (by simp) _).setCell (p:=⟨w.heap.size,2,none⟩) (by simp) _).setCell (p:=⟨w.heap.size,3,none⟩) (by simp) _).setCell (p:=⟨w.heap.size,4,none⟩) (by simp) _
 have R:Hid (zN w.heap.size (set5 w1 w.heap.size (.int .i64 a) (.string b) (.int .i64 c) (.slice D A E) (.int .i64 k)) x (.agg #[.int .i64 a,.string b,.int .i64 c,.slice D A E,.int .i64 k])) :=
  zN.mono (zN.kept H (w':=set5 w1 w.heap.size (.int .i64 a) (.string b) (.int .i64 c) (.slice D A E) (.int .i64 k)) (by simp) fun j hj _=>zh _ _ _ _ _ _ _ (by omega)) (by omega)
 have U:Hid (zV l x y o):=L;clear I G H z L J ht hl he;go_wp2
 exact bodyPost_ret (v:=.tuple #[.agg #[.int .i64 a,.string b,.int .i64 c,.slice D A E,.int .i64 k],.int .i64 y,.int .i64 o]) (by simp [results,Tryz.results56,go_sem,V,T,Q,S,N]) rfl ⟨x,y,o,_,rfl,U.out,R.out,O.out⟩
end Go.Proofs.YtmbofhpmockmbaaGreatDoor
