import Derived.Test.YtmbofhpmockmbaaGreatDoorSReadX
namespace Go.Proofs.YtmbofhpmockmbaaGreatDoor
open Go.RowKit Go.Shelf
set_option maxHeartbeats 16000000
set_option maxRecDepth 100000
theorem qF (l:List UInt8) (w:World) (ht:ZB w) (hl:yc w) (he:Y3 w) :
  Calls Tryz.prog 56 #[.string (za l)] w fun e w' =>
   ∃(x:Ex) (y o:Nat) (v:Value),e=.returned (.tuple #[v,.int .i64 y,.int .i64 o])∧Zb l x y o∧zX w.heap.size w' x v∧Below w.heap.size w w':=by
 have J:Below w.heap.size w (w.alloc zE):=(Below.refl w.heap.size w).alloc (Nat.le_refl _) _;have L:=qE l (w.alloc zE) (ht.below J (Nat.le_refl _)) (fun j v hj=>zg (hl j v hj) _) (zg he _)
 go_enter Tryz.func56,Tryz.ntmps56
 go_wp2_with fail
 refine L.mono ?_;clear L;rintro e w1 ⟨x,y,o,v,rfl,M,H,z⟩;obtain ⟨a,b,c,E,D,A,k,rfl⟩:=H.agg;have I:(w.alloc zE).heap.size=w.heap.size+1:=by simp
 rw [I] at H z;have K:w1.heap[w.heap.size]?=some zE:=(z.block w.heap.size (by omega)).trans (World.alloc_heap_new w _)
 obtain ⟨q0,q1,q2,q3,Y,Z⟩:=zv K;obtain ⟨Q,T,W,R,O⟩:=zr K (.int .i64 a) (.string b) (.int .i64 c) (.slice E D A) (.int .i64 k);have G:Below w.heap.size w w1:=J.trans (z.mono (by omega))
 have X:Hid (Below w.heap.size w (set5 w1 w.heap.size (.int .i64 a) (.string b) (.int .i64 c) (.slice E D A) (.int .i64 k))) :=
  ((((G.setCell (p:=⟨w.heap.size,0,none⟩) (by simp) _).setCell (p:=⟨w.heap.size,1,none⟩) (by simp) _).setCell (p:=⟨w.heap.size,2,none⟩) (by simp) _).setCell (p:=⟨w.heap.size,3,none⟩) (by simp) _).setCell (p:=⟨w.heap.size,4,none⟩) (by simp) _
 have U:Hid (zX w.heap.size (set5 w1 w.heap.size (.int .i64 a) (.string b) (.int .i64 c) (.slice E D A) (.int .i64 k)) x (.agg #[.int .i64 a,.string b,.int .i64 c,.slice E D A,.int .i64 k])) :=
  zX.mono (zX.kept H (w':=set5 w1 w.heap.size (.int .i64 a) (.string b) (.int .i64 c) (.slice E D A) (.int .i64 k)) (by simp) fun j hj _=>zj _ _ _ _ _ _ _ (by omega)) (by omega)
 have V:Hid (Zb l x y o):=M;clear J G H z M K ht hl he;go_wp2
 exact bodyPost_ret (v:=.tuple #[.agg #[.int .i64 a,.string b,.int .i64 c,.slice E D A,.int .i64 k],.int .i64 y,.int .i64 o]) (by simp [results,Tryz.results56,go_sem,Q,T,W,R,O]) rfl ⟨x,y,o,_,rfl,V.out,U.out,X.out⟩
end Go.Proofs.YtmbofhpmockmbaaGreatDoor
