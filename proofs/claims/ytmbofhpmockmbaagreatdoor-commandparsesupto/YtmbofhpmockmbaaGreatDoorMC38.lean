import Derived.Test.YtmbofhpmockmbaaGreatDoorMC7
namespace Go.Proofs.YtmbofhpmockmbaaGreatDoor
open Go.RowKit
theorem xk {p:UInt8→Bool} (z:List UInt8):∀r:List UInt8,(r.takeWhile p).length=r.length→(r++z).takeWhile p=r++z.takeWhile p
 | [],_=>rfl
 | y::r,h=>by
  rw [List.cons_append]
  by_cases hy:p y=true
  ·rw [List.takeWhile_cons_of_pos hy] at h ⊢
   rw [xk z r (by simpa using h)];rfl
  ·rw [List.takeWhile_cons_of_neg hy] at h;simp at h
theorem yG {p:UInt8→Bool}:∀r:List UInt8,(∀x∈r,p x=true)→r.takeWhile p=r
 | [],_=>rfl
 | y::r,h=>by rw [List.takeWhile_cons_of_pos (h y (List.mem_cons_self ..)),yG r (fun x hx=>h x (List.mem_cons_of_mem _ hx))]
theorem uq:ZL []=0:=by
 rw [YB]
 rfl
end Go.Proofs.YtmbofhpmockmbaaGreatDoor
