import Derived.Test.YtmbofhpmockmbaaGreatDoorMC10
import Derived.Defers
import Derived.Recover
import Derived.Tactics
import Derived.Tactics2
import Derived.Laws.Pointers
import Derived.RangeFuncRecord
namespace Go.Proofs.YtmbofhpmockmbaaGreatDoor
open Go.RowKit Go.Extern.Stop Go.Stop Go.Extern
set_option maxHeartbeats 16000000
set_option maxRecDepth 100000
theorem XD (v:Value) (w:World):(Instr.typeAssert (.iface 171 v) 20 69 true).run Tryz.prog w=.ok (.tuple #[.iface 171 v,.bool true]) w:=by kernel_rfl
theorem vZ (w:World):(Instr.typeAssert .nilIface 20 69 true).run Tryz.prog w=.ok (.tuple #[.nilIface,.bool false]) w:=by kernel_rfl
def Y3 (w:World):Prop:=w.cell? ⟨4,0,none⟩=some (.iface 210 (.agg #[.pointer (some ⟨11,69,none⟩)]))
theorem v6 (p q:Addr) (w:World) :
  CallsD Tryz.prog 115 #[.pointer (some p),.pointer (some q)] .returning w fun e u' w'=>e=.returned (.tuple #[])∧u'=.returning∧w'=w:=by
 have o:=vZ;refine callsD_of_wpS Tryz.func115 rfl fun c₀ cs hu=>?_
 simp only [Tryz.ntmps115,List.size_toArray,List.length_cons,List.length_nil,Nat.reduceAdd,Nat.reduceSub,Array.replicate_succ,Array.replicate_zero,List.push_toArray,List.append_toArray,List.nil_append,List.cons_append]
 apply wpS_seq
 apply wpS_region
 simp [wpOpsS,go_sem,recoverD,hu,Exit.thenS,o]
 apply wpS_seq
 apply wpS_region
 simp [wpOpsS,go_sem,Exit.thenS]
 refine wpS_cond (t:=false) (by simp [Act.eval]) ?_
 simp only [Bool.false_eq_true,if_false];refine wpS_of_wp (wp_skip ?_);cases c₀
 simp_all [bodyPostS,results,Tryz.results115]
theorem X3 (N:Nat) (why at0 x y:Int) (older:List PanicEntry) (w:World) (h0:w.heap[N]?=some (.cells #[.int .i64 x] 3 (0,0))) (h1:w.heap[N+1]?=some (.cells #[.int .i64 y] 25 (0,0))) (hg:Y3 w) :
  CallsD Tryz.prog 115 #[.pointer (some ⟨N,0,none⟩),.pointer (some ⟨N+1,0,none⟩)] (.panicking ({ v:=.iface 171 (.agg #[.int .i64 why,.int .i64 at0]),recovered:=false }::older)) w fun e u' w' =>
   e=.returned (.tuple #[])∧u'=.panicking ({ v:=.iface 171 (.agg #[.int .i64 why,.int .i64 at0]),recovered:=true }::older)∧w'.cell? ⟨N,0,none⟩=some (.int .i64 at0)∧w'.cell? ⟨N+1,0,none⟩=some (.int .i64 why)∧Below N w w':=by
 have K:=XD;refine callsD_of_wpS Tryz.func115 rfl fun c₀ cs hu=>?_
 simp only [Tryz.ntmps115,List.size_toArray,List.length_cons,List.length_nil,Nat.reduceAdd,Nat.reduceSub,Array.replicate_succ,Array.replicate_zero,List.push_toArray,List.append_toArray,List.nil_append,List.cons_append]
 apply wpS_seq
 apply wpS_region
 simp [wpOpsS,go_sem,recoverD,hu,Exit.thenS,K]
 apply wpS_seq
 apply wpS_region
 simp [wpOpsS,go_sem,Exit.thenS]
 refine wpS_cond (t:=true) (by simp [Act.eval]) ?_
 simp only [if_true];refine wpS_of_wp ?_;have R:N+1<w.heap.size:=(Array.getElem?_eq_some_iff.1 h1).1;obtain ⟨w1,z⟩:∃w1,w1=w.alloc (.cells #[.int .i64 0,.int .i64 0] 171):=⟨_,rfl⟩;have aa:w1.heap.size=w.heap.size+1:=by rw [z];simp
 have o:w1.heap[w.heap.size]?=some (.cells #[.int .i64 0,.int .i64 0] 171 (0,0)):=by rw [z];exact World.alloc_heap_new w _
 have E:∀k,k<w.heap.size→w1.heap[k]?=w.heap[k]?:=fun k hk=>by rw [z];exact Below.heap_alloc w _ k hk
 have H:Y3 w1:=by
  unfold Y3 at hg ⊢
  have Y:=World.block_lt_of_cell? w _ hg;rw [World.cell?_of_block (E _ Y)];exact hg
 have L:=uS why at0 w.heap.size (.int .i64 0) (.int .i64 0) w1 H (by simp [World.cell?,o]) (by simp [World.cell?,o]) (by simp [World.frozen?,o]) (by simp [World.frozen?,o])
 rw [z] at L;go_wp2_with fail
 refine L.mono ?_;clear L;rw [←z];rintro e w2 ⟨rfl,D⟩
 have A:∀k,k<w.heap.size→w2.heap[k]?=w.heap[k]?:=fun k hk=>by
  rw [D,Below.heap_setCell _ _ _ _ (by simp;omega),Below.heap_setCell _ _ _ _ (by simp;omega),Below.heap_alloc _ _ _ (by simp;omega),Below.heap_alloc _ _ _ (by simp;omega),Below.heap_alloc _ _ _ (by simp;omega),Below.heap_alloc _ _ _ (by omega),E k hk]
 have Q:∀j v,w1.cell? ⟨w.heap.size,j,none⟩=some v→∀o1 o2 o3 o4,((((w1.alloc o1).alloc o2).alloc o3).alloc o4).cell? ⟨w.heap.size,j,none⟩=some v:=fun j v h o1 o2 o3 o4=>by
  rw [World.cell?_alloc_lt _ _ ⟨w.heap.size,j,none⟩ (by simp;omega),World.cell?_alloc_lt _ _ ⟨w.heap.size,j,none⟩ (by simp;omega),World.cell?_alloc_lt _ _ ⟨w.heap.size,j,none⟩ (by simp;omega),World.cell?_alloc_lt _ _ ⟨w.heap.size,j,none⟩ (by simp;omega)];exact h
 have W:w1.cell? ⟨w.heap.size,0,none⟩=some (.int .i64 0):=by simp [World.cell?,o]
 have V:w1.cell? ⟨w.heap.size,1,none⟩=some (.int .i64 0):=by simp [World.cell?,o]
 have d0:w2.cell? ⟨w.heap.size,0,none⟩=some (.int .i64 why):=by
  rw [D,World.cell?_setCell_other _ _ _ _ (by simp),World.cell?_setCell_same _ _ _ (Q 0 _ W _ _ _ _)]
 have d1:w2.cell? ⟨w.heap.size,1,none⟩=some (.int .i64 at0):=by
  rw [D];refine World.cell?_setCell_same _ _ _ (u:=.int .i64 0) ?_;rw [World.cell?_setCell_other _ _ _ _ (by simp)]
  exact Q 1 _ V _ _ _ _
 have U:w.heap.size≤w2.heap.size:=by rw [D];simp;omega
 have J:w2.heap[N]?=some (.cells #[.int .i64 x] 3 (0,0)):=(A N (by omega)).trans h0
 have T:w2.heap[N+1]?=some (.cells #[.int .i64 y] 25 (0,0)):=(A (N+1) R).trans h1
 have G:Below N w w2:=by
  rw [D,z];exact (((((((Below.refl N w).alloc (by omega) _).alloc (by simp;omega) _).alloc (by simp;omega) _).alloc (by simp;omega) _).alloc (by simp;omega) _).setCell (p:=⟨w.heap.size,0,none⟩) (by simp;omega) _).setCell (p:=⟨w.heap.size,1,none⟩) (by simp;omega) _
 have M:Hid (Below N w w2):=G;have Z:w2.cell? ⟨N,0,none⟩=some (.int .i64 x):=by simp [World.cell?,J]
 have k1:w2.cell? ⟨N+1,0,none⟩=some (.int .i64 y):=by simp [World.cell?,T]
 have ab:w2.frozen? ⟨N,0,none⟩=false:=by simp [World.frozen?,J]
 have X:w2.frozen? ⟨N+1,0,none⟩=false:=by simp [World.frozen?,T]
 have O:∀v,(w2.setCell ⟨N,0,none⟩ v).cell? ⟨N+1,0,none⟩=some (.int .i64 y):=fun v=>(World.cell?_setCell_other _ _ _ _ (by simp)).trans k1
 clear D A Q W V J T G o E H z;go_wp2
 have I:Below N w ((w2.setCell ⟨N,0,none⟩ (.int .i64 at0)).setCell ⟨N+1,0,none⟩ (.int .i64 why)):=(M.out.setCell (p:=⟨N,0,none⟩) (by simp) _).setCell (p:=⟨N+1,0,none⟩) (by simp) _
 have e0:((w2.setCell ⟨N,0,none⟩ (.int .i64 at0)).setCell ⟨N+1,0,none⟩ (.int .i64 why)).cell? ⟨N,0,none⟩=some (.int .i64 at0):=by
  rw [World.cell?_setCell_other _ _ _ _ (by simp),World.cell?_setCell_same _ _ _ Z]
 have e1:((w2.setCell ⟨N,0,none⟩ (.int .i64 at0)).setCell ⟨N+1,0,none⟩ (.int .i64 why)).cell? ⟨N+1,0,none⟩=some (.int .i64 why):=World.cell?_setCell_same _ _ _ (O _)
 simp [bodyPostS,results,Tryz.results115]
 exact ⟨e0,e1,I⟩
abbrev v7 (why at0:Int):Value:=.iface 171 (.agg #[.int .i64 why,.int .i64 at0])
abbrev qw (w:World):World:=(w.alloc (.cells #[.int .i64 0] 3)).alloc (.cells #[.int .i64 0] 25)
theorem xW (g:FuncId) (cap:Array Value) (w:World) (Q:World→Prop) (Pn:Int→Int→World→Prop) (hent:∀w,(callFunc g cap).run Tryz.prog w=.ok (.enter g cap) w)
  (hdo:Calls Tryz.prog g cap (qw w) fun e w'=>w'.heap[w.heap.size]?=some (.cells #[.int .i64 0] 3 (0,0))∧w'.heap[w.heap.size+1]?=some (.cells #[.int .i64 0] 25 (0,0))∧Y3 w'∧((e=.returned (.tuple #[])∧Q w')∨∃y o,e=.panicked [{ v:=v7 y o,recovered:=false }]∧Pn y o w')) :
  Calls Tryz.prog 95 #[.func (.func g) #[] cap] w fun e w' =>
   (∃w0,e=.returned (.tuple #[.int .i64 0,.int .i64 0])∧Q w0∧Below w.heap.size w0 w'∧∀k,k≠w.heap.size→k≠w.heap.size+1→w'.heap[k]?=w0.heap[k]?)∨∃y o w0,e=.returned (.tuple #[.int .i64 o,.int .i64 y])∧Pn y o w0∧Below w.heap.size w0 w':=by
 have L:∀(fn:Fn) (first cap:Array Value) (w:World),(Instr.makeFunc fn first cap).run Tryz.prog w=.ok (.func fn first cap) w:=fun _ _ _ _=>rfl
 go_enter_defers Tryz.func95,Tryz.ntmps95
 go_wp2_with fail
 refine hdo.mono ?_;clear hdo;rintro e z ⟨A,D,U,h⟩;have M:z.cell? ⟨w.heap.size,0,none⟩=some (.int .i64 0):=by simp [World.cell?,A]
 have k1:z.cell? ⟨w.heap.size+1,0,none⟩=some (.int .i64 0):=by simp [World.cell?,D]
 have O:z.frozen? ⟨w.heap.size,0,none⟩=false:=by simp [World.frozen?,A]
 have K:z.frozen? ⟨w.heap.size+1,0,none⟩=false:=by simp [World.frozen?,D]
 have I:∀v,(z.setCell ⟨w.heap.size,0,none⟩ v).cell? ⟨w.heap.size+1,0,none⟩=some (.int .i64 0):=fun v=>(World.cell?_setCell_other _ _ _ _ (by simp)).trans k1
 rcases h with ⟨rfl,W⟩ | ⟨y,o,rfl,R⟩
 ·have E:Below w.heap.size z ((z.setCell ⟨w.heap.size,0,none⟩ (.int .i64 0)).setCell ⟨w.heap.size+1,0,none⟩ (.int .i64 0)):=((Below.refl w.heap.size z).setCell (p:=⟨w.heap.size,0,none⟩) (by simp) _).setCell (p:=⟨w.heap.size+1,0,none⟩) (by simp) _
  have V:Hid (Below w.heap.size z ((z.setCell ⟨w.heap.size,0,none⟩ (.int .i64 0)).setCell ⟨w.heap.size+1,0,none⟩ (.int .i64 0))):=E
  have H:((z.setCell ⟨w.heap.size,0,none⟩ (.int .i64 0)).setCell ⟨w.heap.size+1,0,none⟩ (.int .i64 0)).cell? ⟨w.heap.size,0,none⟩=some (.int .i64 0):=by
   rw [World.cell?_setCell_other _ _ _ _ (by simp),World.cell?_setCell_same _ _ _ M]
  have J:((z.setCell ⟨w.heap.size,0,none⟩ (.int .i64 0)).setCell ⟨w.heap.size+1,0,none⟩ (.int .i64 0)).cell? ⟨w.heap.size+1,0,none⟩=some (.int .i64 0):=World.cell?_setCell_same _ _ _ (I _);clear E;go_wp2
  refine leaves_cons (f:=115) (args:=#[.pointer (some ⟨w.heap.size,0,none⟩),.pointer (some ⟨w.heap.size+1,0,none⟩)]) (by simp) (by simp [go_sem]) ?_
  refine (v6 ⟨w.heap.size,0,none⟩ ⟨w.heap.size+1,0,none⟩ _).mono ?_;rintro e T G ⟨rfl,rfl,rfl⟩
  simp [Leaves,settle,results,Tryz.results95,go_sem,H,J]
  exact .inl ⟨z,W,V.out,fun k A D=>by rw [Below.heap_setCell _ _ _ _ (by simpa using D),Below.heap_setCell _ _ _ _ (by simpa using A)]⟩
 ·refine leaves_cons (f:=115) (args:=#[.pointer (some ⟨w.heap.size,0,none⟩),.pointer (some ⟨w.heap.size+1,0,none⟩)]) (by simp) (by simp [go_sem]) ?_
  refine (X3 w.heap.size y o 0 0 [] z A D U).mono ?_;rintro e T G ⟨rfl,rfl,H,J,E⟩
  simp [Leaves,settle,results,Tryz.results95,go_sem,H,J]
  exact .inr ⟨y,o,⟨rfl,rfl⟩,z,R,E⟩
end Go.Proofs.YtmbofhpmockmbaaGreatDoor
