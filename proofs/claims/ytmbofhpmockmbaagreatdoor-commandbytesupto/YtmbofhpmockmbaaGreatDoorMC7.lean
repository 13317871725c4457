import Derived.Test.YtmbofhpmockmbaaGreatDoorMC6
import Derived.Defers
import Derived.Recover
import Derived.Tactics
import Derived.Tactics2
import Derived.Laws.Pointers
import Derived.RangeFuncRecord
namespace Go.Proofs.YtmbofhpmockmbaaGreatDoor
open Go.RowKit Go.Extern.Stop Go.Stop Go.Extern
set_option maxHeartbeats 16000000
set_option maxRecDepth 100000
theorem x7 (v:Value) (w:World):(Instr.typeAssert (.iface 171 v) 20 69 true).run Tryz.prog w=.ok (.tuple #[.iface 171 v,.bool true]) w:=by kernel_rfl
theorem vo (w:World):(Instr.typeAssert .nilIface 20 69 true).run Tryz.prog w=.ok (.tuple #[.nilIface,.bool false]) w:=by kernel_rfl
def YD (w:World):Prop:=w.cell? ⟨4,0,none⟩=some (.iface 210 (.agg #[.pointer (some ⟨11,69,none⟩)]))
theorem vp (p q:Addr) (w:World) :
  CallsD Tryz.prog 115 #[.pointer (some p),.pointer (some q)] .returning w fun e u' w'=>e=.returned (.tuple #[])∧u'=.returning∧w'=w:=by
 have o:=vo;refine callsD_of_wpS Tryz.func115 rfl fun c₀ cs hu=>?_
 simp only [Tryz.ntmps115,List.size_toArray,List.length_cons,List.length_nil,Nat.reduceAdd,Nat.reduceSub,Array.replicate_succ,Array.replicate_zero,List.push_toArray,List.append_toArray,List.nil_append,List.cons_append]
 apply wpS_seq
 apply wpS_region
 simp [wpOpsS,go_sem,recoverD,hu,Exit.thenS,o]
 apply wpS_seq
 apply wpS_region
 simp [wpOpsS,go_sem,Exit.thenS]
 refine wpS_cond (t:=false) (by simp [Act.eval]) ?_
 simp only [Bool.false_eq_true,if_false];refine wpS_of_wp (wp_skip ?_);cases c₀
 simp_all [bodyPostS,results,Tryz.results115]
theorem Xw (N:Nat) (why at0 x y:Int) (older:List PanicEntry) (w:World) (h0:w.heap[N]?=some (.cells #[.int .i64 x] 3 (0,0))) (h1:w.heap[N+1]?=some (.cells #[.int .i64 y] 25 (0,0))) (hg:YD w) :
  CallsD Tryz.prog 115 #[.pointer (some ⟨N,0,none⟩),.pointer (some ⟨N+1,0,none⟩)] (.panicking ({ v:=.iface 171 (.agg #[.int .i64 why,.int .i64 at0]),recovered:=false }::older)) w fun e u' w' =>
   e=.returned (.tuple #[])∧u'=.panicking ({ v:=.iface 171 (.agg #[.int .i64 why,.int .i64 at0]),recovered:=true }::older)∧w'.cell? ⟨N,0,none⟩=some (.int .i64 at0)∧w'.cell? ⟨N+1,0,none⟩=some (.int .i64 why)∧Below N w w':=by
 have J:=x7;refine callsD_of_wpS Tryz.func115 rfl fun c₀ cs hu=>?_
 simp only [Tryz.ntmps115,List.size_toArray,List.length_cons,List.length_nil,Nat.reduceAdd,Nat.reduceSub,Array.replicate_succ,Array.replicate_zero,List.push_toArray,List.append_toArray,List.nil_append,List.cons_append]
 apply wpS_seq
 apply wpS_region
 simp [wpOpsS,go_sem,recoverD,hu,Exit.thenS,J]
 apply wpS_seq
 apply wpS_region
 simp [wpOpsS,go_sem,Exit.thenS]
 refine wpS_cond (t:=true) (by simp [Act.eval]) ?_
 simp only [if_true];refine wpS_of_wp ?_;have L:N+1<w.heap.size:=(Array.getElem?_eq_some_iff.1 h1).1;obtain ⟨w1,A⟩:∃w1,w1=w.alloc (.cells #[.int .i64 0,.int .i64 0] 171):=⟨_,rfl⟩;have Z:w1.heap.size=w.heap.size+1:=by rw [A];simp
 have o:w1.heap[w.heap.size]?=some (.cells #[.int .i64 0,.int .i64 0] 171 (0,0)):=by rw [A];exact World.alloc_heap_new w _
 have E:∀k,k<w.heap.size→w1.heap[k]?=w.heap[k]?:=fun k hk=>by rw [A];exact Below.heap_alloc w _ k hk
 have G:YD w1:=by
  unfold YD at hg ⊢
  have Y:=World.block_lt_of_cell? w _ hg;rw [World.cell?_of_block (E _ Y)];exact hg
 have Q:=ue why at0 w.heap.size (.int .i64 0) (.int .i64 0) w1 G (by simp [World.cell?,o]) (by simp [World.cell?,o]) (by simp [World.frozen?,o]) (by simp [World.frozen?,o])
 rw [A] at Q;go_wp2_with fail
 refine Q.mono ?_;clear Q;rw [←A];rintro e w2 ⟨rfl,D⟩
 have z:∀k,k<w.heap.size→w2.heap[k]?=w.heap[k]?:=fun k hk=>by
  rw [D,Below.heap_setCell _ _ _ _ (by simp;omega),Below.heap_setCell _ _ _ _ (by simp;omega),Below.heap_alloc _ _ _ (by simp;omega),Below.heap_alloc _ _ _ (by simp;omega),Below.heap_alloc _ _ _ (by simp;omega),Below.heap_alloc _ _ _ (by omega),E k hk]
 have O:∀j v,w1.cell? ⟨w.heap.size,j,none⟩=some v→∀o1 o2 o3 o4,((((w1.alloc o1).alloc o2).alloc o3).alloc o4).cell? ⟨w.heap.size,j,none⟩=some v:=fun j v h o1 o2 o3 o4=>by
  rw [World.cell?_alloc_lt _ _ ⟨w.heap.size,j,none⟩ (by simp;omega),World.cell?_alloc_lt _ _ ⟨w.heap.size,j,none⟩ (by simp;omega),World.cell?_alloc_lt _ _ ⟨w.heap.size,j,none⟩ (by simp;omega),World.cell?_alloc_lt _ _ ⟨w.heap.size,j,none⟩ (by simp;omega)];exact h
 have V:w1.cell? ⟨w.heap.size,0,none⟩=some (.int .i64 0):=by simp [World.cell?,o]
 have U:w1.cell? ⟨w.heap.size,1,none⟩=some (.int .i64 0):=by simp [World.cell?,o]
 have d0:w2.cell? ⟨w.heap.size,0,none⟩=some (.int .i64 why):=by
  rw [D,World.cell?_setCell_other _ _ _ _ (by simp),World.cell?_setCell_same _ _ _ (O 0 _ V _ _ _ _)]
 have d1:w2.cell? ⟨w.heap.size,1,none⟩=some (.int .i64 at0):=by
  rw [D];refine World.cell?_setCell_same _ _ _ (u:=.int .i64 0) ?_;rw [World.cell?_setCell_other _ _ _ _ (by simp)]
  exact O 1 _ U _ _ _ _
 have W:w.heap.size≤w2.heap.size:=by rw [D];simp;omega
 have R:w2.heap[N]?=some (.cells #[.int .i64 x] 3 (0,0)):=(z N (by omega)).trans h0
 have M:w2.heap[N+1]?=some (.cells #[.int .i64 y] 25 (0,0)):=(z (N+1) L).trans h1
 have H:Below N w w2:=by
  rw [D,A];exact (((((((Below.refl N w).alloc (by omega) _).alloc (by simp;omega) _).alloc (by simp;omega) _).alloc (by simp;omega) _).alloc (by simp;omega) _).setCell (p:=⟨w.heap.size,0,none⟩) (by simp;omega) _).setCell (p:=⟨w.heap.size,1,none⟩) (by simp;omega) _
 have T:Hid (Below N w w2):=H;have k0:w2.cell? ⟨N,0,none⟩=some (.int .i64 x):=by simp [World.cell?,R]
 have k1:w2.cell? ⟨N+1,0,none⟩=some (.int .i64 y):=by simp [World.cell?,M]
 have ab:w2.frozen? ⟨N,0,none⟩=false:=by simp [World.frozen?,R]
 have aa:w2.frozen? ⟨N+1,0,none⟩=false:=by simp [World.frozen?,M]
 have K:∀v,(w2.setCell ⟨N,0,none⟩ v).cell? ⟨N+1,0,none⟩=some (.int .i64 y):=fun v=>(World.cell?_setCell_other _ _ _ _ (by simp)).trans k1
 clear D z O V U R M H o E G A;go_wp2
 have I:Below N w ((w2.setCell ⟨N,0,none⟩ (.int .i64 at0)).setCell ⟨N+1,0,none⟩ (.int .i64 why)):=(T.out.setCell (p:=⟨N,0,none⟩) (by simp) _).setCell (p:=⟨N+1,0,none⟩) (by simp) _
 have X:((w2.setCell ⟨N,0,none⟩ (.int .i64 at0)).setCell ⟨N+1,0,none⟩ (.int .i64 why)).cell? ⟨N,0,none⟩=some (.int .i64 at0):=by
  rw [World.cell?_setCell_other _ _ _ _ (by simp),World.cell?_setCell_same _ _ _ k0]
 have e1:((w2.setCell ⟨N,0,none⟩ (.int .i64 at0)).setCell ⟨N+1,0,none⟩ (.int .i64 why)).cell? ⟨N+1,0,none⟩=some (.int .i64 why):=World.cell?_setCell_same _ _ _ (K _)
 simp [bodyPostS,results,Tryz.results115]
 exact ⟨X,e1,I⟩
abbrev vq (why at0:Int):Value:=.iface 171 (.agg #[.int .i64 why,.int .i64 at0])
abbrev UQ (w:World):World:=(w.alloc (.cells #[.int .i64 0] 3)).alloc (.cells #[.int .i64 0] 25)
theorem xu (g:FuncId) (cap:Array Value) (w:World) (Q:World→Prop) (Pn:Int→Int→World→Prop) (hent:∀w,(callFunc g cap).run Tryz.prog w=.ok (.enter g cap) w)
  (hdo:Calls Tryz.prog g cap (UQ w) fun e w'=>w'.heap[w.heap.size]?=some (.cells #[.int .i64 0] 3 (0,0))∧w'.heap[w.heap.size+1]?=some (.cells #[.int .i64 0] 25 (0,0))∧YD w'∧((e=.returned (.tuple #[])∧Q w')∨∃o y,e=.panicked [{ v:=vq o y,recovered:=false }]∧Pn o y w')) :
  Calls Tryz.prog 95 #[.func (.func g) #[] cap] w fun e w' =>
   (∃w0,e=.returned (.tuple #[.int .i64 0,.int .i64 0])∧Q w0∧Below w.heap.size w0 w'∧∀k,k≠w.heap.size→k≠w.heap.size+1→w'.heap[k]?=w0.heap[k]?)∨∃o y w0,e=.returned (.tuple #[.int .i64 y,.int .i64 o])∧Pn o y w0∧Below w.heap.size w0 w':=by
 have T:∀(fn:Fn) (first cap:Array Value) (w:World),(Instr.makeFunc fn first cap).run Tryz.prog w=.ok (.func fn first cap) w:=fun _ _ _ _=>rfl
 go_enter_defers Tryz.func95,Tryz.ntmps95
 go_wp2_with fail
 refine hdo.mono ?_;clear hdo;rintro e z ⟨A,D,N,h⟩;have R:z.cell? ⟨w.heap.size,0,none⟩=some (.int .i64 0):=by simp [World.cell?,A]
 have k1:z.cell? ⟨w.heap.size+1,0,none⟩=some (.int .i64 0):=by simp [World.cell?,D]
 have U:z.frozen? ⟨w.heap.size,0,none⟩=false:=by simp [World.frozen?,A]
 have V:z.frozen? ⟨w.heap.size+1,0,none⟩=false:=by simp [World.frozen?,D]
 have I:∀v,(z.setCell ⟨w.heap.size,0,none⟩ v).cell? ⟨w.heap.size+1,0,none⟩=some (.int .i64 0):=fun v=>(World.cell?_setCell_other _ _ _ _ (by simp)).trans k1
 rcases h with ⟨rfl,O⟩ | ⟨o,y,rfl,M⟩
 ·have E:Below w.heap.size z ((z.setCell ⟨w.heap.size,0,none⟩ (.int .i64 0)).setCell ⟨w.heap.size+1,0,none⟩ (.int .i64 0)):=((Below.refl w.heap.size z).setCell (p:=⟨w.heap.size,0,none⟩) (by simp) _).setCell (p:=⟨w.heap.size+1,0,none⟩) (by simp) _
  have L:Hid (Below w.heap.size z ((z.setCell ⟨w.heap.size,0,none⟩ (.int .i64 0)).setCell ⟨w.heap.size+1,0,none⟩ (.int .i64 0))):=E
  have G:((z.setCell ⟨w.heap.size,0,none⟩ (.int .i64 0)).setCell ⟨w.heap.size+1,0,none⟩ (.int .i64 0)).cell? ⟨w.heap.size,0,none⟩=some (.int .i64 0):=by
   rw [World.cell?_setCell_other _ _ _ _ (by simp),World.cell?_setCell_same _ _ _ R]
  have J:((z.setCell ⟨w.heap.size,0,none⟩ (.int .i64 0)).setCell ⟨w.heap.size+1,0,none⟩ (.int .i64 0)).cell? ⟨w.heap.size+1,0,none⟩=some (.int .i64 0):=World.cell?_setCell_same _ _ _ (I _);clear E;go_wp2
  refine leaves_cons (f:=115) (args:=#[.pointer (some ⟨w.heap.size,0,none⟩),.pointer (some ⟨w.heap.size+1,0,none⟩)]) (by simp) (by simp [go_sem]) ?_
  refine (vp ⟨w.heap.size,0,none⟩ ⟨w.heap.size+1,0,none⟩ _).mono ?_;rintro e K H ⟨rfl,rfl,rfl⟩
  simp [Leaves,settle,results,Tryz.results95,go_sem,G,J]
  exact .inl ⟨z,O,L.out,fun k A D=>by rw [Below.heap_setCell _ _ _ _ (by simpa using D),Below.heap_setCell _ _ _ _ (by simpa using A)]⟩
 ·refine leaves_cons (f:=115) (args:=#[.pointer (some ⟨w.heap.size,0,none⟩),.pointer (some ⟨w.heap.size+1,0,none⟩)]) (by simp) (by simp [go_sem]) ?_
  refine (Xw w.heap.size o y 0 0 [] z A D N).mono ?_;rintro e K H ⟨rfl,rfl,G,J,E⟩
  simp [Leaves,settle,results,Tryz.results95,go_sem,G,J]
  exact .inr ⟨o,y,⟨rfl,rfl⟩,z,M,E⟩
end Go.Proofs.YtmbofhpmockmbaaGreatDoor
