import Derived.Test.YtmbofhpmockmbaaGreatDoorProg
import Derived.WalkKit
import Derived.LaidEql
import Derived.Stop.Asserts
import Derived.RowKitTokens
import Derived.Below
import Derived.LoopN
import Derived.Defers
import Derived.Recover
import Derived.Tactics
import Derived.Tactics2
import Derived.Laws.Pointers
import Derived.RangeFuncRecord
namespace Go.Proofs.YtmbofhpmockmbaaGreatDoor
open Go.RowKit Go.Extern.Stop Go.Stop Go.Extern
set_option maxHeartbeats 16000000
set_option maxRecDepth 100000
theorem V8 (t:Addr) (w:World):(ReflectliteValue.unpack (.iface 173 (.pointer (some t)))).run Tryz.prog w
  = .ok (.agg #[.pointer (some ⟨11,173,none⟩),.pointer (some ⟨w.heap.size,0,none⟩),.int .u64 150]) (w.alloc (.cells #[.pointer (some t)] 173)):=by kernel_rfl
theorem Qi (a : Addr) (w : World) : (ReflectliteValue.methodAny (ReflectliteValue.valueError "reflectlite.Value.Type" 0) (fun t _ _ _ => ReflectliteType.toType t) #[.agg #[.pointer (some ⟨11, 173, none⟩), .pointer (some a), .int .u64 150]]).run Tryz.prog w
  = .ok (.iface 210 (.agg #[.pointer (some ⟨11,173,none⟩)])) w:=by kernel_rfl
theorem vB (h : Value) (w : World) : (Go.method 356 210 (.agg #[h]) "Kind").run Tryz.prog w = .ok (194, h) w := by kernel_rfl
theorem Qj (w:World):((ReflectliteType.abiMethod fun t=>(fun a:Nat=>Value.int IntKind.u8 (a:Int)) <$> Rtype.kind t) #[.pointer (some ⟨11,173,none⟩)]).run Tryz.prog w=.ok (.int .u8 22) w:=by kernel_rfl
theorem Qk (w:World):((ReflectliteType.abiMethod fun t=>(fun a:Nat=>Value.int IntKind.u8 (a:Int)) <$> Rtype.kind t) #[.pointer (some ⟨11,171,none⟩)]).run Tryz.prog w=.ok (.int .u8 25) w:=by kernel_rfl
theorem za4 (z:Sem Value) (f:TypeId→Addr→Nat→Nat→Sem Value) (v:Value) :
  ReflectliteValue.method z f #[v]=(do match ←ReflectliteValue.parts v with | none=>z | some (t,a,fl)=>f t a fl (fl % 32)):=rfl
theorem vX (a:Addr) (w:World):(ReflectliteValue.parts (.agg #[.pointer (some ⟨11,173,none⟩),.pointer (some a),.int .u64 150])).run Tryz.prog w=.ok (some (173,a,150)) w:=by kernel_rfl
theorem qh (a p:Addr) (W:World) (ha:W.cell? a=some (.pointer (some p))) :
  (ReflectliteValue.method (ReflectliteValue.valueError "reflectlite.Value.IsNil" 0) ReflectliteValue.isNil #[.agg #[.pointer (some ⟨11, 173, none⟩), .pointer (some a), .int .u64 150]]).run Tryz.prog W = .ok (.bool false) W := by
 rw [za4];simp only [Sem.run_bind,vX,Result.andThen]
 simp [ReflectliteValue.isNil,loadVar,isAgg,underlying,Tryz.underlying173,ha,Result.andThen]
theorem vC (h : Value) (w : World) : (Go.method 356 210 (.agg #[h]) "Elem").run Tryz.prog w = .ok (209, .agg #[h]) w := by kernel_rfl
theorem xd (h : Value) (w : World) : (Go.method 356 210 (.agg #[h]) "Implements").run Tryz.prog w = .ok (210, .agg #[h]) w := by kernel_rfl
theorem YO (h : Value) (w : World) : (Go.method 356 210 (.agg #[h]) "AssignableTo").run Tryz.prog w = .ok (207, .agg #[h]) w := by kernel_rfl
theorem Ql (w:World):(ReflectliteType.method ReflectliteType.elem #[.agg #[.pointer (some ⟨11,173,none⟩)]]).run Tryz.prog w=.ok (.iface 210 (.agg #[.pointer (some ⟨11,171,none⟩)])) w:=by kernel_rfl
theorem XA (w : World) : (ReflectliteType.relation "Implements" ReflectliteType.implements_ #[.agg #[.pointer (some ⟨11, 171, none⟩)], .iface 210 (.agg #[.pointer (some ⟨11, 69, none⟩)])]).run Tryz.prog w = .ok (.bool true) w := by kernel_rfl
theorem Uf (v:Value) (w:World):(ReflectliteType.typeOf #[.iface 171 v]).run Tryz.prog w=.ok (.iface 210 (.agg #[.pointer (some ⟨11,171,none⟩)])) w:=by kernel_rfl
theorem XB (w : World) : (ReflectliteType.relation "AssignableTo" ReflectliteType.assignableTo #[.agg #[.pointer (some ⟨11, 171, none⟩)], .iface 210 (.agg #[.pointer (some ⟨11, 171, none⟩)])]).run Tryz.prog w = .ok (.bool true) w := by kernel_rfl
theorem V9 (a b:Value) (w:World):(ReflectliteValue.unpack (.iface 171 (.agg #[a,b]))).run Tryz.prog w
  = .ok (.agg #[.pointer (some ⟨11,171,none⟩),.pointer (some ⟨w.heap.size,0,none⟩),.int .u64 153]) (w.alloc (.cells #[a,b] 171)):=by kernel_rfl
theorem Ug (w:World):(Rtype.elem? 173).run Tryz.prog w=.ok (some 171) w:=by kernel_rfl
theorem zaI (p:Addr) (w:World):(ReflectliteValue.mk 171 p ReflectliteValue.flagAddr).run Tryz.prog w=.ok (.agg #[.pointer (some ⟨11,171,none⟩),.pointer (some p),.int .u64 409]) w:=by kernel_rfl
theorem qi (a p:Addr) (W:World) (ha:W.cell? a=some (.pointer (some p))) :
  (ReflectliteValue.method (ReflectliteValue.valueError "reflectlite.Value.Elem" 0) ReflectliteValue.elem #[.agg #[.pointer (some ⟨11, 173, none⟩), .pointer (some a), .int .u64 150]]).run Tryz.prog W
   = .ok (.agg #[.pointer (some ⟨11,171,none⟩),.pointer (some p),.int .u64 409]) W:=by
 rw [za4];simp only [Sem.run_bind,vX,Result.andThen]
 simp [ReflectliteValue.elem,loadVar,isAgg,underlying,Tryz.underlying173,ha,Result.andThen,Ug,zaI]
theorem Uh (a:Addr) (w:World):(ReflectliteValue.parts (.agg #[.pointer (some ⟨11,171,none⟩),.pointer (some a),.int .u64 409])).run Tryz.prog w=.ok (some (171,a,409)) w:=by kernel_rfl
theorem qj (a:Addr) (w:World):(ReflectliteValue.parts (.agg #[.pointer (some ⟨11,171,none⟩),.pointer (some a),.int .u64 153])).run Tryz.prog w=.ok (some (171,a,153)) w:=by kernel_rfl
theorem Ui (w:World):(Rtype.directlyAssignable 171 171).run Tryz.prog w=.ok true w:=by kernel_rfl
theorem zbE (v x:Value):ReflectliteValue.set #[v,x]=(do
  let (some (dst,a,fl),some (src,b,_)):=(←ReflectliteValue.parts v,←ReflectliteValue.parts x)
   | unsupported (.noEntry "extern/(internal/reflectlite.Value).Set.zeroValue")
  if fl / ReflectliteValue.flagAddr % 2 == 0 then unsupported (.noEntry "extern/(internal/reflectlite.Value).Set.unaddressable")
  let val ←loadVar src b
  if ←Rtype.directlyAssignable dst src then storeVar dst a val
  else if ←Rtype.implements dst src then
   if (←Rtype.kind src)==20 then
    match val with
    | .nilIface => unsupported (.noEntry "extern/reflectlite: a nil value of one interface type handed on as a value of another")
    | _=>storeVar dst a val
   else storeVar dst a (.iface src val)
  else panicString ("reflectlite.Set: value of type " ++ (← Rtype.spelt src) ++ " is not assignable to type " ++ (← Rtype.spelt dst))
  pure (.tuple #[])):=rfl
theorem zae (g h:Nat) (x y:Int) (o0 o1:Value) (W:World) (hx:W.cell? ⟨h,0,none⟩=some (.int .i64 x)) (hy:W.cell? ⟨h,1,none⟩=some (.int .i64 y)) (h0:W.cell? ⟨g,0,none⟩=some o0) (h1:W.cell? ⟨g,1,none⟩=some o1) (f0:W.frozen? ⟨g,0,none⟩=false) (f1:W.frozen? ⟨g,1,none⟩=false) :
  (ReflectliteValue.set #[.agg #[.pointer (some ⟨11,171,none⟩),.pointer (some ⟨g,0,none⟩),.int .u64 409],.agg #[.pointer (some ⟨11,171,none⟩),.pointer (some ⟨h,0,none⟩),.int .u64 153]]).run Tryz.prog W
   = .ok (.tuple #[]) ((W.setCell ⟨g,0,none⟩ (.int .i64 x)).setCell ⟨g,1,none⟩ (.int .i64 y)):=by
 have z:(loadCells ⟨h,0,none⟩ 2).run Tryz.prog W=.ok #[.int .i64 x,.int .i64 y] W:=by
  have e:=run_loadCells_list (P:=Tryz.prog) W ⟨h,0,none⟩ [.int .i64 x,.int .i64 y] (fun j v hj=>by
   match j,hj with
   | 0,hj=>simp at hj;subst hj;simpa [Addr.add] using hx
   | 1,hj=>simp at hj;subst hj;simpa [Addr.add] using hy)
  exact e
 rw [zbE];simp only [Sem.run_bind,Uh,qj,Result.andThen]
 simp [ReflectliteValue.flagAddr,loadVar,z,Result.andThen,Ui,storeVar,Value.cells,storeCells,Addr.add]
 rw [run_store Tryz.prog W ⟨g,0,none⟩ _ _ (by rfl)]
 simp [h0,f0]
 have o:(W.setCell ⟨g,0,none⟩ (.int .i64 x)).cell? ⟨g,1,none⟩=some o1:=by
  rw [World.cell?_setCell_other W _ _ _ (by simp)];exact h1
 rw [run_store Tryz.prog (W.setCell ⟨g,0,none⟩ (.int .i64 x)) ⟨g,1,none⟩ _ _ (by rfl)]
 simp [o,f1]
theorem Qm (why at0:Int) (g:Nat) (o0 o1:Value) (w:World) (hg:w.cell? ⟨4,0,none⟩=some (.iface 210 (.agg #[.pointer (some ⟨11,69,none⟩)]))) (ht0:w.cell? ⟨g,0,none⟩=some o0) (ht1:w.cell? ⟨g,1,none⟩=some o1) (hf0:w.frozen? ⟨g,0,none⟩=false) (hf1:w.frozen? ⟨g,1,none⟩=false) :
  Calls Tryz.prog 116 #[.iface 171 (.agg #[.int .i64 why,.int .i64 at0]),.iface 173 (.pointer (some ⟨g,0,none⟩))] w fun ev w'=>ev=.returned (.bool true)∧w'=((((((w.alloc (.cells #[.pointer (some ⟨g,0,none⟩)] 173)).alloc (.cells #[.pointer (some ⟨11,173,none⟩),.pointer (some ⟨w.heap.size,0,none⟩),.int .u64 150] 192)).alloc (.cells #[.pointer (some ⟨11,173,none⟩),.pointer (some ⟨w.heap.size,0,none⟩),.int .u64 150] 192)).alloc (.cells #[.int .i64 why,.int .i64 at0] 171)).setCell ⟨g,0,none⟩ (.int .i64 why)).setCell ⟨g,1,none⟩ (.int .i64 at0)):=by
 have h6:=@run_callFunc_extern Tryz.prog 142 _ (fun args=>ReflectliteValue.unpack (args.getD 0 (.tuple #[]))) Tryz.func142 (by kernel_rfl) (by kernel_rfl) (by kernel_rfl) (by kernel_rfl)
 have W := @run_callFunc_extern Tryz.prog 143 _ (ReflectliteValue.methodAny (ReflectliteValue.valueError "reflectlite.Value.Type" 0) (fun t _ _ _ => ReflectliteType.toType t)) Tryz.func143 (by kernel_rfl) (by kernel_rfl) (by kernel_rfl) (by kernel_rfl)
 have V := @run_callFunc_extern Tryz.prog 144 _ (ReflectliteValue.method (ReflectliteValue.valueError "reflectlite.Value.IsNil" 0) ReflectliteValue.isNil) Tryz.func144 (by kernel_rfl) (by kernel_rfl) (by kernel_rfl) (by kernel_rfl)
 have A:=@run_callFunc_extern Tryz.prog 194 _ (ReflectliteType.abiMethod fun t=>do pure (.int .u8 (←Rtype.kind t))) Tryz.func194 (by kernel_rfl) (by kernel_rfl) (by kernel_rfl) (by kernel_rfl)
 have K:=@run_callFunc_extern Tryz.prog 209 _ (ReflectliteType.method ReflectliteType.elem) Tryz.func209 (by kernel_rfl) (by kernel_rfl) (by kernel_rfl) (by kernel_rfl)
 have R := @run_callFunc_extern Tryz.prog 210 _ (ReflectliteType.relation "Implements" ReflectliteType.implements_) Tryz.func210 (by kernel_rfl) (by kernel_rfl) (by kernel_rfl) (by kernel_rfl)
 have E:=@run_callFunc_extern Tryz.prog 165 _ ReflectliteType.typeOf Tryz.func165 (by kernel_rfl) (by kernel_rfl) (by kernel_rfl) (by kernel_rfl)
 have Q := @run_callFunc_extern Tryz.prog 207 _ (ReflectliteType.relation "AssignableTo" ReflectliteType.assignableTo) Tryz.func207 (by kernel_rfl) (by kernel_rfl) (by kernel_rfl) (by kernel_rfl)
 have J := @run_callFunc_extern Tryz.prog 166 _ (ReflectliteValue.method (ReflectliteValue.valueError "reflectlite.Value.Elem" 0) ReflectliteValue.elem) Tryz.func166 (by kernel_rfl) (by kernel_rfl) (by kernel_rfl) (by kernel_rfl)
 have H:=@run_callFunc_extern Tryz.prog 167 _ ReflectliteValue.set Tryz.func167 (by kernel_rfl) (by kernel_rfl) (by kernel_rfl) (by kernel_rfl)
 have X:=Uf;have Y:=YO;have L:=XB;have I:=V9;have f6:=V8;have f7:=Qi;have mK:=vB;have mE:=vC;have Z:=xd;have O:=Qj;have G:=Qk;have M:=Ql;have N:=XA;have T:=qh ⟨w.heap.size,0,none⟩ ⟨g,0,none⟩ ((w.alloc (.cells #[.pointer (some ⟨g,0,none⟩)] 173)).alloc (.cells #[.pointer (some ⟨11,173,none⟩),.pointer (some ⟨w.heap.size,0,none⟩),.int .u64 150] 192)) (by simp)
 have z:4<w.heap.size:=World.block_lt_of_cell? w _ hg
 have D:((w.alloc (.cells #[.pointer (some ⟨g,0,none⟩)] 173)).alloc (.cells #[.pointer (some ⟨11,173,none⟩),.pointer (some ⟨w.heap.size,0,none⟩),.int .u64 150] 192)).cell? ⟨4,0,none⟩=some (.iface 210 (.agg #[.pointer (some ⟨11,69,none⟩)])):=by
  rw [World.cell?_alloc_lt _ _ ⟨4,0,none⟩ (by simp <;> omega),World.cell?_alloc_lt _ _ ⟨4,0,none⟩ z];exact hg
 have e:g<w.heap.size:=World.block_lt_of_cell? w _ ht0;have el:=qi ⟨w.heap.size,0,none⟩ ⟨g,0,none⟩ (((w.alloc (.cells #[.pointer (some ⟨g,0,none⟩)] 173)).alloc (.cells #[.pointer (some ⟨11,173,none⟩),.pointer (some ⟨w.heap.size,0,none⟩),.int .u64 150] 192)).alloc (.cells #[.pointer (some ⟨11,173,none⟩),.pointer (some ⟨w.heap.size,0,none⟩),.int .u64 150] 192)) (by rw [World.cell?_alloc_lt _ _ ⟨w.heap.size,0,none⟩ (by simp;omega)];simp)
 have o:∀j v,w.cell? ⟨g,j,none⟩=some v→((((w.alloc (.cells #[.pointer (some ⟨g,0,none⟩)] 173)).alloc (.cells #[.pointer (some ⟨11,173,none⟩),.pointer (some ⟨w.heap.size,0,none⟩),.int .u64 150] 192)).alloc (.cells #[.pointer (some ⟨11,173,none⟩),.pointer (some ⟨w.heap.size,0,none⟩),.int .u64 150] 192)).alloc (.cells #[.int .i64 why,.int .i64 at0] 171)).cell? ⟨g,j,none⟩=some v:=fun j v h=>by
  rw [World.cell?_alloc_lt _ _ ⟨g,j,none⟩ (by simp;omega),World.cell?_alloc_lt _ _ ⟨g,j,none⟩ (by simp;omega),World.cell?_alloc_lt _ _ ⟨g,j,none⟩ (by simp;omega),World.cell?_alloc_lt _ _ ⟨g,j,none⟩ e];exact h
 have y:∀j,w.frozen? ⟨g,j,none⟩=false→((((w.alloc (.cells #[.pointer (some ⟨g,0,none⟩)] 173)).alloc (.cells #[.pointer (some ⟨11,173,none⟩),.pointer (some ⟨w.heap.size,0,none⟩),.int .u64 150] 192)).alloc (.cells #[.pointer (some ⟨11,173,none⟩),.pointer (some ⟨w.heap.size,0,none⟩),.int .u64 150] 192)).alloc (.cells #[.int .i64 why,.int .i64 at0] 171)).frozen? ⟨g,j,none⟩=false:=fun j h=>by
  rw [World.frozen?_alloc_old _ _ ⟨g,j,none⟩ (by simp;omega),World.frozen?_alloc_old _ _ ⟨g,j,none⟩ (by simp;omega),World.frozen?_alloc_old _ _ ⟨g,j,none⟩ (by simp;omega),World.frozen?_alloc_old _ _ ⟨g,j,none⟩ (Nat.ne_of_lt e)];exact h
 have U:=zae g (w.heap.size+1+1+1) why at0 o0 o1 ((((w.alloc (.cells #[.pointer (some ⟨g,0,none⟩)] 173)).alloc (.cells #[.pointer (some ⟨11,173,none⟩),.pointer (some ⟨w.heap.size,0,none⟩),.int .u64 150] 192)).alloc (.cells #[.pointer (some ⟨11,173,none⟩),.pointer (some ⟨w.heap.size,0,none⟩),.int .u64 150] 192)).alloc (.cells #[.int .i64 why,.int .i64 at0] 171))
  (by rw [World.cell?_alloc_at _ _ _ _ (by simp)];rfl) (by rw [World.cell?_alloc_at _ _ _ _ (by simp)];rfl) (o 0 o0 ht0) (o 1 o1 ht1) (y 0 hf0) (y 1 hf1)
 clear o y
 go_enter Tryz.func116,Tryz.ntmps116
 go_wp2
 refine wp_loop_rounds 1 ?_;rw [rounds_succ];go_wp2
 go_ret
 exact ⟨rfl,rfl⟩
theorem Vy (v:Value) (w:World):(Instr.typeAssert (.iface 171 v) 20 69 true).run Tryz.prog w=.ok (.tuple #[.iface 171 v,.bool true]) w:=by kernel_rfl
theorem Uj (w:World):(Instr.typeAssert .nilIface 20 69 true).run Tryz.prog w=.ok (.tuple #[.nilIface,.bool false]) w:=by kernel_rfl
def Xp (w:World):Prop:=w.cell? ⟨4,0,none⟩=some (.iface 210 (.agg #[.pointer (some ⟨11,69,none⟩)]))
theorem Uk (p q:Addr) (w:World) :
  CallsD Tryz.prog 115 #[.pointer (some p),.pointer (some q)] .returning w fun e u' w'=>e=.returned (.tuple #[])∧u'=.returning∧w'=w:=by
 have h:=Uj;refine callsD_of_wpS Tryz.func115 rfl fun c₀ cs hu=>?_
 simp only [Tryz.ntmps115,List.size_toArray,List.length_cons,List.length_nil,Nat.reduceAdd,Nat.reduceSub,Array.replicate_succ,Array.replicate_zero,List.push_toArray,List.append_toArray,List.nil_append,List.cons_append]
 apply wpS_seq
 apply wpS_region
 simp [wpOpsS,go_sem,recoverD,hu,Exit.thenS,h]
 apply wpS_seq
 apply wpS_region
 simp [wpOpsS,go_sem,Exit.thenS]
 refine wpS_cond (t:=false) (by simp [Act.eval]) ?_
 simp only [Bool.false_eq_true,if_false];refine wpS_of_wp (wp_skip ?_);cases c₀
 simp_all [bodyPostS,results,Tryz.results115]
theorem ua (N:Nat) (why at0 x y:Int) (older:List PanicEntry) (w:World) (h0:w.heap[N]?=some (.cells #[.int .i64 x] 3 (0,0))) (h1:w.heap[N+1]?=some (.cells #[.int .i64 y] 25 (0,0))) (hg:Xp w) :
  CallsD Tryz.prog 115 #[.pointer (some ⟨N,0,none⟩),.pointer (some ⟨N+1,0,none⟩)] (.panicking ({ v:=.iface 171 (.agg #[.int .i64 why,.int .i64 at0]),recovered:=false }::older)) w fun e u' w' =>
   e=.returned (.tuple #[])∧u'=.panicking ({ v:=.iface 171 (.agg #[.int .i64 why,.int .i64 at0]),recovered:=true }::older)∧w'.cell? ⟨N,0,none⟩=some (.int .i64 at0)∧w'.cell? ⟨N+1,0,none⟩=some (.int .i64 why)∧Below N w w':=by
 have O:=Vy;refine callsD_of_wpS Tryz.func115 rfl fun c₀ cs hu=>?_
 simp only [Tryz.ntmps115,List.size_toArray,List.length_cons,List.length_nil,Nat.reduceAdd,Nat.reduceSub,Array.replicate_succ,Array.replicate_zero,List.push_toArray,List.append_toArray,List.nil_append,List.cons_append]
 apply wpS_seq
 apply wpS_region
 simp [wpOpsS,go_sem,recoverD,hu,Exit.thenS,O]
 apply wpS_seq
 apply wpS_region
 simp [wpOpsS,go_sem,Exit.thenS]
 refine wpS_cond (t:=true) (by simp [Act.eval]) ?_
 simp only [if_true];refine wpS_of_wp ?_;have K:N+1<w.heap.size:=(Array.getElem?_eq_some_iff.1 h1).1;obtain ⟨w1,A⟩:∃w1,w1=w.alloc (.cells #[.int .i64 0,.int .i64 0] 171):=⟨_,rfl⟩;have aa:w1.heap.size=w.heap.size+1:=by rw [A];simp
 have o:w1.heap[w.heap.size]?=some (.cells #[.int .i64 0,.int .i64 0] 171 (0,0)):=by rw [A];exact World.alloc_heap_new w _
 have E:∀k,k<w.heap.size→w1.heap[k]?=w.heap[k]?:=fun k hk=>by rw [A];exact Below.heap_alloc w _ k hk
 have I:Xp w1:=by
  unfold Xp at hg ⊢
  have hl:=World.block_lt_of_cell? w _ hg;rw [World.cell?_of_block (E _ hl)];exact hg
 have M:=Qm why at0 w.heap.size (.int .i64 0) (.int .i64 0) w1 I (by simp [World.cell?,o]) (by simp [World.cell?,o]) (by simp [World.frozen?,o]) (by simp [World.frozen?,o])
 rw [A] at M;go_wp2_with fail
 refine M.mono ?_;clear M;rw [←A];rintro e w2 ⟨rfl,D⟩
 have z:∀k,k<w.heap.size→w2.heap[k]?=w.heap[k]?:=fun k hk=>by
  rw [D,Below.heap_setCell _ _ _ _ (by simp;omega),Below.heap_setCell _ _ _ _ (by simp;omega),Below.heap_alloc _ _ _ (by simp;omega),Below.heap_alloc _ _ _ (by simp;omega),Below.heap_alloc _ _ _ (by simp;omega),Below.heap_alloc _ _ _ (by omega),E k hk]
 have T:∀j v,w1.cell? ⟨w.heap.size,j,none⟩=some v→∀o1 o2 o3 o4,((((w1.alloc o1).alloc o2).alloc o3).alloc o4).cell? ⟨w.heap.size,j,none⟩=some v:=fun j v h o1 o2 o3 o4=>by
  rw [World.cell?_alloc_lt _ _ ⟨w.heap.size,j,none⟩ (by simp;omega),World.cell?_alloc_lt _ _ ⟨w.heap.size,j,none⟩ (by simp;omega),World.cell?_alloc_lt _ _ ⟨w.heap.size,j,none⟩ (by simp;omega),World.cell?_alloc_lt _ _ ⟨w.heap.size,j,none⟩ (by simp;omega)];exact h
 have W:w1.cell? ⟨w.heap.size,0,none⟩=some (.int .i64 0):=by simp [World.cell?,o]
 have V:w1.cell? ⟨w.heap.size,1,none⟩=some (.int .i64 0):=by simp [World.cell?,o]
 have d0:w2.cell? ⟨w.heap.size,0,none⟩=some (.int .i64 why):=by
  rw [D,World.cell?_setCell_other _ _ _ _ (by simp),World.cell?_setCell_same _ _ _ (T 0 _ W _ _ _ _)]
 have d1:w2.cell? ⟨w.heap.size,1,none⟩=some (.int .i64 at0):=by
  rw [D];refine World.cell?_setCell_same _ _ _ (u:=.int .i64 0) ?_;rw [World.cell?_setCell_other _ _ _ _ (by simp)]
  exact T 1 _ V _ _ _ _
 have U:w.heap.size≤w2.heap.size:=by rw [D];simp;omega
 have R:w2.heap[N]?=some (.cells #[.int .i64 x] 3 (0,0)):=(z N (by omega)).trans h0
 have J:w2.heap[N+1]?=some (.cells #[.int .i64 y] 25 (0,0)):=(z (N+1) K).trans h1
 have H:Below N w w2:=by
  rw [D,A];exact (((((((Below.refl N w).alloc (by omega) _).alloc (by simp;omega) _).alloc (by simp;omega) _).alloc (by simp;omega) _).alloc (by simp;omega) _).setCell (p:=⟨w.heap.size,0,none⟩) (by simp;omega) _).setCell (p:=⟨w.heap.size,1,none⟩) (by simp;omega) _
 have L:Hid (Below N w w2):=H;have X:w2.cell? ⟨N,0,none⟩=some (.int .i64 x):=by simp [World.cell?,R]
 have k1:w2.cell? ⟨N+1,0,none⟩=some (.int .i64 y):=by simp [World.cell?,J]
 have ab:w2.frozen? ⟨N,0,none⟩=false:=by simp [World.frozen?,R]
 have Z:w2.frozen? ⟨N+1,0,none⟩=false:=by simp [World.frozen?,J]
 have Q:∀v,(w2.setCell ⟨N,0,none⟩ v).cell? ⟨N+1,0,none⟩=some (.int .i64 y):=fun v=>(World.cell?_setCell_other _ _ _ _ (by simp)).trans k1
 clear D z T W V R J H o E I A;go_wp2
 have G:Below N w ((w2.setCell ⟨N,0,none⟩ (.int .i64 at0)).setCell ⟨N+1,0,none⟩ (.int .i64 why)):=(L.out.setCell (p:=⟨N,0,none⟩) (by simp) _).setCell (p:=⟨N+1,0,none⟩) (by simp) _
 have Y:((w2.setCell ⟨N,0,none⟩ (.int .i64 at0)).setCell ⟨N+1,0,none⟩ (.int .i64 why)).cell? ⟨N,0,none⟩=some (.int .i64 at0):=by
  rw [World.cell?_setCell_other _ _ _ _ (by simp),World.cell?_setCell_same _ _ _ X]
 have e1:((w2.setCell ⟨N,0,none⟩ (.int .i64 at0)).setCell ⟨N+1,0,none⟩ (.int .i64 why)).cell? ⟨N+1,0,none⟩=some (.int .i64 why):=World.cell?_setCell_same _ _ _ (Q _)
 simp [bodyPostS,results,Tryz.results115]
 exact ⟨Y,e1,G⟩
abbrev Vz (why at0:Int):Value:=.iface 171 (.agg #[.int .i64 why,.int .i64 at0])
abbrev za5 (w:World):World:=(w.alloc (.cells #[.int .i64 0] 3)).alloc (.cells #[.int .i64 0] 25)
theorem vD (g:FuncId) (cap:Array Value) (w:World) (Q:World→Prop) (Pn:Int→Int→World→Prop) (hent:∀w,(callFunc g cap).run Tryz.prog w=.ok (.enter g cap) w)
  (hdo:Calls Tryz.prog g cap (za5 w) fun e w'=>w'.heap[w.heap.size]?=some (.cells #[.int .i64 0] 3 (0,0))∧w'.heap[w.heap.size+1]?=some (.cells #[.int .i64 0] 25 (0,0))∧Xp w'∧((e=.returned (.tuple #[])∧Q w')∨∃o at0,e=.panicked [{ v:=Vz o at0,recovered:=false }]∧Pn o at0 w')) :
  Calls Tryz.prog 95 #[.func (.func g) #[] cap] w fun e w' =>
   (∃w0,e=.returned (.tuple #[.int .i64 0,.int .i64 0])∧Q w0∧Below w.heap.size w0 w'∧∀k,k≠w.heap.size→k≠w.heap.size+1→w'.heap[k]?=w0.heap[k]?)∨∃o at0 w0,e=.returned (.tuple #[.int .i64 at0,.int .i64 o])∧Pn o at0 w0∧Below w.heap.size w0 w':=by
 have T:∀(fn:Fn) (first cap:Array Value) (w:World),(Instr.makeFunc fn first cap).run Tryz.prog w=.ok (.func fn first cap) w:=fun _ _ _ _=>rfl
 go_enter_defers Tryz.func95,Tryz.ntmps95
 go_wp2_with fail
 refine hdo.mono ?_;clear hdo;rintro e y ⟨z,A,R,h⟩;have J:y.cell? ⟨w.heap.size,0,none⟩=some (.int .i64 0):=by simp [World.cell?,z]
 have k1:y.cell? ⟨w.heap.size+1,0,none⟩=some (.int .i64 0):=by simp [World.cell?,A]
 have U:y.frozen? ⟨w.heap.size,0,none⟩=false:=by simp [World.frozen?,z]
 have N:y.frozen? ⟨w.heap.size+1,0,none⟩=false:=by simp [World.frozen?,A]
 have I:∀v,(y.setCell ⟨w.heap.size,0,none⟩ v).cell? ⟨w.heap.size+1,0,none⟩=some (.int .i64 0):=fun v=>(World.cell?_setCell_other _ _ _ _ (by simp)).trans k1
 rcases h with ⟨rfl,L⟩ | ⟨o,at0,rfl,M⟩
 ·have D:Below w.heap.size y ((y.setCell ⟨w.heap.size,0,none⟩ (.int .i64 0)).setCell ⟨w.heap.size+1,0,none⟩ (.int .i64 0)):=((Below.refl w.heap.size y).setCell (p:=⟨w.heap.size,0,none⟩) (by simp) _).setCell (p:=⟨w.heap.size+1,0,none⟩) (by simp) _
  have O:Hid (Below w.heap.size y ((y.setCell ⟨w.heap.size,0,none⟩ (.int .i64 0)).setCell ⟨w.heap.size+1,0,none⟩ (.int .i64 0))):=D
  have E:((y.setCell ⟨w.heap.size,0,none⟩ (.int .i64 0)).setCell ⟨w.heap.size+1,0,none⟩ (.int .i64 0)).cell? ⟨w.heap.size,0,none⟩=some (.int .i64 0):=by
   rw [World.cell?_setCell_other _ _ _ _ (by simp),World.cell?_setCell_same _ _ _ J]
  have H:((y.setCell ⟨w.heap.size,0,none⟩ (.int .i64 0)).setCell ⟨w.heap.size+1,0,none⟩ (.int .i64 0)).cell? ⟨w.heap.size+1,0,none⟩=some (.int .i64 0):=World.cell?_setCell_same _ _ _ (I _);clear D;go_wp2
  refine leaves_cons (f:=115) (args:=#[.pointer (some ⟨w.heap.size,0,none⟩),.pointer (some ⟨w.heap.size+1,0,none⟩)]) (by simp) (by simp [go_sem]) ?_
  refine (Uk ⟨w.heap.size,0,none⟩ ⟨w.heap.size+1,0,none⟩ _).mono ?_;rintro e K G ⟨rfl,rfl,rfl⟩
  simp [Leaves,settle,results,Tryz.results95,go_sem,E,H]
  exact .inl ⟨y,L,O.out,fun k z A=>by rw [Below.heap_setCell _ _ _ _ (by simpa using A),Below.heap_setCell _ _ _ _ (by simpa using z)]⟩
 ·refine leaves_cons (f:=115) (args:=#[.pointer (some ⟨w.heap.size,0,none⟩),.pointer (some ⟨w.heap.size+1,0,none⟩)]) (by simp) (by simp [go_sem]) ?_
  refine (ua w.heap.size o at0 0 0 [] y z A R).mono ?_;rintro e K G ⟨rfl,rfl,E,H,D⟩
  simp [Leaves,settle,results,Tryz.results95,go_sem,E,H]
  exact .inr ⟨o,at0,⟨rfl,rfl⟩,y,M,D⟩
end Go.Proofs.YtmbofhpmockmbaaGreatDoor
