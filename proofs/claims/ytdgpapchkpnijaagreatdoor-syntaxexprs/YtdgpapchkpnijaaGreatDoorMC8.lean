import Derived.Test.YtdgpapchkpnijaaGreatDoorProg
import Derived.WalkKit
import Derived.LaidEql
import Derived.Stop.Asserts
import Derived.RowKitTokens
import Derived.Below
import Derived.LoopN
namespace Go.Proofs.YtdgpapchkpnijaaGreatDoor
open Go.RowKit Go.Extern.Stop Go.Stop Go.Extern
set_option maxHeartbeats 16000000
set_option maxRecDepth 100000
theorem qG (t:Addr) (w:World):(ReflectliteValue.unpack (.iface 150 (.pointer (some t)))).run Tryz.prog w
  = .ok (.agg #[.pointer (some ⟨11,150,none⟩),.pointer (some ⟨w.heap.size,0,none⟩),.int .u64 150]) (w.alloc (.cells #[.pointer (some t)] 150)):=by kernel_rfl
theorem zct (a : Addr) (w : World) : (ReflectliteValue.methodAny (ReflectliteValue.valueError "reflectlite.Value.Type" 0) (fun t _ _ _ => ReflectliteType.toType t) #[.agg #[.pointer (some ⟨11, 150, none⟩), .pointer (some a), .int .u64 150]]).run Tryz.prog w
  = .ok (.iface 199 (.agg #[.pointer (some ⟨11,150,none⟩)])) w:=by kernel_rfl
theorem uX (h : Value) (w : World) : (Go.method 389 199 (.agg #[h]) "Kind").run Tryz.prog w = .ok (245, h) w := by kernel_rfl
theorem zcu (w:World):((ReflectliteType.abiMethod fun t=>(fun a:Nat=>Value.int IntKind.u8 (a:Int)) <$> Rtype.kind t) #[.pointer (some ⟨11,150,none⟩)]).run Tryz.prog w=.ok (.int .u8 22) w:=by kernel_rfl
theorem zcv (w:World):((ReflectliteType.abiMethod fun t=>(fun a:Nat=>Value.int IntKind.u8 (a:Int)) <$> Rtype.kind t) #[.pointer (some ⟨11,148,none⟩)]).run Tryz.prog w=.ok (.int .u8 25) w:=by kernel_rfl
theorem zfl (z:Sem Value) (f:TypeId→Addr→Nat→Nat→Sem Value) (v:Value) :
  ReflectliteValue.method z f #[v]=(do match ←ReflectliteValue.parts v with | none=>z | some (t,a,fl)=>f t a fl (fl % 32)):=rfl
theorem Uv (a:Addr) (w:World):(ReflectliteValue.parts (.agg #[.pointer (some ⟨11,150,none⟩),.pointer (some a),.int .u64 150])).run Tryz.prog w=.ok (some (150,a,150)) w:=by kernel_rfl
theorem zbr (a p:Addr) (W:World) (ha:W.cell? a=some (.pointer (some p))) :
  (ReflectliteValue.method (ReflectliteValue.valueError "reflectlite.Value.IsNil" 0) ReflectliteValue.isNil #[.agg #[.pointer (some ⟨11, 150, none⟩), .pointer (some a), .int .u64 150]]).run Tryz.prog W = .ok (.bool false) W := by
 rw [zfl];simp only [Sem.run_bind,Uv,Result.andThen]
 simp [ReflectliteValue.isNil,loadVar,isAgg,underlying,Tryz.underlying150,ha,Result.andThen]
theorem uY (h : Value) (w : World) : (Go.method 389 199 (.agg #[h]) "Elem").run Tryz.prog w = .ok (256, .agg #[h]) w := by kernel_rfl
theorem XR (h : Value) (w : World) : (Go.method 389 199 (.agg #[h]) "Implements").run Tryz.prog w = .ok (257, .agg #[h]) w := by kernel_rfl
theorem Xv (h : Value) (w : World) : (Go.method 389 199 (.agg #[h]) "AssignableTo").run Tryz.prog w = .ok (254, .agg #[h]) w := by kernel_rfl
theorem zcw (w:World):(ReflectliteType.method ReflectliteType.elem #[.agg #[.pointer (some ⟨11,150,none⟩)]]).run Tryz.prog w=.ok (.iface 199 (.agg #[.pointer (some ⟨11,148,none⟩)])) w:=by kernel_rfl
theorem V9 (w : World) : (ReflectliteType.relation "Implements" ReflectliteType.implements_ #[.agg #[.pointer (some ⟨11, 148, none⟩)], .iface 199 (.agg #[.pointer (some ⟨11, 145, none⟩)])]).run Tryz.prog w = .ok (.bool true) w := by kernel_rfl
theorem zaa (v:Value) (w:World):(ReflectliteType.typeOf #[.iface 148 v]).run Tryz.prog w=.ok (.iface 199 (.agg #[.pointer (some ⟨11,148,none⟩)])) w:=by kernel_rfl
theorem ua (w : World) : (ReflectliteType.relation "AssignableTo" ReflectliteType.assignableTo #[.agg #[.pointer (some ⟨11, 148, none⟩)], .iface 199 (.agg #[.pointer (some ⟨11, 148, none⟩)])]).run Tryz.prog w = .ok (.bool true) w := by kernel_rfl
theorem qH (a b:Value) (w:World):(ReflectliteValue.unpack (.iface 148 (.agg #[a,b]))).run Tryz.prog w
  = .ok (.agg #[.pointer (some ⟨11,148,none⟩),.pointer (some ⟨w.heap.size,0,none⟩),.int .u64 153]) (w.alloc (.cells #[a,b] 148)):=by kernel_rfl
theorem zab (w:World):(Rtype.elem? 150).run Tryz.prog w=.ok (some 148) w:=by kernel_rfl
theorem zev (p:Addr) (w:World):(ReflectliteValue.mk 148 p ReflectliteValue.flagAddr).run Tryz.prog w=.ok (.agg #[.pointer (some ⟨11,148,none⟩),.pointer (some p),.int .u64 409]) w:=by kernel_rfl
theorem zbs (a p:Addr) (W:World) (ha:W.cell? a=some (.pointer (some p))) :
  (ReflectliteValue.method (ReflectliteValue.valueError "reflectlite.Value.Elem" 0) ReflectliteValue.elem #[.agg #[.pointer (some ⟨11, 150, none⟩), .pointer (some a), .int .u64 150]]).run Tryz.prog W
   = .ok (.agg #[.pointer (some ⟨11,148,none⟩),.pointer (some p),.int .u64 409]) W:=by
 rw [zfl];simp only [Sem.run_bind,Uv,Result.andThen]
 simp [ReflectliteValue.elem,loadVar,isAgg,underlying,Tryz.underlying150,ha,Result.andThen,zab,zev]
theorem zac (a:Addr) (w:World):(ReflectliteValue.parts (.agg #[.pointer (some ⟨11,148,none⟩),.pointer (some a),.int .u64 409])).run Tryz.prog w=.ok (some (148,a,409)) w:=by kernel_rfl
theorem zbt (a:Addr) (w:World):(ReflectliteValue.parts (.agg #[.pointer (some ⟨11,148,none⟩),.pointer (some a),.int .u64 153])).run Tryz.prog w=.ok (some (148,a,153)) w:=by kernel_rfl
theorem zad (w:World):(Rtype.directlyAssignable 148 148).run Tryz.prog w=.ok true w:=by kernel_rfl
theorem zf1 (v x:Value):ReflectliteValue.set #[v,x]=(do
  let (some (dst,a,fl),some (src,b,_)):=(←ReflectliteValue.parts v,←ReflectliteValue.parts x)
   | unsupported (.noEntry "extern/(internal/reflectlite.Value).Set.zeroValue")
  if fl / ReflectliteValue.flagAddr % 2 == 0 then unsupported (.noEntry "extern/(internal/reflectlite.Value).Set.unaddressable")
  let val ←loadVar src b
  if ←Rtype.directlyAssignable dst src then storeVar dst a val
  else if ←Rtype.implements dst src then
   if (←Rtype.kind src)==20 then
    match val with
    | .nilIface => unsupported (.noEntry "extern/reflectlite: a nil value of one interface type handed on as a value of another")
    | _=>storeVar dst a val
   else storeVar dst a (.iface src val)
  else panicString ("reflectlite.Set: value of type " ++ (← Rtype.spelt src) ++ " is not assignable to type " ++ (← Rtype.spelt dst))
  pure (.tuple #[])):=rfl
theorem zdB (g h:Nat) (x y:Int) (o0 o1:Value) (W:World) (hx:W.cell? ⟨h,0,none⟩=some (.int .i64 x)) (hy:W.cell? ⟨h,1,none⟩=some (.int .i64 y)) (h0:W.cell? ⟨g,0,none⟩=some o0) (h1:W.cell? ⟨g,1,none⟩=some o1) (f0:W.frozen? ⟨g,0,none⟩=false) (f1:W.frozen? ⟨g,1,none⟩=false) :
  (ReflectliteValue.set #[.agg #[.pointer (some ⟨11,148,none⟩),.pointer (some ⟨g,0,none⟩),.int .u64 409],.agg #[.pointer (some ⟨11,148,none⟩),.pointer (some ⟨h,0,none⟩),.int .u64 153]]).run Tryz.prog W
   = .ok (.tuple #[]) ((W.setCell ⟨g,0,none⟩ (.int .i64 x)).setCell ⟨g,1,none⟩ (.int .i64 y)):=by
 have hl:(loadCells ⟨h,0,none⟩ 2).run Tryz.prog W=.ok #[.int .i64 x,.int .i64 y] W:=by
  have e:=run_loadCells_list (P:=Tryz.prog) W ⟨h,0,none⟩ [.int .i64 x,.int .i64 y] (fun j v hj=>by
   match j,hj with
   | 0,hj=>simp at hj;subst hj;simpa [Addr.add] using hx
   | 1,hj=>simp at hj;subst hj;simpa [Addr.add] using hy)
  exact e
 rw [zf1];simp only [Sem.run_bind,zac,zbt,Result.andThen]
 simp [ReflectliteValue.flagAddr,loadVar,hl,Result.andThen,zad,storeVar,Value.cells,storeCells,Addr.add]
 rw [run_store Tryz.prog W ⟨g,0,none⟩ _ _ (by rfl)]
 simp [h0,f0]
 have h1':(W.setCell ⟨g,0,none⟩ (.int .i64 x)).cell? ⟨g,1,none⟩=some o1:=by
  rw [World.cell?_setCell_other W _ _ _ (by simp)];exact h1
 rw [run_store Tryz.prog (W.setCell ⟨g,0,none⟩ (.int .i64 x)) ⟨g,1,none⟩ _ _ (by rfl)]
 simp [h1',f1]
theorem zcx (why at0:Int) (g:Nat) (o0 o1:Value) (w:World) (hg:w.cell? ⟨0,0,none⟩=some (.iface 199 (.agg #[.pointer (some ⟨11,145,none⟩)]))) (ht0:w.cell? ⟨g,0,none⟩=some o0) (ht1:w.cell? ⟨g,1,none⟩=some o1) (hf0:w.frozen? ⟨g,0,none⟩=false) (hf1:w.frozen? ⟨g,1,none⟩=false) :
  Calls Tryz.prog 98 #[.iface 148 (.agg #[.int .i64 why,.int .i64 at0]),.iface 150 (.pointer (some ⟨g,0,none⟩))] w fun ev w'=>ev=.returned (.bool true)∧w'=((((((w.alloc (.cells #[.pointer (some ⟨g,0,none⟩)] 150)).alloc (.cells #[.pointer (some ⟨11,150,none⟩),.pointer (some ⟨w.heap.size,0,none⟩),.int .u64 150] 180)).alloc (.cells #[.pointer (some ⟨11,150,none⟩),.pointer (some ⟨w.heap.size,0,none⟩),.int .u64 150] 180)).alloc (.cells #[.int .i64 why,.int .i64 at0] 148)).setCell ⟨g,0,none⟩ (.int .i64 why)).setCell ⟨g,1,none⟩ (.int .i64 at0)):=by
 have h6:=@run_callFunc_extern Tryz.prog 137 _ (fun args=>ReflectliteValue.unpack (args.getD 0 (.tuple #[]))) Tryz.func137 (by kernel_rfl) (by kernel_rfl) (by kernel_rfl) (by kernel_rfl)
 have h7 := @run_callFunc_extern Tryz.prog 138 _ (ReflectliteValue.methodAny (ReflectliteValue.valueError "reflectlite.Value.Type" 0) (fun t _ _ _ => ReflectliteType.toType t)) Tryz.func138 (by kernel_rfl) (by kernel_rfl) (by kernel_rfl) (by kernel_rfl)
 have h8 := @run_callFunc_extern Tryz.prog 139 _ (ReflectliteValue.method (ReflectliteValue.valueError "reflectlite.Value.IsNil" 0) ReflectliteValue.isNil) Tryz.func139 (by kernel_rfl) (by kernel_rfl) (by kernel_rfl) (by kernel_rfl)
 have h27:=@run_callFunc_extern Tryz.prog 245 _ (ReflectliteType.abiMethod fun t=>do pure (.int .u8 (←Rtype.kind t))) Tryz.func245 (by kernel_rfl) (by kernel_rfl) (by kernel_rfl) (by kernel_rfl)
 have h37:=@run_callFunc_extern Tryz.prog 256 _ (ReflectliteType.method ReflectliteType.elem) Tryz.func256 (by kernel_rfl) (by kernel_rfl) (by kernel_rfl) (by kernel_rfl)
 have h38 := @run_callFunc_extern Tryz.prog 257 _ (ReflectliteType.relation "Implements" ReflectliteType.implements_) Tryz.func257 (by kernel_rfl) (by kernel_rfl) (by kernel_rfl) (by kernel_rfl)
 have h10:=@run_callFunc_extern Tryz.prog 167 _ ReflectliteType.typeOf Tryz.func167 (by kernel_rfl) (by kernel_rfl) (by kernel_rfl) (by kernel_rfl)
 have h35 := @run_callFunc_extern Tryz.prog 254 _ (ReflectliteType.relation "AssignableTo" ReflectliteType.assignableTo) Tryz.func254 (by kernel_rfl) (by kernel_rfl) (by kernel_rfl) (by kernel_rfl)
 have h11 := @run_callFunc_extern Tryz.prog 168 _ (ReflectliteValue.method (ReflectliteValue.valueError "reflectlite.Value.Elem" 0) ReflectliteValue.elem) Tryz.func168 (by kernel_rfl) (by kernel_rfl) (by kernel_rfl) (by kernel_rfl)
 have h12:=@run_callFunc_extern Tryz.prog 169 _ ReflectliteValue.set Tryz.func169 (by kernel_rfl) (by kernel_rfl) (by kernel_rfl) (by kernel_rfl)
 have tO:=zaa;have mA:=Xv;have a25:=ua;have v25:=qH;have f6:=qG;have f7:=zct;have mK:=uX;have mE:=uY;have mI:=XR;have k27:=zcu;have k25:=zcv;have e27:=zcw;have i25:=V9;have n8:=zbr ⟨w.heap.size,0,none⟩ ⟨g,0,none⟩ ((w.alloc (.cells #[.pointer (some ⟨g,0,none⟩)] 150)).alloc (.cells #[.pointer (some ⟨11,150,none⟩),.pointer (some ⟨w.heap.size,0,none⟩),.int .u64 150] 180)) (by simp)
 have hlt:0<w.heap.size:=World.block_lt_of_cell? w _ hg
 have hg2:((w.alloc (.cells #[.pointer (some ⟨g,0,none⟩)] 150)).alloc (.cells #[.pointer (some ⟨11,150,none⟩),.pointer (some ⟨w.heap.size,0,none⟩),.int .u64 150] 180)).cell? ⟨0,0,none⟩=some (.iface 199 (.agg #[.pointer (some ⟨11,145,none⟩)])):=by
  rw [World.cell?_alloc_lt _ _ ⟨0,0,none⟩ (by simp <;> omega),World.cell?_alloc_lt _ _ ⟨0,0,none⟩ hlt];exact hg
 have htl:g<w.heap.size:=World.block_lt_of_cell? w _ ht0;have el:=zbs ⟨w.heap.size,0,none⟩ ⟨g,0,none⟩ (((w.alloc (.cells #[.pointer (some ⟨g,0,none⟩)] 150)).alloc (.cells #[.pointer (some ⟨11,150,none⟩),.pointer (some ⟨w.heap.size,0,none⟩),.int .u64 150] 180)).alloc (.cells #[.pointer (some ⟨11,150,none⟩),.pointer (some ⟨w.heap.size,0,none⟩),.int .u64 150] 180)) (by rw [World.cell?_alloc_lt _ _ ⟨w.heap.size,0,none⟩ (by simp;omega)];simp)
 have cg:∀j v,w.cell? ⟨g,j,none⟩=some v→((((w.alloc (.cells #[.pointer (some ⟨g,0,none⟩)] 150)).alloc (.cells #[.pointer (some ⟨11,150,none⟩),.pointer (some ⟨w.heap.size,0,none⟩),.int .u64 150] 180)).alloc (.cells #[.pointer (some ⟨11,150,none⟩),.pointer (some ⟨w.heap.size,0,none⟩),.int .u64 150] 180)).alloc (.cells #[.int .i64 why,.int .i64 at0] 148)).cell? ⟨g,j,none⟩=some v:=fun j v h=>by
  rw [World.cell?_alloc_lt _ _ ⟨g,j,none⟩ (by simp;omega),World.cell?_alloc_lt _ _ ⟨g,j,none⟩ (by simp;omega),World.cell?_alloc_lt _ _ ⟨g,j,none⟩ (by simp;omega),World.cell?_alloc_lt _ _ ⟨g,j,none⟩ htl];exact h
 have fg:∀j,w.frozen? ⟨g,j,none⟩=false→((((w.alloc (.cells #[.pointer (some ⟨g,0,none⟩)] 150)).alloc (.cells #[.pointer (some ⟨11,150,none⟩),.pointer (some ⟨w.heap.size,0,none⟩),.int .u64 150] 180)).alloc (.cells #[.pointer (some ⟨11,150,none⟩),.pointer (some ⟨w.heap.size,0,none⟩),.int .u64 150] 180)).alloc (.cells #[.int .i64 why,.int .i64 at0] 148)).frozen? ⟨g,j,none⟩=false:=fun j h=>by
  rw [World.frozen?_alloc_old _ _ ⟨g,j,none⟩ (by simp;omega),World.frozen?_alloc_old _ _ ⟨g,j,none⟩ (by simp;omega),World.frozen?_alloc_old _ _ ⟨g,j,none⟩ (by simp;omega),World.frozen?_alloc_old _ _ ⟨g,j,none⟩ (Nat.ne_of_lt htl)];exact h
 have st:=zdB g (w.heap.size+1+1+1) why at0 o0 o1 ((((w.alloc (.cells #[.pointer (some ⟨g,0,none⟩)] 150)).alloc (.cells #[.pointer (some ⟨11,150,none⟩),.pointer (some ⟨w.heap.size,0,none⟩),.int .u64 150] 180)).alloc (.cells #[.pointer (some ⟨11,150,none⟩),.pointer (some ⟨w.heap.size,0,none⟩),.int .u64 150] 180)).alloc (.cells #[.int .i64 why,.int .i64 at0] 148))
  (by rw [World.cell?_alloc_at _ _ _ _ (by simp)];rfl) (by rw [World.cell?_alloc_at _ _ _ _ (by simp)];rfl) (cg 0 o0 ht0) (cg 1 o1 ht1) (fg 0 hf0) (fg 1 hf1)
 clear cg fg
 go_enter Tryz.func98,Tryz.ntmps98
 go_wp2
 refine wp_loop_rounds 1 ?_;rw [rounds_succ];go_wp2
 go_ret
 exact ⟨rfl,rfl⟩
end Go.Proofs.YtdgpapchkpnijaaGreatDoor
