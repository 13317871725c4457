import Derived.Test.YtghhamgealkodaaGreatDoorMQ4
import Derived.LoopN
import Derived.Defers
import Derived.Recover
import Derived.Tactics
import Derived.Tactics2
import Derived.Laws.Pointers
import Derived.RangeFuncRecord
import Derived.Test.YtghhamgealkodaaGreatDoorMQ2
/- syntax: errors.As at the error with which a reader gives up: the walk. -/
namespace Go.Proofs.YtghhamgealkodaaGreatDoor
open Go.RowKit Go.Extern.Stop Go.Stop Go.Extern

set_option maxRecDepth 100000 in
set_option maxHeartbeats 4000000 in
theorem as_stuck (why at0 : Int) (g : Nat) (o0 o1 : Value) (w : World) (hg : w.cell? ⟨0, 0, none⟩ = some (.iface 200 (.agg #[.pointer (some ⟨11, 151, none⟩)]))) (ht0 : w.cell? ⟨g, 0, none⟩ = some o0) (ht1 : w.cell? ⟨g, 1, none⟩ = some o1) (hf0 : w.frozen? ⟨g, 0, none⟩ = false) (hf1 : w.frozen? ⟨g, 1, none⟩ = false) :
    Calls Tryz.prog 104 #[.iface 154 (.agg #[.int .i64 why, .int .i64 at0]), .iface 156 (.pointer (some ⟨g, 0, none⟩))] w fun ev w' => ev = .returned (.bool true) ∧ w' = ((((((w.alloc (.cells #[.pointer (some ⟨g, 0, none⟩)] 156)).alloc (.cells #[.pointer (some ⟨11, 156, none⟩), .pointer (some ⟨w.heap.size, 0, none⟩), .int .u64 150] 181)).alloc (.cells #[.pointer (some ⟨11, 156, none⟩), .pointer (some ⟨w.heap.size, 0, none⟩), .int .u64 150] 181)).alloc (.cells #[.int .i64 why, .int .i64 at0] 154)).setCell ⟨g, 0, none⟩ (.int .i64 why)).setCell ⟨g, 1, none⟩ (.int .i64 at0)) := by
  have h6 := @run_callFunc_extern Tryz.prog 140 _ (fun args => ReflectliteValue.unpack (args.getD 0 (.tuple #[]))) Tryz.func140 (by kernel_rfl) (by kernel_rfl) (by kernel_rfl) (by kernel_rfl)
  have h7 := @run_callFunc_extern Tryz.prog 141 _ (ReflectliteValue.methodAny (ReflectliteValue.valueError "reflectlite.Value.Type" 0) (fun t _ _ _ => ReflectliteType.toType t)) Tryz.func141 (by kernel_rfl) (by kernel_rfl) (by kernel_rfl) (by kernel_rfl)
  have h8 := @run_callFunc_extern Tryz.prog 142 _ (ReflectliteValue.method (ReflectliteValue.valueError "reflectlite.Value.IsNil" 0) ReflectliteValue.isNil) Tryz.func142 (by kernel_rfl) (by kernel_rfl) (by kernel_rfl) (by kernel_rfl)
  have h27 := @run_callFunc_extern Tryz.prog 245 _ (ReflectliteType.abiMethod fun t => do pure (.int .u8 (← Rtype.kind t))) Tryz.func245 (by kernel_rfl) (by kernel_rfl) (by kernel_rfl) (by kernel_rfl)
  have h37 := @run_callFunc_extern Tryz.prog 256 _ (ReflectliteType.method ReflectliteType.elem) Tryz.func256 (by kernel_rfl) (by kernel_rfl) (by kernel_rfl) (by kernel_rfl)
  have h38 := @run_callFunc_extern Tryz.prog 257 _ (ReflectliteType.relation "Implements" ReflectliteType.implements_) Tryz.func257 (by kernel_rfl) (by kernel_rfl) (by kernel_rfl) (by kernel_rfl)
  have h10 := @run_callFunc_extern Tryz.prog 168 _ ReflectliteType.typeOf Tryz.func168 (by kernel_rfl) (by kernel_rfl) (by kernel_rfl) (by kernel_rfl)
  have h35 := @run_callFunc_extern Tryz.prog 254 _ (ReflectliteType.relation "AssignableTo" ReflectliteType.assignableTo) Tryz.func254 (by kernel_rfl) (by kernel_rfl) (by kernel_rfl) (by kernel_rfl)
  have h11 := @run_callFunc_extern Tryz.prog 169 _ (ReflectliteValue.method (ReflectliteValue.valueError "reflectlite.Value.Elem" 0) ReflectliteValue.elem) Tryz.func169 (by kernel_rfl) (by kernel_rfl) (by kernel_rfl) (by kernel_rfl)
  have h12 := @run_callFunc_extern Tryz.prog 170 _ ReflectliteValue.set Tryz.func170 (by kernel_rfl) (by kernel_rfl) (by kernel_rfl) (by kernel_rfl)
  have tO := rl_typeOfS
  have mA := rl_methodAssignableTo
  have a25 := rl_assignableS
  have v25 := rl_valueOfS
  have f6 := rl_valueOfP
  have f7 := rl_typeP
  have mK := rl_methodKind
  have mE := rl_methodElem
  have mI := rl_methodImplements
  have k27 := rl_kindP
  have k25 := rl_kindS
  have e27 := rl_elemP
  have i25 := rl_implementsS
  have n8 := rl_isNilP ⟨w.heap.size, 0, none⟩ ⟨g, 0, none⟩ ((w.alloc (.cells #[.pointer (some ⟨g, 0, none⟩)] 156)).alloc (.cells #[.pointer (some ⟨11, 156, none⟩), .pointer (some ⟨w.heap.size, 0, none⟩), .int .u64 150] 181)) (by simp)
  have hlt : 0 < w.heap.size := World.block_lt_of_cell? w _ hg
  have hg2 : ((w.alloc (.cells #[.pointer (some ⟨g, 0, none⟩)] 156)).alloc (.cells #[.pointer (some ⟨11, 156, none⟩), .pointer (some ⟨w.heap.size, 0, none⟩), .int .u64 150] 181)).cell? ⟨0, 0, none⟩ = some (.iface 200 (.agg #[.pointer (some ⟨11, 151, none⟩)])) := by
    rw [World.cell?_alloc_lt _ _ ⟨0, 0, none⟩ (by simp <;> omega), World.cell?_alloc_lt _ _ ⟨0, 0, none⟩ hlt]; exact hg
  have htl : g < w.heap.size := World.block_lt_of_cell? w _ ht0
  have el := rl_elemVP ⟨w.heap.size, 0, none⟩ ⟨g, 0, none⟩ (((w.alloc (.cells #[.pointer (some ⟨g, 0, none⟩)] 156)).alloc (.cells #[.pointer (some ⟨11, 156, none⟩), .pointer (some ⟨w.heap.size, 0, none⟩), .int .u64 150] 181)).alloc (.cells #[.pointer (some ⟨11, 156, none⟩), .pointer (some ⟨w.heap.size, 0, none⟩), .int .u64 150] 181)) (by rw [World.cell?_alloc_lt _ _ ⟨w.heap.size, 0, none⟩ (by simp; omega)]; simp)
  have cg : ∀ j v, w.cell? ⟨g, j, none⟩ = some v → ((((w.alloc (.cells #[.pointer (some ⟨g, 0, none⟩)] 156)).alloc (.cells #[.pointer (some ⟨11, 156, none⟩), .pointer (some ⟨w.heap.size, 0, none⟩), .int .u64 150] 181)).alloc (.cells #[.pointer (some ⟨11, 156, none⟩), .pointer (some ⟨w.heap.size, 0, none⟩), .int .u64 150] 181)).alloc (.cells #[.int .i64 why, .int .i64 at0] 154)).cell? ⟨g, j, none⟩ = some v := fun j v h => by
    rw [World.cell?_alloc_lt _ _ ⟨g, j, none⟩ (by simp; omega), World.cell?_alloc_lt _ _ ⟨g, j, none⟩ (by simp; omega), World.cell?_alloc_lt _ _ ⟨g, j, none⟩ (by simp; omega), World.cell?_alloc_lt _ _ ⟨g, j, none⟩ htl]; exact h
  have fg : ∀ j, w.frozen? ⟨g, j, none⟩ = false → ((((w.alloc (.cells #[.pointer (some ⟨g, 0, none⟩)] 156)).alloc (.cells #[.pointer (some ⟨11, 156, none⟩), .pointer (some ⟨w.heap.size, 0, none⟩), .int .u64 150] 181)).alloc (.cells #[.pointer (some ⟨11, 156, none⟩), .pointer (some ⟨w.heap.size, 0, none⟩), .int .u64 150] 181)).alloc (.cells #[.int .i64 why, .int .i64 at0] 154)).frozen? ⟨g, j, none⟩ = false := fun j h => by
    rw [World.frozen?_alloc_old _ _ ⟨g, j, none⟩ (by simp; omega), World.frozen?_alloc_old _ _ ⟨g, j, none⟩ (by simp; omega), World.frozen?_alloc_old _ _ ⟨g, j, none⟩ (by simp; omega), World.frozen?_alloc_old _ _ ⟨g, j, none⟩ (Nat.ne_of_lt htl)]; exact h
  have st := rl_setS g (w.heap.size + 1 + 1 + 1) why at0 o0 o1 ((((w.alloc (.cells #[.pointer (some ⟨g, 0, none⟩)] 156)).alloc (.cells #[.pointer (some ⟨11, 156, none⟩), .pointer (some ⟨w.heap.size, 0, none⟩), .int .u64 150] 181)).alloc (.cells #[.pointer (some ⟨11, 156, none⟩), .pointer (some ⟨w.heap.size, 0, none⟩), .int .u64 150] 181)).alloc (.cells #[.int .i64 why, .int .i64 at0] 154))
    (by rw [World.cell?_alloc_at _ _ _ _ (by simp)]; rfl) (by rw [World.cell?_alloc_at _ _ _ _ (by simp)]; rfl) (cg 0 o0 ht0) (cg 1 o1 ht1) (fg 0 hf0) (fg 1 hf1)
  clear cg fg
  go_enter Tryz.func104, Tryz.ntmps104
  go_wp2
  refine wp_loop_rounds 1 ?_
  rw [rounds_succ]
  go_wp2
  go_ret
  exact ⟨rfl, rfl⟩
end Go.Proofs.YtghhamgealkodaaGreatDoor
/- syntax: what is done behind a reader, or a writer, that gives up. -/
namespace Go.Proofs.YtghhamgealkodaaGreatDoor
open Go.RowKit Go.Extern.Stop Go.Stop Go.Extern

set_option maxRecDepth 100000 in
theorem assert_stuck (v : Value) (w : World) : (Instr.typeAssert (.iface 154 v) 20 151 true).run Tryz.prog w = .ok (.tuple #[.iface 154 v, .bool true]) w := by kernel_rfl
set_option maxRecDepth 100000 in
theorem assert_nil (w : World) : (Instr.typeAssert .nilIface 20 151 true).run Tryz.prog w = .ok (.tuple #[.nilIface, .bool false]) w := by kernel_rfl

/-- What holds of errors' own variable. -/
def ErrT (w : World) : Prop := w.cell? ⟨0, 0, none⟩ = some (.iface 200 (.agg #[.pointer (some ⟨11, 151, none⟩)]))

set_option maxRecDepth 100000 in
set_option maxHeartbeats 1000000 in
theorem catch_idle (p q : Addr) (w : World) :
    CallsD Tryz.prog 103 #[.pointer (some p), .pointer (some q)] .returning w fun e u' w' => e = .returned (.tuple #[]) ∧ u' = .returning ∧ w' = w := by
  have hta := assert_nil
  refine callsD_of_wpS Tryz.func103 rfl fun c₀ cs hu => ?_
  simp only [Tryz.ntmps103, List.size_toArray, List.length_cons, List.length_nil, Nat.reduceAdd, Nat.reduceSub, Array.replicate_succ, Array.replicate_zero, List.push_toArray, List.append_toArray, List.nil_append, List.cons_append]
  apply wpS_seq
  apply wpS_region
  simp [wpOpsS, go_sem, recoverD, hu, Exit.thenS, hta]
  apply wpS_seq
  apply wpS_region
  simp [wpOpsS, go_sem, Exit.thenS]
  refine wpS_cond (t := false) (by simp [Act.eval]) ?_
  simp only [Bool.false_eq_true, if_false]
  refine wpS_of_wp (wp_skip ?_)
  cases c₀
  simp_all [bodyPostS, results, Tryz.results103]

set_option maxRecDepth 100000 in
set_option maxHeartbeats 2000000 in
theorem catch_stuck (N : Nat) (why at0 x y : Int) (older : List PanicEntry) (w : World) (h0 : w.heap[N]? = some (.cells #[.int .i64 x] 3 (0, 0))) (h1 : w.heap[N + 1]? = some (.cells #[.int .i64 y] 26 (0, 0))) (hg : ErrT w) :
    CallsD Tryz.prog 103 #[.pointer (some ⟨N, 0, none⟩), .pointer (some ⟨N + 1, 0, none⟩)] (.panicking ({ v := .iface 154 (.agg #[.int .i64 why, .int .i64 at0]), recovered := false } :: older)) w fun e u' w' =>
      e = .returned (.tuple #[]) ∧ u' = .panicking ({ v := .iface 154 (.agg #[.int .i64 why, .int .i64 at0]), recovered := true } :: older) ∧ w'.cell? ⟨N, 0, none⟩ = some (.int .i64 at0) ∧ w'.cell? ⟨N + 1, 0, none⟩ = some (.int .i64 why) ∧ Below N w w' := by
  have hta := assert_stuck
  refine callsD_of_wpS Tryz.func103 rfl fun c₀ cs hu => ?_
  simp only [Tryz.ntmps103, List.size_toArray, List.length_cons, List.length_nil, Nat.reduceAdd, Nat.reduceSub, Array.replicate_succ, Array.replicate_zero, List.push_toArray, List.append_toArray, List.nil_append, List.cons_append]
  apply wpS_seq
  apply wpS_region
  simp [wpOpsS, go_sem, recoverD, hu, Exit.thenS, hta]
  apply wpS_seq
  apply wpS_region
  simp [wpOpsS, go_sem, Exit.thenS]
  refine wpS_cond (t := true) (by simp [Act.eval]) ?_
  simp only [if_true]
  refine wpS_of_wp ?_
  have hN1 : N + 1 < w.heap.size := (Array.getElem?_eq_some_iff.1 h1).1
  obtain ⟨w1, hw1⟩ : ∃ w1, w1 = w.alloc (.cells #[.int .i64 0, .int .i64 0] 154) := ⟨_, rfl⟩
  have hz1 : w1.heap.size = w.heap.size + 1 := by rw [hw1]; simp
  have hnew : w1.heap[w.heap.size]? = some (.cells #[.int .i64 0, .int .i64 0] 154 (0, 0)) := by rw [hw1]; exact World.alloc_heap_new w _
  have hold : ∀ k, k < w.heap.size → w1.heap[k]? = w.heap[k]? := fun k hk => by rw [hw1]; exact Below.heap_alloc w _ k hk
  have hg1 : ErrT w1 := by
    unfold ErrT at hg ⊢
    have hl := World.block_lt_of_cell? w _ hg
    rw [World.cell?_of_block (hold _ hl)]; exact hg
  have ca := as_stuck why at0 w.heap.size (.int .i64 0) (.int .i64 0) w1 hg1 (by simp [World.cell?, hnew]) (by simp [World.cell?, hnew]) (by simp [World.frozen?, hnew]) (by simp [World.frozen?, hnew])
  rw [hw1] at ca
  go_wp2_with fail
  refine ca.mono ?_
  clear ca
  rw [← hw1]
  rintro e w2 ⟨rfl, hw2⟩
  have hkeep : ∀ k, k < w.heap.size → w2.heap[k]? = w.heap[k]? := fun k hk => by
    rw [hw2, Below.heap_setCell _ _ _ _ (by simp; omega), Below.heap_setCell _ _ _ _ (by simp; omega), Below.heap_alloc _ _ _ (by simp; omega), Below.heap_alloc _ _ _ (by simp; omega), Below.heap_alloc _ _ _ (by simp; omega), Below.heap_alloc _ _ _ (by omega), hold k hk]
  have hM : ∀ j v, w1.cell? ⟨w.heap.size, j, none⟩ = some v → ∀ o1 o2 o3 o4, ((((w1.alloc o1).alloc o2).alloc o3).alloc o4).cell? ⟨w.heap.size, j, none⟩ = some v := fun j v h o1 o2 o3 o4 => by
    rw [World.cell?_alloc_lt _ _ ⟨w.heap.size, j, none⟩ (by simp; omega), World.cell?_alloc_lt _ _ ⟨w.heap.size, j, none⟩ (by simp; omega), World.cell?_alloc_lt _ _ ⟨w.heap.size, j, none⟩ (by simp; omega), World.cell?_alloc_lt _ _ ⟨w.heap.size, j, none⟩ (by simp; omega)]; exact h
  have c0 : w1.cell? ⟨w.heap.size, 0, none⟩ = some (.int .i64 0) := by simp [World.cell?, hnew]
  have c1 : w1.cell? ⟨w.heap.size, 1, none⟩ = some (.int .i64 0) := by simp [World.cell?, hnew]
  have d0 : w2.cell? ⟨w.heap.size, 0, none⟩ = some (.int .i64 why) := by
    rw [hw2, World.cell?_setCell_other _ _ _ _ (by simp), World.cell?_setCell_same _ _ _ (hM 0 _ c0 _ _ _ _)]
  have d1 : w2.cell? ⟨w.heap.size, 1, none⟩ = some (.int .i64 at0) := by
    rw [hw2]
    refine World.cell?_setCell_same _ _ _ (u := .int .i64 0) ?_
    rw [World.cell?_setCell_other _ _ _ _ (by simp)]
    exact hM 1 _ c1 _ _ _ _
  have hsz2 : w.heap.size ≤ w2.heap.size := by rw [hw2]; simp; omega
  have g0 : w2.heap[N]? = some (.cells #[.int .i64 x] 3 (0, 0)) := (hkeep N (by omega)).trans h0
  have g1 : w2.heap[N + 1]? = some (.cells #[.int .i64 y] 26 (0, 0)) := (hkeep (N + 1) hN1).trans h1
  have hB2 : Below N w w2 := by
    rw [hw2, hw1]
    exact (((((((Below.refl N w).alloc (by omega) _).alloc (by simp; omega) _).alloc (by simp; omega) _).alloc (by simp; omega) _).alloc (by simp; omega) _).setCell (p := ⟨w.heap.size, 0, none⟩) (by simp; omega) _).setCell (p := ⟨w.heap.size, 1, none⟩) (by simp; omega) _
  have HB2 : Hid (Below N w w2) := hB2
  have k0 : w2.cell? ⟨N, 0, none⟩ = some (.int .i64 x) := by simp [World.cell?, g0]
  have k1 : w2.cell? ⟨N + 1, 0, none⟩ = some (.int .i64 y) := by simp [World.cell?, g1]
  have k0f : w2.frozen? ⟨N, 0, none⟩ = false := by simp [World.frozen?, g0]
  have k1f : w2.frozen? ⟨N + 1, 0, none⟩ = false := by simp [World.frozen?, g1]
  have k1' : ∀ v, (w2.setCell ⟨N, 0, none⟩ v).cell? ⟨N + 1, 0, none⟩ = some (.int .i64 y) := fun v => (World.cell?_setCell_other _ _ _ _ (by simp)).trans k1
  clear hw2 hkeep hM c0 c1 g0 g1 hB2 hnew hold hg1 hw1
  go_wp2
  have hfin : Below N w ((w2.setCell ⟨N, 0, none⟩ (.int .i64 at0)).setCell ⟨N + 1, 0, none⟩ (.int .i64 why)) := (HB2.out.setCell (p := ⟨N, 0, none⟩) (by simp) _).setCell (p := ⟨N + 1, 0, none⟩) (by simp) _
  have e0 : ((w2.setCell ⟨N, 0, none⟩ (.int .i64 at0)).setCell ⟨N + 1, 0, none⟩ (.int .i64 why)).cell? ⟨N, 0, none⟩ = some (.int .i64 at0) := by
    rw [World.cell?_setCell_other _ _ _ _ (by simp), World.cell?_setCell_same _ _ _ k0]
  have e1 : ((w2.setCell ⟨N, 0, none⟩ (.int .i64 at0)).setCell ⟨N + 1, 0, none⟩ (.int .i64 why)).cell? ⟨N + 1, 0, none⟩ = some (.int .i64 why) := World.cell?_setCell_same _ _ _ (k1' _)
  simp [bodyPostS, results, Tryz.results103]
  exact ⟨e0, e1, hfin⟩
end Go.Proofs.YtghhamgealkodaaGreatDoor
/- syntax: attempt, for whatever it is given to do. -/
namespace Go.Proofs.YtghhamgealkodaaGreatDoor
open Go.RowKit Go.Extern.Stop Go.Stop Go.Extern

/-- The panic of a reader, or a writer, that gives up. -/
abbrev stuckV (why at0 : Int) : Value := .iface 154 (.agg #[.int .i64 why, .int .i64 at0])

/-- The world in which attempt does what it is given. -/
abbrev attW (w : World) : World := (w.alloc (.cells #[.int .i64 0] 3)).alloc (.cells #[.int .i64 0] 26)

end Go.Proofs.YtghhamgealkodaaGreatDoor
/- syntax: a reader ahead of its tokens. -/
namespace Go.Proofs.YtghhamgealkodaaGreatDoor
open Go.RowKit Go.Shelf

/-- A token as a value. -/
abbrev tkV (t : Tk) : Value := .agg #[.int .i64 t.k, .string (strB t.s), .int .i64 t.n, .int .i64 t.line, .int .i64 t.at0]

/-- A token in a block of its own. -/
abbrev tkO (t : Tk) : Obj := .cells #[.int .i64 t.k, .string (strB t.s), .int .i64 t.n, .int .i64 t.line, .int .i64 t.at0] 72

/-- The reader at block r stands ahead of these tokens; they lie in block g, from the cell o on. -/
structure RdAt (r g o cap : Nat) (ts : List Tk) (w : World) : Prop where
  cell : w.cell? ⟨r, 0, none⟩ = some (.slice (some ⟨g, o, none⟩) ts.length cap)
  soft : w.frozen? ⟨r, 0, none⟩ = false
  hcap : ts.length ≤ cap
  hmax : cap ≤ maxLen
  other : r ≠ g
  toks : ∀ j u, (tkCells ts)[j]? = some u → w.cell? ⟨g, o + j, none⟩ = some u
  few : ts.length ≤ 1099511627776

theorem cell_al {w : World} {p : Addr} {v : Value} (h : w.cell? p = some v) (ob : Obj) : (w.alloc ob).cell? p = some v := by
  rw [World.cell?_alloc_lt _ _ p (World.block_lt_of_cell? w _ h)]; exact h

set_option maxRecDepth 100000 in
theorem field_at (a b c d e : Value) (w : World) : (Instr.field 72 (.agg #[a, b, c, d, e]) 4).run Tryz.prog w = .ok e w := by kernel_rfl
set_option maxRecDepth 100000 in
theorem field_kind (a b c d e : Value) (w : World) : (Instr.field 72 (.agg #[a, b, c, d, e]) 0).run Tryz.prog w = .ok a w := by kernel_rfl
set_option maxRecDepth 100000 in
theorem field_text (a b c d e : Value) (w : World) : (Instr.field 72 (.agg #[a, b, c, d, e]) 1).run Tryz.prog w = .ok b w := by kernel_rfl
set_option maxRecDepth 100000 in
theorem field_line (a b c d e : Value) (w : World) : (Instr.field 72 (.agg #[a, b, c, d, e]) 3).run Tryz.prog w = .ok d w := by kernel_rfl

set_option maxRecDepth 100000 in
set_option maxHeartbeats 2000000 in
theorem rdHere (r g o cap : Nat) (t : Tk) (ts : List Tk) (w : World) (h : RdAt r g o cap (t :: ts) w) :
    Calls Tryz.prog 60 #[.pointer (some ⟨r, 0, none⟩)] w fun e w' => e = .returned (tkV t) ∧ w' = w.alloc (tkO t) := by
  have hc := h.cell
  have hm := h.hmax
  have hk := h.hcap
  have t0 := h.toks 0 (.int .i64 t.k) (by simp [tkCells])
  have t1 := h.toks 1 (.string (strB t.s)) (by simp [tkCells])
  have t2 := h.toks 2 (.int .i64 t.n) (by simp [tkCells])
  have t3 := h.toks 3 (.int .i64 t.line) (by simp [tkCells])
  have t4 := h.toks 4 (.int .i64 t.at0) (by simp [tkCells])
  clear h
  simp only [List.length_cons, Nat.add_zero] at hc hk t0
  have hc' := cell_al hc
  have t0' := cell_al t0
  have t1' := cell_al t1
  have t2' := cell_al t2
  have t3' := cell_al t3
  have t4' := cell_al t4
  clear hc t0 t1 t2 t3 t4
  go_enter Tryz.func60, Tryz.ntmps60
  go_wp2
  simp [bodyPost, results, Tryz.results60, go_sem]

set_option maxRecDepth 100000 in
set_option maxHeartbeats 2000000 in
theorem rdStep (r g o cap : Nat) (t : Tk) (ts : List Tk) (w : World) (h : RdAt r g o cap (t :: ts) w) (hne : ts ≠ []) :
    Calls Tryz.prog 106 #[.pointer (some ⟨r, 0, none⟩)] w fun e w' => e = .returned (.tuple #[]) ∧ w' = w.setCell ⟨r, 0, none⟩ (.slice (some ⟨g, o + 5, none⟩) ts.length (cap - 1)) := by
  have hc := h.cell
  have hm := h.hmax
  have hk := h.hcap
  have hs := h.soft
  clear h
  simp only [List.length_cons] at hc hk
  go_enter Tryz.func106, Tryz.ntmps106
  go_wp2
  · exfalso
    have := List.length_pos_iff.2 hne
    omega
  · simp [bodyPost, results, Tryz.results106]

theorem RdAt.keep {r g o cap : Nat} {ts : List Tk} {w w' : World} (h : RdAt r g o cap ts w) (hr : w'.heap[r]? = w.heap[r]?) (hg : w'.heap[g]? = w.heap[g]?) : RdAt r g o cap ts w' where
  cell := by rw [World.cell?_of_block hr]; exact h.cell
  soft := by have := h.soft; simp only [World.frozen?, hr] at this ⊢; exact this
  hcap := h.hcap
  hmax := h.hmax
  other := h.other
  toks := fun j u hj => by rw [World.cell?_of_block hg]; exact h.toks j u hj
  few := h.few

theorem RdAt.next {r g o cap : Nat} {t : Tk} {ts : List Tk} {w : World} (h : RdAt r g o cap (t :: ts) w) : RdAt r g (o + 5) (cap - 1) ts (w.setCell ⟨r, 0, none⟩ (.slice (some ⟨g, o + 5, none⟩) ts.length (cap - 1))) where
  cell := World.cell?_setCell_same _ _ _ h.cell
  soft := by rw [World.frozen?_setCell]; exact h.soft
  hcap := by have := h.hcap; simp only [List.length_cons] at this; omega
  hmax := by have := h.hmax; omega
  other := h.other
  toks := fun j u hj => by
    rw [World.cell?_setCell_other _ _ _ _ (by simp)]
    have := h.toks (5 + j) u (by simpa [tkCells, List.getElem?_append, Nat.add_comm] using hj)
    rw [show o + 5 + j = o + (5 + j) by omega]; exact this
  few := by have := h.few; simp only [List.length_cons] at this; omega

set_option maxRecDepth 100000 in
set_option maxHeartbeats 2000000 in
theorem rdGive (r g o cap : Nat) (t : Tk) (ts : List Tk) (w : World) (h : RdAt r g o cap (t :: ts) w) :
    Calls Tryz.prog 64 #[.pointer (some ⟨r, 0, none⟩)] w fun e w' => e = .panicked [{ v := stuckV 6 t.at0, recovered := false }] ∧ w' = w.alloc (tkO t) := by
  have ch := rdHere r g o cap t ts w h
  have hf := field_at
  have hp : ∀ (v : Value) (w : World), (Instr.panic (.iface 154 v)).run Tryz.prog w = .halt (.panic (.iface 154 v)) w := fun _ _ => rfl
  clear h
  go_enter Tryz.func64, Tryz.ntmps64
  go_wp2_with fail
  refine ch.mono ?_
  rintro e w' ⟨rfl, rfl⟩
  simp only [tkV]
  go_wp2
  exact ⟨rfl, rfl, rfl⟩

/-- Whether a sign or a word stands here. -/
def isTk (t : Tk) (s : List UInt8) : Bool := (t.k == 4 || t.k == 5) && t.s == s

set_option maxRecDepth 100000 in
set_option maxHeartbeats 2000000 in
theorem rdIs (r g o cap : Nat) (t : Tk) (ts : List Tk) (s : List UInt8) (w : World) (h : RdAt r g o cap (t :: ts) w) :
    Calls Tryz.prog 105 #[.pointer (some ⟨r, 0, none⟩), .string (strB s)] w fun e w' => e = .returned (.bool (isTk t s)) ∧ w' = (w.alloc (tkO t)).alloc (tkO t) := by
  have ch := rdHere r g o cap t ts w h
  clear h
  go_enter Tryz.func105, Tryz.ntmps105
  go_wp2_with fail
  refine ch.mono ?_
  clear ch
  rintro e w' ⟨rfl, rfl⟩
  simp only [tkV]
  go_wp2
  all_goals simp_all [bodyPost, results, Tryz.results105, isTk]
  · rename_i h
    have hk : t.k = 4 := by omega
    exact ⟨fun _ => .inl hk, by simp [tkO, hk]⟩
  · rename_i h
    have hk : t.k = 5 := by omega
    exact ⟨fun _ => .inr hk, by simp [tkO, hk]⟩
  · intro hh; omega
end Go.Proofs.YtghhamgealkodaaGreatDoor
/- syntax: what a reader does with a sign, a word, a name and the end. -/
namespace Go.Proofs.YtghhamgealkodaaGreatDoor
open Go.RowKit Go.Shelf

/-- All but the block r is kept. -/
structure Kept (r : Nat) (w w' : World) : Prop where
  os : w'.os = w.os
  tape : w'.tape = w.tape
  output : w'.output = w.output
  size : w.heap.size ≤ w'.heap.size
  block : ∀ k, k < w.heap.size → k ≠ r → w'.heap[k]? = w.heap[k]?

theorem Kept.refl (r : Nat) (w : World) : Kept r w w := ⟨rfl, rfl, rfl, Nat.le_refl _, fun _ _ _ => rfl⟩
theorem Kept.of {r : Nat} {w w' : World} (h : Below w.heap.size w w') : Kept r w w' := ⟨h.os, h.tape, h.output, h.size, fun k hk _ => h.block k hk⟩
theorem Kept.trans {r : Nat} {a b c : World} (h : Kept r a b) (k : Kept r b c) : Kept r a c :=
  ⟨k.os.trans h.os, k.tape.trans h.tape, k.output.trans h.output, Nat.le_trans h.size k.size, fun i hi hr => (k.block i (Nat.lt_of_lt_of_le hi h.size) hr).trans (h.block i hi hr)⟩
theorem Kept.alloc {r : Nat} {w w' : World} (h : Kept r w w') (ob : Obj) : Kept r w (w'.alloc ob) :=
  h.trans (.of ((Below.refl _ w').alloc (Nat.le_refl _) ob))
theorem Kept.setCell {r : Nat} {w w' : World} (h : Kept r w w') (j : Nat) (v : Value) : Kept r w (w'.setCell ⟨r, j, none⟩ v) := by
  have hb := (Below.refl 0 w').setCell (p := ⟨r, j, none⟩) (by simp) v
  refine h.trans ⟨hb.os, hb.tape, hb.output, hb.size, fun k _ hr => Below.heap_setCell _ _ _ _ (by simpa using hr)⟩

theorem RdAt.lt {r g o cap : Nat} {t : Tk} {ts : List Tk} {w : World} (h : RdAt r g o cap (t :: ts) w) : r < w.heap.size ∧ g < w.heap.size :=
  ⟨World.block_lt_of_cell? w _ h.cell, World.block_lt_of_cell? w _ (h.toks 0 (.int .i64 t.k) (by simp [tkCells]))⟩
theorem RdAt.alloc {r g o cap : Nat} {t : Tk} {ts : List Tk} {w : World} (h : RdAt r g o cap (t :: ts) w) (ob : Obj) : RdAt r g o cap (t :: ts) (w.alloc ob) :=
  h.keep (Below.heap_alloc w ob r h.lt.1) (Below.heap_alloc w ob g h.lt.2)

set_option maxRecDepth 100000 in
set_option maxHeartbeats 2000000 in
theorem rdSkip (r g o cap : Nat) (t : Tk) (ts : List Tk) (s : List UInt8) (w : World) (h : RdAt r g o cap (t :: ts) w) (hne : isTk t s = true → ts ≠ []) :
    Calls Tryz.prog 61 #[.pointer (some ⟨r, 0, none⟩), .string (strB s)] w fun e w' => e = .returned (.bool (isTk t s)) ∧ Kept r w w' ∧
      if isTk t s = true then RdAt r g (o + 5) (cap - 1) ts w' else RdAt r g o cap (t :: ts) w' := by
  have ch := rdIs r g o cap t ts s w h
  obtain ⟨w1, hw1⟩ : ∃ w1, w1 = (w.alloc (tkO t)).alloc (tkO t) := ⟨_, rfl⟩
  have h1 : RdAt r g o cap (t :: ts) w1 := by rw [hw1]; exact (h.alloc _).alloc _
  have hk1 : Kept r w w1 := by rw [hw1]; exact ((Kept.refl r w).alloc _).alloc _
  rw [← hw1] at ch
  have H1 : Hid (RdAt r g o cap (t :: ts) w1) := h1
  have HK : Hid (Kept r w w1) := hk1
  cases hi : isTk t s
  · clear hne h h1 hk1 hw1
    rw [hi] at ch
    go_enter Tryz.func61, Tryz.ntmps61
    go_wp2_with fail
    refine ch.mono ?_
    clear ch
    rintro e w' ⟨rfl, rfl⟩
    go_wp2
    simp only [bodyPost, results, Tryz.results61]
    simp [HK.out, H1.out]
  · have cs := rdStep r g o cap t ts w1 h1 (hne hi)
    clear hne h h1 hk1 hw1
    rw [hi] at ch
    go_enter Tryz.func61, Tryz.ntmps61
    go_wp2_with fail
    refine ch.mono ?_
    clear ch
    rintro e w' ⟨rfl, rfl⟩
    go_wp2_with fail
    refine cs.mono ?_
    clear cs
    rintro e w' ⟨rfl, rfl⟩
    go_wp2
    simp only [bodyPost, results, Tryz.results61]
    simp [HK.out.setCell, H1.out.next]
end Go.Proofs.YtghhamgealkodaaGreatDoor
/- syntax: what a reader needs. -/
namespace Go.Proofs.YtghhamgealkodaaGreatDoor
open Go.RowKit Go.Shelf

/-- It gave up at this byte. -/
abbrev gaveUp (at0 : Nat) : Ending := .panicked [{ v := stuckV 6 at0, recovered := false }]

set_option maxRecDepth 100000 in
set_option maxHeartbeats 2000000 in
theorem rdNeed (r g o cap : Nat) (t : Tk) (ts : List Tk) (s : List UInt8) (w : World) (h : RdAt r g o cap (t :: ts) w) (hne : isTk t s = true → ts ≠ []) :
    Calls Tryz.prog 108 #[.pointer (some ⟨r, 0, none⟩), .string (strB s)] w fun e w' => Kept r w w' ∧
      if isTk t s = true then e = .returned (.tuple #[]) ∧ RdAt r g (o + 5) (cap - 1) ts w' else e = gaveUp t.at0 := by
  have ch := rdSkip r g o cap t ts s w h hne
  cases hi : isTk t s
  · clear hne h
    rw [hi] at ch
    go_enter Tryz.func108, Tryz.ntmps108
    go_wp2_with fail
    refine ch.mono ?_
    clear ch
    rintro e w1 ⟨rfl, hk, h1⟩
    have cs := rdGive r g o cap t ts w1 (by simpa using h1)
    have HK : Hid (Kept r w w1) := hk
    clear h1 hk
    go_wp2_with fail
    refine cs.mono ?_
    clear cs
    rintro e w' ⟨rfl, rfl⟩
    go_wp2
    simp only [bodyPost]
    simp [HK.out.alloc]
  · clear hne h
    rw [hi] at ch
    go_enter Tryz.func108, Tryz.ntmps108
    go_wp2_with fail
    refine ch.mono ?_
    clear ch
    rintro e w1 ⟨rfl, hk, h1⟩
    have HK : Hid (Kept r w w1) := hk
    have h1' : RdAt r g (o + 5) (cap - 1) ts w1 := by simpa using h1
    have H1 : Hid (RdAt r g (o + 5) (cap - 1) ts w1) := h1'
    clear h1 h1' hk
    go_wp2
    simp only [bodyPost, results, Tryz.results108]
    simp [HK.out, H1.out]

set_option maxRecDepth 100000 in
set_option maxHeartbeats 2000000 in
theorem rdEnd (r g o cap : Nat) (t : Tk) (ts : List Tk) (w : World) (h : RdAt r g o cap (t :: ts) w) :
    Calls Tryz.prog 59 #[.pointer (some ⟨r, 0, none⟩)] w fun e w' => Kept r w w' ∧
      if t.k = 0 then e = .returned (.tuple #[]) else e = gaveUp t.at0 := by
  have ch := rdHere r g o cap t ts w h
  have hf := field_kind
  obtain ⟨w1, hw1⟩ : ∃ w1, w1 = w.alloc (tkO t) := ⟨_, rfl⟩
  have h1 : RdAt r g o cap (t :: ts) w1 := by rw [hw1]; exact h.alloc _
  have HK : Hid (Kept r w w1) := by rw [hw1]; exact (Kept.refl r w).alloc _
  rw [← hw1] at ch
  have cs := rdGive r g o cap t ts w1 h1
  clear h h1 hw1
  by_cases hk : t.k = 0
  · clear cs
    simp only [hk, if_true]
    go_enter Tryz.func59, Tryz.ntmps59
    go_wp2_with fail
    refine ch.mono ?_
    clear ch
    rintro e w' ⟨rfl, rfl⟩
    simp only [tkV, hk]
    go_wp2
    simp only [bodyPost, results, Tryz.results59]
    simp [HK.out]
  · have hk' : ¬ (t.k : Int) = 0 := by omega
    simp only [hk, if_false]
    go_enter Tryz.func59, Tryz.ntmps59
    go_wp2_with fail
    refine ch.mono ?_
    clear ch
    rintro e w' ⟨rfl, rfl⟩
    simp only [tkV]
    go_wp2_with fail
    refine cs.mono ?_
    clear cs
    rintro e w' ⟨rfl, rfl⟩
    go_wp2
    simp only [bodyPost]
    simp [HK.out.alloc]

set_option maxRecDepth 100000 in
set_option maxHeartbeats 2000000 in
theorem rdName (r g o cap : Nat) (t : Tk) (ts : List Tk) (w : World) (h : RdAt r g o cap (t :: ts) w) (hne : t.k = 1 → ts ≠ []) :
    Calls Tryz.prog 107 #[.pointer (some ⟨r, 0, none⟩)] w fun e w' => Kept r w w' ∧
      if t.k = 1 then e = .returned (.string (strB t.s)) ∧ RdAt r g (o + 5) (cap - 1) ts w' else e = gaveUp t.at0 := by
  have ch := rdHere r g o cap t ts w h
  obtain ⟨w2, hw2⟩ : ∃ w2, w2 = (w.alloc (tkO t)).alloc (tkO t) := ⟨_, rfl⟩
  have h2 : RdAt r g o cap (t :: ts) w2 := by rw [hw2]; exact (h.alloc _).alloc _
  have HK : Hid (Kept r w w2) := by rw [hw2]; exact ((Kept.refl r w).alloc _).alloc _
  have cg := rdGive r g o cap t ts w2 h2
  by_cases hk : t.k = 1
  · have cs := rdStep r g o cap t ts w2 h2 (hne hk)
    have H2 : Hid (RdAt r g o cap (t :: ts) w2) := h2
    have hw3 : (w.alloc (tkO t)).alloc (.cells #[.int .i64 1, .string (strB t.s), .int .i64 t.n, .int .i64 t.line, .int .i64 t.at0] 72) = w2 := by rw [hw2]; simp [tkO, hk]
    have hw2' : Hid ((w.alloc (tkO t)).alloc (.cells #[.int .i64 1, .string (strB t.s), .int .i64 t.n, .int .i64 t.line, .int .i64 t.at0] 72) = w2) := hw3
    clear hw3
    have hcell : ∀ v, (w2.setCell ⟨r, 0, none⟩ v).cell? ⟨w.heap.size + 1, 1, none⟩ = some (.string (strB t.s)) := fun v => by
      rw [World.cell?_setCell_other _ _ _ _ (by simp), hw2]
      have hn : (w.alloc (tkO t)).heap.size = w.heap.size + 1 := by simp
      have := World.alloc_heap_new (w.alloc (tkO t)) (tkO t)
      rw [hn] at this
      simp only [World.cell?, this]
      rfl
    clear cg h h2 hw2
    simp only [hk, if_true]
    go_enter Tryz.func107, Tryz.ntmps107
    go_wp2_with fail
    refine ch.mono ?_
    clear ch
    rintro e w' ⟨rfl, rfl⟩
    simp only [tkV]
    go_wp2_with fail
    rw [hw2'.out]
    clear hw2'
    refine cs.mono ?_
    clear cs
    rintro e w' ⟨rfl, rfl⟩
    go_wp2
    simp only [bodyPost, results, Tryz.results107]
    simp [HK.out.setCell, H2.out.next]
  · have hk' : ¬ (t.k : Int) = 1 := by omega
    have hw2' : Hid ((w.alloc (tkO t)).alloc (.cells #[.int .i64 t.k, .string (strB t.s), .int .i64 t.n, .int .i64 t.line, .int .i64 t.at0] 72) = w2) := hw2.symm
    clear h h2 hw2
    simp only [hk, if_false]
    go_enter Tryz.func107, Tryz.ntmps107
    go_wp2_with fail
    refine ch.mono ?_
    clear ch
    rintro e w' ⟨rfl, rfl⟩
    simp only [tkV]
    go_wp2_with fail
    rw [hw2'.out]
    clear hw2'
    refine cg.mono ?_
    clear cg
    rintro e w' ⟨rfl, rfl⟩
    go_wp2
    simp only [bodyPost]
    simp [HK.out.alloc]
end Go.Proofs.YtghhamgealkodaaGreatDoor
/- syntax: what the writer puts down. -/
namespace Go.Proofs.YtghhamgealkodaaGreatDoor
open Go.RowKit Go.Shelf

theorem own_slice {w : World} {B e sz n : Nat} {v : Value} {xs : List Value} (h : w.ownsRow B e sz v n xs) : ∃ ao cap, v = .slice ao n cap := by
  rcases h.2 with ⟨rfl, rfl⟩ | ⟨g, cap, cur, rfl, _⟩
  · exact ⟨_, _, rfl⟩
  · exact ⟨_, _, rfl⟩
theorem cellsW {w : World} {r : Nat} {p v : Value} {lo : Bool} (h : w.heap[r]? = some (.cells #[p, v, .bool lo] 133 (0, 0))) :
    w.cell? ⟨r, 0, none⟩ = some p ∧ w.cell? ⟨r, 1, none⟩ = some v ∧ w.cell? ⟨r, 2, none⟩ = some (.bool lo) ∧ ∀ j, w.frozen? ⟨r, j, none⟩ = false := by
  refine ⟨?_, ?_, ?_, fun j => ?_⟩
  · simp only [World.cell?, h]; rfl
  · simp only [World.cell?, h]; rfl
  · simp only [World.cell?, h]; rfl
  · simp only [World.frozen?, h]; simp
theorem setW_block {w : World} {r j : Nat} {c : Array Value} {ty : TypeId} {fr : Nat × Nat} (v : Value) (h : w.heap[r]? = some (.cells c ty fr)) : (w.setCell ⟨r, j, none⟩ v).heap[r]? = some (.cells (c.setIfInBounds j v) ty fr) := by
  unfold World.setCell
  simp [Array.getElem?_modify, h]
theorem ownW_set {w : World} {B e sz n r j : Nat} {v u : Value} {xs : List Value} (h : w.ownsRow B e sz v n xs) (hne : v.ownBlock ≠ some r) : (w.setCell ⟨r, j, none⟩ u).ownsRow B e sz v n xs := by
  refine ⟨h.1, ?_⟩
  rcases h.2 with h9 | ⟨g, cap, cur, rfl, h2, h3, h4⟩
  · exact .inl h9
  · exact .inr ⟨g, cap, cur, rfl, h2, (Below.heap_setCell _ _ _ _ (by intro e; exact hne (by simp [Value.ownBlock, e]))).trans h3, h4⟩
/-- A cell of the writer's block is set. -/
theorem WrTo.own {r j : Nat} {q q' : Option Nat} {w w' : World} (h : WrTo r q w q' w') (v : Value) : WrTo r q w q' (w'.setCell ⟨r, j, none⟩ v) :=
  ⟨h.os, h.tape, h.output, by have := h.size; simpa using this, fun k hk hr hq => (Below.heap_setCell _ _ _ _ (by simpa using hr)).trans (h.block k hk hr hq), h.row⟩

set_option maxRecDepth 100000 in
theorem check_any (r : Nat) (q : Option Nat) (l : List UInt8) (lo : Bool) (w : World) (h : WrAt r q l lo w) :
    Calls Tryz.prog 154 #[.pointer (some ⟨r, 0, none⟩)] w fun e w' => e = .returned (.tuple #[]) ∧ WrTo r q w q w' ∧ ∃ v, w'.heap[r]? = some (.cells #[.pointer (some ⟨r, 0, none⟩), v, .bool lo] 133 (0, 0)) ∧ w'.ownsRow 0 5 1 v l.length (Lib.byteCells l) ∧ v.ownBlock = q := by
  obtain ⟨⟨p, v, hb, hp, ho, rfl⟩, hne⟩ := h
  obtain ⟨c0, c1, c2, cf⟩ := cellsW hb
  rcases hp with rfl | rfl
  · refine (check_fresh r w c0 (by simp [World.shape?, hb]) (cf 0)).mono ?_
    rintro e w' ⟨rfl, rfl⟩
    exact ⟨rfl, (WrTo.refl _ _ _).own _, v, setW_block _ hb, ownW_set ho hne, rfl⟩
  · refine (check_used r w c0).mono ?_
    rintro e w' ⟨rfl, rfl⟩
    exact ⟨rfl, WrTo.refl _ _ _, v, hb, ho, rfl⟩

set_option maxRecDepth 100000 in
theorem len_any (r : Nat) (q : Option Nat) (l : List UInt8) (lo : Bool) (w : World) (h : WrAt r q l lo w) :
    Calls Tryz.prog 131 #[.pointer (some ⟨r, 0, none⟩)] w fun e w' => e = .returned (.int .i64 (l.length : Int)) ∧ w' = w := by
  obtain ⟨⟨p, v, hb, hp, ho, rfl⟩, hne⟩ := h
  obtain ⟨c0, c1, c2, cf⟩ := cellsW hb
  obtain ⟨ao, cap, rfl⟩ := own_slice ho
  clear hb hp ho hne cf c2 c0
  go_enter Tryz.func131, Tryz.ntmps131
  go_wp2
  exact bodyPost_ret (v := .int .i64 (l.length : Int)) (by simp [results, Tryz.results131, go_sem]) rfl ⟨rfl, rfl⟩

theorem write_step {r : Nat} {l s : List UInt8} {lo : Bool} {w w1 w2 : World} {v v' : Value} (hne : v.ownBlock ≠ some r) (hto : WrTo r v.ownBlock w v.ownBlock w1) (hb : w1.heap[r]? = some (.cells #[.pointer (some ⟨r, 0, none⟩), v, .bool lo] 133 (0, 0))) (hown' : w2.ownsRow 0 5 1 v' (l ++ s).length (Lib.byteCells (l ++ s))) (hgrow : w1.grownBy w2 v.ownBlock) (hat : v'.ownBlock = v.ownBlock ∨ ∀ k, v'.ownBlock = some k → w1.heap.size ≤ k) :
    ∃ ao cap N, v' = .slice ao N cap ∧ w2.cell? ⟨r, 1, none⟩ = some v ∧ w2.frozen? ⟨r, 1, none⟩ = false ∧ Hid (WrAt r (Value.ownBlock (.slice ao N cap)) (l ++ s) lo (w2.setCell ⟨r, 1, none⟩ (.slice ao N cap)) ∧ WrTo r v.ownBlock w (Value.ownBlock (.slice ao N cap)) (w2.setCell ⟨r, 1, none⟩ (.slice ao N cap))) := by
  have hlt : r < w1.heap.size := (Array.getElem?_eq_some_iff.1 hb).1
  have hb2 : w2.heap[r]? = some (.cells #[.pointer (some ⟨r, 0, none⟩), v, .bool lo] 133 (0, 0)) := by
    rw [hgrow.block r hlt (fun e => hne e.symm)]
    exact hb
  obtain ⟨d0, d1, d2, df⟩ := cellsW hb2
  have hne' : v'.ownBlock ≠ some r := by
    rcases hat with h9 | h9
    · rw [h9]; exact hne
    · intro e; have := h9 r e; omega
  obtain ⟨ao, cap, rfl⟩ := own_slice hown'
  refine ⟨ao, cap, _, rfl, d1, df 1, show _ ∧ _ from ⟨⟨⟨_, _, setW_block _ hb2, .inr rfl, ownW_set hown' hne', rfl⟩, hne'⟩, ?_⟩⟩
  have h2 : WrTo r v.ownBlock w1 (Value.ownBlock (.slice ao (l ++ s).length cap)) w2 := ⟨hgrow.os, hgrow.tape, hgrow.output, hgrow.size, fun k hk _ hq => hgrow.block k hk (fun e => hq e.symm), hat⟩
  exact (hto.trans h2).own _

set_option maxRecDepth 100000 in
set_option maxHeartbeats 2000000 in
theorem write_any (r : Nat) (q : Option Nat) (l s : List UInt8) (lo : Bool) (w : World) (h : WrAt r q l lo w) (hl : l.length + s.length ≤ 140737488355328) :
    Calls Tryz.prog 132 #[.pointer (some ⟨r, 0, none⟩), .string (strB s)] w fun e w' => e = .returned (.tuple #[.int .i64 (s.length : Int), .nilIface]) ∧ ∃ q', WrAt r q' (l ++ s) lo w' ∧ WrTo r q w q' w' := by
  have cc := check_any r q l lo w h
  have hne := h.other
  clear h
  go_enter Tryz.func132, Tryz.ntmps132
  go_wp2_with fail
  refine cc.mono ?_
  clear cc
  rintro e w1 ⟨rfl, hto, v, hb, ho, rfl⟩
  obtain ⟨c0, c1, c2, cf⟩ := cellsW hb
  have HT : Hid (WrTo r v.ownBlock w v.ownBlock w1) := hto
  have HB : Hid (w1.heap[r]? = some (.cells #[.pointer (some ⟨r, 0, none⟩), v, .bool lo] 133 (0, 0))) := hb
  have HO : Hid (w1.ownsRow 0 5 1 v l.length (Lib.byteCells l)) := ho
  clear hb ho hto
  go_wp2_with (at_builtin; refine append_strW rfl _ _ rfl 0 _ l rfl HO.out s rfl hl (Nat.zero_le _) ?_; intro v' w2 hown' hgrow hat; obtain ⟨ao, cap, N, rfl, d1, f1, HP⟩ := write_step hne HT.out HB.out hown' hgrow hat; clear hown' hgrow hat HB HO HT)
  exact bodyPost_ret (v := .tuple #[.int .i64 (s.length : Int), .nilIface]) (by simp [results, Tryz.results132, go_sem]) rfl ⟨rfl, _, HP.out.1, HP.out.2⟩

/-- The writer at block r has been told t; w0 is the world that it was made in. -/
structure WrT (w0 : World) (r : Nat) (q : Option Nat) (t : List UInt8) (w : World) : Prop where
  at0 : ∃ l lo, WrAt r q l lo w ∧ (lo = true ↔ 4096 < t.length) ∧ (lo = false → l = t) ∧ l.length ≤ 4096
  env : Below w0.heap.size w0 w
  hr : w0.heap.size ≤ r
  hq : ∀ k, q = some k → w0.heap.size ≤ k
theorem WrT.to {w0 w w' : World} {r : Nat} {q q' : Option Nat} {t t' : List UInt8} (h : WrT w0 r q t w) (ht : WrTo r q w q' w') (ha : ∃ l lo, WrAt r q' l lo w' ∧ (lo = true ↔ 4096 < t'.length) ∧ (lo = false → l = t') ∧ l.length ≤ 4096) : WrT w0 r q' t' w' := by
  refine ⟨ha, ?_, h.hr, ?_⟩
  · refine ⟨ht.os.trans h.env.os, ht.tape.trans h.env.tape, ht.output.trans h.env.output, Nat.le_trans h.env.size ht.size, fun k hk => (ht.block k (Nat.lt_of_lt_of_le hk h.env.size) (by have := h.hr; omega) fun e => ?_).trans (h.env.block k hk)⟩
    have := h.hq k e; omega
  · intro k hk
    rcases ht.row with e | e
    · exact h.hq k (e ▸ hk)
    · exact Nat.le_trans h.env.size (e k hk)
theorem WrT.below {w0 w w' : World} {r : Nat} {q : Option Nat} {t : List UInt8} (h : WrT w0 r q t w) (hb : Below w.heap.size w w') : WrT w0 r q t w' := by
  obtain ⟨l, lo, h1, h2, h3, h4⟩ := h.at0
  exact h.to (WrTo.below hb) ⟨l, lo, h1.below hb, h2, h3, h4⟩
theorem WrT.alloc {w0 w : World} {r : Nat} {q : Option Nat} {t : List UInt8} (h : WrT w0 r q t w) (ob : Obj) : WrT w0 r q t (w.alloc ob) := h.below ((Below.refl _ w).alloc (Nat.le_refl _) _)
theorem WrT.lt {w0 w : World} {r : Nat} {q : Option Nat} {t : List UInt8} (h : WrT w0 r q t w) : r < w.heap.size ∧ ∀ k, q = some k → k < w.heap.size := by
  obtain ⟨l, lo, h1, -⟩ := h.at0
  exact h1.lt
/-- What may not be told. -/
abbrev mayNot : Ending := .panicked [{ v := stuckV 2 0, recovered := false }]
/-- What writing leaves: no more is told, or this is. -/
def PostO (w0 : World) (r : Nat) (q : Option Nat) (t : List UInt8) (w : World) (res : Option (List UInt8)) (e : Ending) (w' : World) : Prop :=
  ∃ q', WrTo r q w q' w' ∧ match res with
    | none => e = mayNot
    | some s => e = .returned (.tuple #[]) ∧ WrT w0 r q' (t ++ s) w'

set_option maxRecDepth 100000 in
set_option maxHeartbeats 2000000 in
theorem put_any (w0 : World) (r : Nat) (q : Option Nat) (t s : List UInt8) (w : World) (h : WrT w0 r q t w) (hs : s.length ≤ 1099511627776) :
    Calls Tryz.prog 92 #[.pointer (some ⟨r, 0, none⟩), .string (strB s)] w (PostO w0 r q t w (some s)) := by
  obtain ⟨l, lo, hat, hlo, hlt, hll⟩ := h.at0
  have HW : Hid (WrT w0 r q t w) := h
  obtain ⟨⟨p, v, hb, hp, ho, hv⟩, hne⟩ := id hat
  obtain ⟨c0, c1, c2, cf⟩ := cellsW hb
  have f2 := cf 2
  have hset : ∀ b, (WrAt r q l b (w.setCell ⟨r, 2, none⟩ (.bool b))) ∧ WrTo r q w q (w.setCell ⟨r, 2, none⟩ (.bool b)) := fun b =>
    ⟨⟨⟨p, v, setW_block _ hb, hp, ownW_set ho (by rw [hv]; exact hne), hv⟩, hne⟩, (WrTo.refl _ _ _).own _⟩
  have hcell : ∀ b, (w.setCell ⟨r, 2, none⟩ (.bool b)).cell? ⟨r, 2, none⟩ = some (.bool b) := fun b => World.cell?_setCell_same _ _ _ c2
  have HS : Hid (∀ b, (WrAt r q l b (w.setCell ⟨r, 2, none⟩ (.bool b))) ∧ WrTo r q w q (w.setCell ⟨r, 2, none⟩ (.bool b))) := hset
  have cl := len_any r q l lo w hat
  clear h hb hp ho hv hne cf c0 c1 hset hat
  have hss : (strB s).size = s.length := strB_size s
  cases lo with
  | true =>
    clear cl
    have hc := hcell true
    have ht : 4096 < t.length := hlo.1 rfl
    have HP : Hid (PostO w0 r q t w (some s) (.returned (.tuple #[])) (w.setCell ⟨r, 2, none⟩ (.bool true))) :=
      ⟨q, (HS.out true).2, rfl, HW.out.to (HS.out true).2 ⟨l, true, (HS.out true).1, ⟨fun _ => by rw [List.length_append]; omega, fun _ => rfl⟩, fun h => (by cases h), hll⟩⟩
    clear HS HW hcell
    go_enter Tryz.func92, Tryz.ntmps92
    go_wp2
    exact bodyPost_ret (v := .tuple #[]) (by simp [results, Tryz.results92, go_sem]) rfl HP.out
  | false =>
    obtain rfl := hlt rfl
    have ht : ¬ 4096 < l.length := fun h9 => by have := hlo.2 h9; cases this
    go_enter Tryz.func92, Tryz.ntmps92
    go_wp2_with fail
    refine cl.mono ?_
    clear cl
    rintro e w1 ⟨rfl, rfl⟩
    by_cases hbig : 4096 < l.length + s.length
    · have hc := hcell true
      have h9 : (4096 : Int) - (l.length : Int) < (s.length : Int) := by omega
      have HP : Hid (PostO w0 r q l w1 (some s) (.returned (.tuple #[])) (w1.setCell ⟨r, 2, none⟩ (.bool true))) :=
        ⟨q, (HS.out true).2, rfl, HW.out.to (HS.out true).2 ⟨l, true, (HS.out true).1, ⟨fun _ => by rw [List.length_append]; omega, fun _ => rfl⟩, fun h => (by cases h), hll⟩⟩
      clear HS HW hcell
      go_wp2
      exact bodyPost_ret (v := .tuple #[]) (by simp [results, Tryz.results92, go_sem]) rfl HP.out
    · have hc := hcell false
      have h9 : ¬ (4096 : Int) - (l.length : Int) < (s.length : Int) := by omega
      have cw := write_any r q l s false _ (HS.out false).1 (by omega)
      have HT : Hid (WrTo r q w1 q (w1.setCell ⟨r, 2, none⟩ (.bool false))) := (HS.out false).2
      clear HS hcell
      have h10 : decide ((4096 : Int) - (l.length : Int) < (s.length : Int)) = false := decide_eq_false h9
      go_wp2_with fail
      refine cw.mono ?_
      clear cw
      rintro e w2 ⟨rfl, q', hat2, hto2⟩
      have hto := HT.out.trans hto2
      have HP : Hid (PostO w0 r q l w1 (some s) (.returned (.tuple #[])) w2) :=
        ⟨q', hto, rfl, HW.out.to hto ⟨l ++ s, false, hat2, ⟨fun h => (by cases h), fun h => (by rw [List.length_append] at h; omega)⟩, fun _ => rfl, by rw [List.length_append]; omega⟩⟩
      clear hat2 hto2 hto HT HW
      go_wp2
      exact bodyPost_ret (v := .tuple #[]) (by simp [results, Tryz.results92, go_sem]) rfl HP.out

/-- What allow does. -/
def mayE : Bool → Ending
  | true => .returned (.tuple #[])
  | false => mayNot
set_option maxRecDepth 100000 in
theorem allow_any (b : Bool) (w : World) : Calls Tryz.prog 88 #[.bool b] w fun e w' => w' = w ∧ e = mayE b := by
  cases b with
  | true =>
    go_enter Tryz.func88, Tryz.ntmps88
    go_wp2
    simp only [bodyPost, results, Tryz.results88]
    simp [mayE]
  | false =>
    go_enter Tryz.func88, Tryz.ntmps88
    go_wp2
    exact ⟨rfl, rfl, rfl⟩

/-- What token writes. -/
def tokO (k n : Int) (s : List UInt8) : Option (List UInt8) := if (tkB k n s).2 = 0 then some (tkB k n s).1 else none
theorem tkB_len (k n : Int) (s : List UInt8) (hn0 : -9223372036854775808 ≤ n) (hn1 : n ≤ 9223372036854775807) : (tkB k n s).1.length ≤ 2 * s.length + 30 := by
  unfold tkB
  split
  · exact wrB_len k n s hn0 hn1
  · simp

set_option maxRecDepth 100000 in
set_option maxHeartbeats 2000000 in
theorem tokW_any (w0 : World) (r : Nat) (q : Option Nat) (t : List UInt8) (k n a b : Int) (s : List UInt8) (w : World) (ht : TabsP w0) (h : WrT w0 r q t w) (hn0 : -9223372036854775808 ≤ n) (hn1 : n ≤ 9223372036854775807) (hs : s.length ≤ 100000000) :
    Calls Tryz.prog 91 #[.pointer (some ⟨r, 0, none⟩), .agg #[.int .i64 k, .string (strB s), .int .i64 n, .int .i64 a, .int .i64 b]] w (PostO w0 r q t w (tokO k n s)) := by
  obtain ⟨w1, hw1⟩ : ∃ w1, w1 = w.alloc (.cells #[.int .i64 k, .string (strB s), .int .i64 n, .int .i64 a, .int .i64 b] 72) := ⟨_, rfl⟩
  have hb1 : Below w.heap.size w w1 := by rw [hw1]; exact (Below.refl _ w).alloc (Nat.le_refl _) _
  have p1 : w1.heap[w.heap.size]? = some (.cells #[.int .i64 k, .string (strB s), .int .i64 n, .int .i64 a, .int .i64 b] 72 (0, 0)) := by rw [hw1]; exact World.alloc_heap_new w _
  have h1 := h.below hb1
  have cx := lexText_any k n a b s w1 hn0 hn1 hs (ht.below h1.env (Nat.le_refl _))
  have hlen := tkB_len k n s hn0 hn1
  have c0 : w1.cell? ⟨w.heap.size, 0, none⟩ = some (.int .i64 k) := by simp only [World.cell?, p1]; rfl
  have c1 : w1.cell? ⟨w.heap.size, 1, none⟩ = some (.string (strB s)) := by simp only [World.cell?, p1]; rfl
  have c2 : w1.cell? ⟨w.heap.size, 2, none⟩ = some (.int .i64 n) := by simp only [World.cell?, p1]; rfl
  have c3 : w1.cell? ⟨w.heap.size, 3, none⟩ = some (.int .i64 a) := by simp only [World.cell?, p1]; rfl
  have c4 : w1.cell? ⟨w.heap.size, 4, none⟩ = some (.int .i64 b) := by simp only [World.cell?, p1]; rfl
  have hw1' := hw1.symm
  have HT1 : Hid (WrTo r q w q w1) := WrTo.below hb1
  have HW1 : Hid (WrT w0 r q t w1) := h1
  clear hw1 hb1 p1 h h1 ht
  obtain ⟨R, hR⟩ : ∃ R, R = tokO k n s := ⟨_, rfl⟩
  rw [← hR]
  unfold tokO at hR
  generalize tkB k n s = X at *
  have HR : Hid (R = if X.2 = 0 then some X.1 else none) := hR
  clear hR
  go_enter Tryz.func91, Tryz.ntmps91
  go_wp2_with fail
  refine cx.mono ?_
  clear cx c0 c1 c2 c3 c4
  rintro e w2 ⟨rfl, hb2⟩
  have HT2 : Hid (WrTo r q w q w2) := HT1.out.trans (WrTo.below hb2)
  have HW2 : Hid (WrT w0 r q t w2) := HW1.out.below hb2
  obtain ⟨u, er⟩ := X
  simp only at hlen ⊢
  have hR : R = if er = 0 then some u else none := HR.out
  clear HR
  clear hb2 HT1 HW1
  by_cases he : er = 0
  · subst he
    have ca := allow_any true w2
    have cp := put_any w0 r q t u w2 HW2.out (by omega)
    rw [if_pos rfl] at hR
    subst hR
    go_wp2_with fail
    refine ca.mono ?_
    rintro e w3 ⟨rfl, rfl⟩
    clear ca
    simp only [mayE]
    go_wp2_with fail
    refine cp.mono ?_
    clear cp
    rintro e w4 ⟨q', hto, rfl, hw4⟩
    have HP : Hid (PostO w0 r q t w (some u) (.returned (.tuple #[])) w4) := ⟨q', HT2.out.trans hto, rfl, hw4⟩
    clear hto hw4 HT2 HW2
    go_wp2
    exact bodyPost_ret (v := .tuple #[]) (by simp [results, Tryz.results91, go_sem]) rfl HP.out
  · have ca := allow_any false w2
    have h1 : ((er : Int) == 0) = false := by rw [beq_eq_false_iff_ne]; omega
    have h3 : decide ((er : Int) = 0) = false := by rw [decide_eq_false_iff_not]; omega
    have h5 : decide (er = 0) = false := by rw [decide_eq_false_iff_not]; exact he
    have h6 : (er == 0) = false := by rw [beq_eq_false_iff_ne]; exact he
    rw [if_neg he] at hR
    subst hR
    go_wp2_with fail
    refine ca.mono ?_
    rintro e w3 ⟨rfl, rfl⟩
    exact ⟨rfl, q, HT2.out, rfl⟩

set_option maxRecDepth 100000 in
theorem nameW_any (w0 : World) (r : Nat) (q : Option Nat) (t : List UInt8) (s : List UInt8) (w : World) (ht : TabsP w0) (h : WrT w0 r q t w) (hs : s.length ≤ 100000000) :
    Calls Tryz.prog 93 #[.pointer (some ⟨r, 0, none⟩), .string (strB s)] w (PostO w0 r q t w (tokO 1 0 s)) := by
  have c := tokW_any w0 r q t 1 0 0 0 s w ht h (by omega) (by omega) hs
  clear ht h
  generalize tokO 1 0 s = R at *
  go_enter Tryz.func93, Tryz.ntmps93
  go_wp2_with fail
  refine c.mono ?_
  clear c
  rintro e w1 ⟨q', hto, hp⟩
  cases R with
  | none => subst hp; exact ⟨rfl, q', hto, rfl⟩
  | some u =>
    obtain ⟨rfl, hw⟩ := hp
    have HP : Hid (PostO w0 r q t w (some u) (.returned (.tuple #[])) w1) := ⟨q', hto, rfl, hw⟩
    clear hto hw
    go_wp2
    exact bodyPost_ret (v := .tuple #[]) (by simp [results, Tryz.results93, go_sem]) rfl HP.out
end Go.Proofs.YtghhamgealkodaaGreatDoor
/- syntax: how tightly a sign binds. -/
namespace Go.Proofs.YtghhamgealkodaaGreatDoor
open Go.RowKit Go.Shelf

/-- The signs between two, and how tightly each binds. -/
def levelsL : List (List UInt8 × Nat) := [([124, 124], 1), ([38, 38], 2), ([61, 61], 3), ([33, 61], 3), ([60], 4), ([60, 61], 4), ([62], 4), ([62, 61], 4), ([43], 5), ([45], 5), ([42], 6), ([47], 6), ([37], 6)]
/-- How tightly a sign binds: 0, if it is none. -/
def levelOf (s : List UInt8) : Nat := ((levelsL.find? fun p => decide (p.1 = s)).map (·.2)).getD 0
def levelsC : List Value := levelsL.flatMap fun p => [.string (strB p.1), .int .i64 p.2]
def levelsV : Value := .agg levelsC.toArray

/-- The table of levels is laid. -/
def LevT (w : World) : Prop := w.rangeAt 1 0 levelsC

set_option maxRecDepth 100000 in
theorem levels_size : (Tryz.prog.info? 193).map (·.size) = some levelsC.length := by kernel_rfl

set_option maxRecDepth 100000 in
theorem idx_levels (w : World) (i : Nat) (h : i < 13) : (Instr.index 193 levelsV (.int .i64 (i : Int))).run Tryz.prog w = .ok (.agg #[.string (strB (levelsL[i]'h).1), .int .i64 (levelsL[i]'h).2]) w := by
  have hc : i = 0 ∨ i = 1 ∨ i = 2 ∨ i = 3 ∨ i = 4 ∨ i = 5 ∨ i = 6 ∨ i = 7 ∨ i = 8 ∨ i = 9 ∨ i = 10 ∨ i = 11 ∨ i = 12 := by omega
  rcases hc with rfl | rfl | rfl | rfl | rfl | rfl | rfl | rfl | rfl | rfl | rfl | rfl | rfl
  all_goals rfl

theorem level_in {s : List UInt8} {i : Nat} (h : i < levelsL.length) (he : (levelsL[i]'h).1 = s) : levelOf s = (levelsL[i]'h).2 := by
  subst he
  have key : ∀ j (hj : j < levelsL.length), levelOf (levelsL[j]'hj).1 = (levelsL[j]'hj).2 := by decide
  exact key i h
theorem level_out {s : List UInt8} (h : ∀ j (hj : j < levelsL.length), (levelsL[j]'hj).1 ≠ s) : levelOf s = 0 := by
  unfold levelOf
  have : levelsL.find? (fun p => decide (p.1 = s)) = none := by
    rw [List.find?_eq_none]
    intro p hp
    obtain ⟨j, hj, rfl⟩ := List.getElem_of_mem hp
    simpa using h j hj
  rw [this]; rfl

set_option maxHeartbeats 4000000 in
set_option maxRecDepth 100000 in
theorem levelS_any (s : List UInt8) (w : World) (ht : LevT w) :
    Calls Tryz.prog 122 #[.string (strB s)] w fun e w' => e = .returned (.int .i64 (levelOf s)) ∧ Below w.heap.size w w' := by
  have HT : Hid (LevT w) := ht
  clear ht
  go_enter Tryz.func122, Tryz.ntmps122
  go_wp2_with (refine wpList_load_mid rfl 193 _ rfl 1 0 rfl levelsC _ HT.out Tryz.underlying193 rfl levels_size ?_)
  have HI : Hid (∀ (wx : World) (i : Nat) (h : i < 13), (Instr.index 193 levelsV (.int .i64 (i : Int))).run Tryz.prog wx = .ok (.agg #[.string (strB (levelsL[i]'h).1), .int .i64 (levelsL[i]'h).2]) wx) := fun wx i h => idx_levels wx i h
  rw [show Value.agg levelsC.toArray = levelsV from rfl]
  generalize levelsV = A at *
  go_loopw [6] (fun x wr => ∃ i : Nat, i ≤ 13 ∧ x = .int .i64 i ∧ (∀ j (hj : j < 13), j < i → (levelsL[j]'hj).1 ≠ s) ∧ Below w.heap.size w wr) (fun x _ => 13 - (intOf x).toNat)
  case atStart => exact ⟨0, Nat.zero_le _, rfl, fun j _ h => by omega, Below.refl _ _⟩
  case round =>
    obtain ⟨i, hi, rfl, hall, hbw⟩ := hrel
    have HA : Hid (∀ j (hj : j < 13), j < i → (levelsL[j]'hj).1 ≠ s) := hall
    have HB : Hid (Below w.heap.size w wr) := hbw
    have hszw := hbw.size
    clear hall hbw
    by_cases hlt : i < 13
    · have hidx := fun wx => HI.out wx i hlt
      obtain ⟨a, ha⟩ : ∃ a, a = (levelsL[i]'hlt).1 := ⟨_, rfl⟩
      obtain ⟨b, hb⟩ : ∃ b, b = (levelsL[i]'hlt).2 := ⟨_, rfl⟩
      rw [← ha, ← hb] at hidx
      by_cases he : a = s
      · have HE : Hid (levelOf s = b) := show _ = _ by rw [hb]; exact level_in hlt (by rw [← ha, he])
        subst he
        clear ha hb
        go_wp2
        refine bodyPost_ret (v := .int .i64 b) (by simp [results, Tryz.results122, go_sem]) rfl ⟨by rw [HE.out], ?_⟩
        exact HB.out.alloc hszw _
      · have HE : Hid ((levelsL[i]'hlt).1 ≠ s) := show _ ≠ s by rw [← ha]; exact he
        have hbe : (a == s) = false := by rw [beq_eq_false_iff_ne]; exact he
        clear ha hb he
        go_wp2
        refine ⟨⟨i + 1, by omega, by go_num, fun j hj hji => ?_, HB.out.alloc hszw _⟩, by simp [intOf]; omega⟩
        by_cases h : j < i
        · exact HA.out j hj h
        · obtain rfl : j = i := by omega
          exact HE.out
    · obtain rfl : i = 13 := by omega
      have HE : Hid (levelOf s = 0) := level_out (fun j hj => HA.out j hj hj)
      go_wp2
      refine bodyPost_ret (v := .int .i64 0) (by simp [results, Tryz.results122, go_sem]) rfl ⟨by rw [HE.out]; rfl, ?_⟩
      exact HB.out
end Go.Proofs.YtghhamgealkodaaGreatDoor
