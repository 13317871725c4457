/- heap: how values are shown, as mathematics; append of a text onto bytes. -/
import Derived.Test.YtchpmnmngeebjaaGreatDoorHSet2
import Derived.Lib.AppendStr
namespace Go.Proofs.YtchpmnmngeebjaaGreatDoor
open Go.RowKit Go.Shelf

set_option maxRecDepth 100000 in
/-- append of a text onto bytes that are owned. -/
theorem append_strB {ops : Array Oper} {rest : List Oper} {o : Oper} {a : Act} {w : World} {Q : Exit → Act → World → Prop} (hgd : o.guard = none) (s x : Operand)
    (ho : o.op = .call { callee := .builtin .append, args := #[s, x], argTypes := #[73, 9] })
    (B : Nat) (v : Value) (us : List UInt8) (hs : a.eval s = v) (hown : w.ownsRow B 5 1 v us.length (Lib.byteCells us)) (bs : List UInt8) (hx : a.eval x = .string (strB bs))
    (hb : us.length + bs.length ≤ 140737488355328) (hB : B ≤ w.heap.size)
    (h : ∀ v' w', w'.ownsRow B 5 1 v' (us ++ bs).length (Lib.byteCells (us ++ bs)) → w.grownBy w' v.ownBlock → wpList Tryz.prog ops Q rest (a.put o.dst v') w') : wpList Tryz.prog ops Q (o :: rest) a w := by
  obtain ⟨i0, hi, hz0, hz1, hz2⟩ := info_parts info_u8
  refine Lib.wpList_append_own_string _ hgd s x 73 9 ho B 5 i0 Tryz.underlying73 Tryz.underlying9 hi hz0 hz1 hz2 v us.length _ hs hown (strB bs) hx (by rw [strB_size]; unfold maxLen; omega) (by rw [strB_size]; omega) hB ?_
  intro v' w' ho' hg' _
  refine h v' w' ?_ hg'
  rw [List.length_append, Lib.byteCells_append]
  exact ho'

def trueB : List UInt8 := [116, 114, 117, 101]
def falseB : List UInt8 := [102, 97, 108, 115, 101]
def noneB : List UInt8 := [110, 111, 110, 101]
def dotsB : List UInt8 := [46, 46, 46]
/-- A value's text; r: an object's. -/
def leafT (v : Vl) (r : List UInt8) : List UInt8 :=
  if v.k = 1 then Lib.itoa v.n else if v.k = 2 then (if v.n = 1 then trueB else falseB) else if v.k = 3 then (tkB 3 0 v.s).1 else if v.k = 4 then r else noneB
/-- Values, with a comma and a blank between. -/
def joinT (f : Vl → List UInt8) : List Vl → List UInt8
  | [] => []
  | v :: l => f v ++ l.flatMap fun u => [44, 32] ++ f u
theorem joinT_snoc (f : Vl → List UInt8) (l : List Vl) (v : Vl) : joinT f (l ++ [v]) = joinT f l ++ ((if l = [] then [] else [44, 32]) ++ f v) := by
  cases l with
  | nil => simp [joinT]
  | cons x l => simp [joinT, List.flatMap_append]
/-- An object's text. -/
def obT (f : Vl → List UInt8) (o : Ob) : List UInt8 :=
  (if o.1 = [] then [91] else o.1 ++ [40]) ++ joinT f (o.2.take 8) ++ (if 8 < o.2.length then [44, 32, 46, 46, 46] else []) ++ (if o.1 = [] then [93] else [41])
/-- A value's text, so many objects within one another. -/
def txtV (os : List Ob) : Nat → Vl → List UInt8
  | 0, v => leafT v dotsB
  | d + 1, v => leafT v (obT (txtV os d) ((os[v.n.toNat]?).getD ([], [])))
/-- An object's text, as deep. -/
def objT (os : List Ob) (d : Nat) (o : Ob) : List UInt8 := match d with
  | 0 => dotsB
  | d + 1 => obT (txtV os d) o
theorem txtV_leaf (os : List Ob) (d : Nat) (v : Vl) : txtV os d v = leafT v (objT os d ((os[v.n.toNat]?).getD ([], []))) := by cases d <;> rfl
/-- What is shown. -/
def showB (os : List Ob) (v : Vl) : List UInt8 := if rightV v os.length = true then (if 200 < (txtV os 2 v).length then (txtV os 2 v).take 197 ++ dotsB else txtV os 2 v) else []

/-- No text is longer. -/
def bndT : Nat → Nat
  | 0 => 3000000
  | d + 1 => 10 * bndT d + 3000000
theorem bndT_ge (d : Nat) : 3000000 ≤ bndT d := by cases d <;> simp [bndT]

theorem leafT_len {v : Vl} {r : List UInt8} {N : Nat} (hv : smallV v) (hr : r.length ≤ N) (hN : 3000000 ≤ N) : (leafT v r).length ≤ N := by
  have hs := hv.2
  unfold leafT
  split
  · have := wrB_len 2 v.n [] hv.1.1 hv.1.2
    rw [show wrB 2 v.n [] = Lib.itoa v.n from rfl] at this
    simp at this
    omega
  · split
    · split <;> simp [trueB, falseB] <;> omega
    · split
      · unfold tkB
        split
        · have := wrB_len 3 0 v.s (by omega) (by omega)
          simp only
          omega
        · simp
      · split
        · exact hr
        · simp [noneB]; omega

theorem joinT_len {f : Vl → List UInt8} {N : Nat} : ∀ (l : List Vl), (∀ v ∈ l, (f v).length ≤ N) → (joinT f l).length ≤ l.length * (N + 2)
  | [], _ => by simp [joinT]
  | v :: l, h => by
    have h0 := h v List.mem_cons_self
    have : ∀ (l : List Vl), (∀ u ∈ l, (f u).length ≤ N) → (l.flatMap fun u => [44, 32] ++ f u).length ≤ l.length * (N + 2) := by
      intro l
      induction l with
      | nil => simp
      | cons x l ih =>
        intro hl
        have h1 := hl x List.mem_cons_self
        have h2 := ih fun u hu => hl u (List.mem_cons_of_mem _ hu)
        rw [List.flatMap_cons, List.length_append, List.length_cons, Nat.add_mul]
        simp only [List.length_append, List.length_cons, List.length_nil]
        omega
    have h1 := this l fun u hu => h u (List.mem_cons_of_mem _ hu)
    simp only [joinT, List.length_append, List.length_cons, Nat.add_mul]
    omega

theorem obT_len {f : Vl → List UInt8} {N : Nat} {o : Ob} (ho : o.1.length ≤ 1048576) (h : ∀ v ∈ o.2, (f v).length ≤ N) : (obT f o).length ≤ 10 * N + 3000000 := by
  have h1 := joinT_len (f := f) (N := N) (o.2.take 8) fun v hv => h v (List.mem_of_mem_take hv)
  have h2 : (o.2.take 8).length ≤ 8 := by rw [List.length_take]; omega
  have h3 : (o.2.take 8).length * (N + 2) ≤ 8 * (N + 2) := Nat.mul_le_mul_right _ h2
  unfold obT
  simp only [List.length_append]
  have e1 : (if o.1 = [] then [(91 : UInt8)] else o.1 ++ [40]).length ≤ 1048577 := by split <;> simp <;> omega
  have e2 : (if 8 < o.2.length then [(44 : UInt8), 32, 46, 46, 46] else []).length ≤ 5 := by split <;> simp
  have e3 : (if o.1 = [] then [(93 : UInt8)] else [41]).length ≤ 1 := by split <;> simp
  omega

theorem txtV_len {os : List Ob} (hos : ∀ o ∈ os, smallO o) : ∀ (d : Nat) (v : Vl), smallV v → (txtV os d v).length ≤ bndT d
  | 0, v, hv => leafT_len hv (by simp [dotsB, bndT]) (by simp [bndT])
  | d + 1, v, hv => by
    refine leafT_len hv ?_ (bndT_ge _)
    cases ho : os[v.n.toNat]? with
    | none => simp [obT, joinT, bndT]
    | some o =>
      have hm := hos o (List.mem_of_getElem? ho)
      exact obT_len hm.1 (fun u hu => txtV_len hos d u (hm.2 u hu))
theorem objT_len {os : List Ob} (hos : ∀ o ∈ os, smallO o) (d : Nat) (o : Ob) (ho : smallO o) : (objT os d o).length ≤ bndT d := by
  cases d with
  | zero => simp [objT, dotsB, bndT]
  | succ d => exact obT_len ho.1 fun u hu => txtV_len hos d u (ho.2 u hu)
end Go.Proofs.YtchpmnmngeebjaaGreatDoor
