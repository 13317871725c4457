import Derived.Test.YtbdgniiafdjmiaaGreatDoorMH
import Derived.Test.YtbdgniiafdjmiaaGreatDoorHAdd
import Derived.Deep.RegionWith
import Derived.Lib.AppendStr
import Derived.Test.YtbdgniiafdjmiaaGreatDoorShelf
/- heap: Alloc. -/
namespace Go.Proofs.YtbdgniiafdjmiaaGreatDoor
open Go.RowKit Go.Shelf

/-- What Alloc answers, and what objects there are then. -/
def allocR (most : Nat) (os : List Ob) (o : Ob) : Vl × Int × List Ob :=
  if obB o os.length = false then (⟨0, 0, []⟩, 2, os) else if most < os.length + (allV os).length + (1 + o.2.length) then (⟨0, 0, []⟩, 12, os) else (⟨4, os.length, []⟩, 0, os ++ [o])

abbrev allocW (w : World) (tag : List UInt8) (vl : Value) : World := (w.alloc (.cells #[.int .i64 0, .int .i64 0, .string ⟨#[]⟩] 54)).alloc (.cells #[.string (strB tag), vl] 51)

theorem allocW_facts (w : World) (tag : List UInt8) (vl : Value) : (allocW w tag vl).heap.size = w.heap.size + 2 ∧ Below w.heap.size w (allocW w tag vl) ∧ (allocW w tag vl).heap[w.heap.size]? = some (.cells #[.int .i64 0, .int .i64 0, .string ⟨#[]⟩] 54 (0, 0)) ∧ (allocW w tag vl).heap[w.heap.size + 1]? = some (.cells #[.string (strB tag), vl] 51 (0, 0)) := by
  refine ⟨by simp, ((Below.refl _ w).alloc (Nat.le_refl _) _).alloc (by simp) _, ?_, ?_⟩
  · rw [Below.heap_alloc _ _ _ (by simp)]; exact World.alloc_heap_new _ _
  · have := World.alloc_heap_new (w.alloc (.cells #[.int .i64 0, .int .i64 0, .string ⟨#[]⟩] 54)) (.cells #[.string (strB tag), vl] 51)
    simpa using this

theorem set3_kept {S : Nat → Prop} {N : Nat} {a w : World} (h : KeptS S a w) (hN : a.heap.size ≤ N) (x y z : Value) : KeptS S a (((w.setCell ⟨N, 0, none⟩ x).setCell ⟨N, 1, none⟩ y).setCell ⟨N, 2, none⟩ z) :=
  ((h.set (p := ⟨N, 0, none⟩) x (fun e => by simp only at e; omega)).set (p := ⟨N, 1, none⟩) y (fun e => by simp only at e; omega)).set (p := ⟨N, 2, none⟩) z (fun e => by simp only at e; omega)
theorem set3_other {w : World} {N k : Nat} (hk : k ≠ N) (x y z : Value) : (((w.setCell ⟨N, 0, none⟩ x).setCell ⟨N, 1, none⟩ y).setCell ⟨N, 2, none⟩ z).heap[k]? = w.heap[k]? := by
  rw [Below.heap_setCell _ _ _ _ (by simpa using hk), Below.heap_setCell _ _ _ _ (by simpa using hk), Below.heap_setCell _ _ _ _ (by simpa using hk)]

end Go.Proofs.YtbdgniiafdjmiaaGreatDoor
/- heap: Get. -/
namespace Go.Proofs.YtbdgniiafdjmiaaGreatDoor
open Go.RowKit Go.Shelf

/-- Does a value refer to an object? -/
def refB (os : List Ob) (v : Vl) : Bool := decide (v.k = 4) && rightV v os.length
theorem refB_form {os : List Ob} {v : Vl} (h : refB os v = true) : ∃ i : Nat, i < os.length ∧ v = ⟨4, i, []⟩ := by
  unfold refB at h
  rw [Bool.and_eq_true, decide_eq_true_eq] at h
  obtain ⟨hk, hr⟩ := h
  obtain ⟨k, n, s⟩ := v
  simp only at hk
  subst hk
  simp [rightV] at hr
  obtain ⟨⟨h0, h1⟩, h2⟩ := hr
  refine ⟨n.toNat, by omega, ?_⟩
  rw [h2]
  congr 1
  omega
theorem refB_no {os : List Ob} {v : Vl} (h : refB os v = false) : v.k ≠ 4 ∨ rightV v os.length = false := by
  unfold refB at h
  rw [Bool.and_eq_false_iff, decide_eq_false_iff_not] at h
  exact h
theorem refB_at {os : List Ob} {i : Nat} (h : i < os.length) : refB os ⟨4, i, []⟩ = true := by simp [refB, rightV, h]

abbrev getW (w : World) (v : Vl) : World := (w.alloc (.cells #[.int .i64 v.k, .int .i64 v.n, .string (strB v.s)] 54)).alloc (.cells #[.int .i64 0, .int .i64 0, .string ⟨#[]⟩] 54)
theorem getW_facts (w : World) (v : Vl) : (getW w v).heap.size = w.heap.size + 2 ∧ Below w.heap.size w (getW w v) ∧ (getW w v).heap[w.heap.size]? = some (.cells #[.int .i64 v.k, .int .i64 v.n, .string (strB v.s)] 54 (0, 0)) ∧ (getW w v).heap[w.heap.size + 1]? = some (.cells #[.int .i64 0, .int .i64 0, .string ⟨#[]⟩] 54 (0, 0)) := by
  refine ⟨by simp, ((Below.refl _ w).alloc (Nat.le_refl _) _).alloc (by simp) _, ?_, ?_⟩
  · rw [Below.heap_alloc _ _ _ (by simp)]; exact World.alloc_heap_new _ _
  · have := World.alloc_heap_new (w.alloc (.cells #[.int .i64 v.k, .int .i64 v.n, .string (strB v.s)] 54)) (.cells #[.int .i64 0, .int .i64 0, .string ⟨#[]⟩] 54)
    simpa using this

/-- A cell among all. -/
theorem allV_at (os : List Ob) (j : Nat) (hj : j < os.length) (i : Nat) (hi : i < (os[j]).2.length) : ∃ h, (allV os)[fromO os j + i]'h = (os[j]).2[i] := by
  obtain ⟨h1, h2⟩ := allV_cut os j hj
  refine ⟨by omega, ?_⟩
  have e : (((allV os).drop (fromO os j)).take (os[j]).2.length)[i]? = (os[j]).2[i]? := by rw [h2]
  rw [List.getElem?_take_of_lt hi, List.getElem?_drop, List.getElem?_eq_getElem (by omega), List.getElem?_eq_getElem hi] at e
  exact Option.some.inj e

end Go.Proofs.YtbdgniiafdjmiaaGreatDoor
/- heap: Set. -/
namespace Go.Proofs.YtbdgniiafdjmiaaGreatDoor
open Go.RowKit Go.Shelf

abbrev setW (w : World) (v x : Vl) : World := (w.alloc (.cells #[.int .i64 v.k, .int .i64 v.n, .string (strB v.s)] 54)).alloc (.cells #[.int .i64 x.k, .int .i64 x.n, .string (strB x.s)] 54)
theorem setW_facts (w : World) (v x : Vl) : (setW w v x).heap.size = w.heap.size + 2 ∧ Below w.heap.size w (setW w v x) ∧ (setW w v x).heap[w.heap.size]? = some (.cells #[.int .i64 v.k, .int .i64 v.n, .string (strB v.s)] 54 (0, 0)) ∧ (setW w v x).heap[w.heap.size + 1]? = some (.cells #[.int .i64 x.k, .int .i64 x.n, .string (strB x.s)] 54 (0, 0)) := by
  refine ⟨by simp, ((Below.refl _ w).alloc (Nat.le_refl _) _).alloc (by simp) _, ?_, ?_⟩
  · rw [Below.heap_alloc _ _ _ (by simp)]; exact World.alloc_heap_new _ _
  · have := World.alloc_heap_new (w.alloc (.cells #[.int .i64 v.k, .int .i64 v.n, .string (strB v.s)] 54)) (.cells #[.int .i64 x.k, .int .i64 x.n, .string (strB x.s)] 54)
    simpa using this

end Go.Proofs.YtbdgniiafdjmiaaGreatDoor
/- heap: a cell is set. -/
namespace Go.Proofs.YtbdgniiafdjmiaaGreatDoor
open Go.RowKit Go.Shelf

/-- The objects with a cell that is another. -/
def setOs : List Ob → Nat → Nat → Vl → List Ob
  | [], _, _, _ => []
  | o :: os, 0, i, x => (o.1, o.2.set i x) :: os
  | o :: os, j + 1, i, x => o :: setOs os j i x

theorem setOs_len : ∀ (os : List Ob) (j i : Nat) (x : Vl), (setOs os j i x).length = os.length
  | [], _, _, _ => rfl
  | o :: os, 0, i, x => rfl
  | o :: os, j + 1, i, x => by rw [setOs, List.length_cons, List.length_cons, setOs_len]
theorem setOs_objC : ∀ (os : List Ob) (a j i : Nat) (x : Vl), objC a (setOs os j i x) = objC a os
  | [], _, _, _, _ => rfl
  | o :: os, a, 0, i, x => by simp [setOs, objC]
  | o :: os, a, j + 1, i, x => by rw [setOs, objC, objC, setOs_objC]
theorem setOs_allV : ∀ (os : List Ob) (j i : Nat) (x : Vl) (hj : j < os.length), i < (os[j]).2.length → allV (setOs os j i x) = (allV os).set (fromO os j + i) x
  | [], _, _, _, h, _ => by cases h
  | o :: os, 0, i, x, _, hi => by
    have e : fromO (o :: os) 0 = 0 := rfl
    simp only [List.getElem_cons_zero] at hi
    rw [setOs, allV_cons, allV_cons, e, Nat.zero_add, List.set_append_left _ _ hi]
  | o :: os, j + 1, i, x, hj, hi => by
    have e : fromO (o :: os) (j + 1) = o.2.length + fromO os j := by unfold fromO; rw [List.take_succ_cons, allV_cons, List.length_append]
    have ih := setOs_allV os j i x (by simpa using hj) (by simpa using hi)
    rw [setOs, allV_cons, allV_cons, e, ih, List.set_append_right _ _ (by omega)]
    congr 2
    omega
theorem setOs_mem : ∀ (os : List Ob) (j i : Nat) (x : Vl) (o : Ob), o ∈ setOs os j i x → o ∈ os ∨ ∃ o' ∈ os, o = (o'.1, o'.2.set i x)
  | [], _, _, _, _, h => by cases h
  | p :: os, 0, i, x, o, h => by
    rw [setOs] at h
    rcases List.mem_cons.1 h with h | h
    · exact .inr ⟨p, List.mem_cons_self, h⟩
    · exact .inl (List.mem_cons_of_mem _ h)
  | p :: os, j + 1, i, x, o, h => by
    rw [setOs] at h
    rcases List.mem_cons.1 h with h | h
    · subst h; exact .inl List.mem_cons_self
    · rcases setOs_mem os j i x o h with h | ⟨o', h1, h2⟩
      · exact .inl (List.mem_cons_of_mem _ h)
      · exact .inr ⟨o', List.mem_cons_of_mem _ h1, h2⟩
theorem setOs_at : ∀ (os : List Ob) (j i : Nat) (x : Vl) (q : Nat), (setOs os j i x)[q]? = if q = j then (os[q]?).map (fun o => (o.1, o.2.set i x)) else os[q]?
  | [], _, _, _, _ => by simp [setOs]
  | o :: os, 0, i, x, 0 => by simp [setOs]
  | o :: os, 0, i, x, q + 1 => by simp [setOs]
  | o :: os, j + 1, i, x, 0 => by simp [setOs]
  | o :: os, j + 1, i, x, q + 1 => by simp [setOs, setOs_at os j i x q]

theorem vlC_set : ∀ (l : List Vl) (i : Nat) (x : Vl), i < l.length → (((vlC l).set (i * 3) (.int .i64 x.k)).set (i * 3 + 1) (.int .i64 x.n)).set (i * 3 + 2) (.string (strB x.s)) = vlC (l.set i x)
  | [], _, _, h => by cases h
  | v :: l, 0, x, _ => by simp [vlC, vlL]
  | v :: l, i + 1, x, h => by
    have ih := vlC_set l i x (by simpa using h)
    have e : vlC (v :: l) = vlL v ++ vlC l := rfl
    have e' : vlC ((v :: l).set (i + 1) x) = vlL v ++ vlC (l.set i x) := rfl
    have key : ∀ (c : List Value) (q : Nat) (a : Value), (vlL v ++ c).set ((i + 1) * 3 + q) a = vlL v ++ c.set (i * 3 + q) a := fun c q a => by
      rw [List.set_append_right _ _ (by simp [vlL]; omega)]
      congr 2
      simp [vlL]
      omega
    have k0 := key (vlC l) 0 (.int .i64 x.k)
    simp only [Nat.add_zero] at k0
    rw [e, e', k0, key, key, ih]

theorem own_set3 {w : World} {e n g cp : Nat} {l : List Vl} (h : w.ownsRow 0 e 3 (.slice (some ⟨g, 0, none⟩) n cp) n (vlC l)) (i : Nat) (hi : i < l.length) (x : Vl) :
    (((w.setCell ⟨g, i * 3, none⟩ (.int .i64 x.k)).setCell ⟨g, i * 3 + 1, none⟩ (.int .i64 x.n)).setCell ⟨g, i * 3 + 2, none⟩ (.string (strB x.s))).ownsRow 0 e 3 (.slice (some ⟨g, 0, none⟩) n cp) n (vlC (l.set i x)) := by
  refine ⟨by rw [vlC_len, List.length_set, ← vlC_len]; exact h.1, ?_⟩
  rcases h.2 with ⟨h1, _⟩ | ⟨g', cap, cur, h1, h2, h3, h4, h5, h6, h7⟩
  · cases h1
  · simp only [Value.slice.injEq, Option.some.injEq, Addr.mk.injEq] at h1
    obtain ⟨⟨rfl, -, -⟩, -, rfl⟩ := h1
    refine .inr ⟨g, cp, _, rfl, h2, setCellH_block _ (setCellH_block _ (setCellH_block _ h3)), h4, h5, by simpa using h6, ?_⟩
    rw [← vlC_set l i x hi, ← h7]
    simp [List.take_set]

theorem HpIn.set {S : Nat → Prop} {w : World} {most : Nat} {os : List Ob} {h g n cp : Nat} {vo : Value} (H : HpIn S w most os h vo (.slice (some ⟨g, 0, none⟩) n cp)) (j i : Nat) (hj : j < os.length) (hi : i < (os[j]).2.length) (x : Vl) (hx : cellV x os.length = true) (hs : smallV x) :
    HpIn S (((w.setCell ⟨g, fromO os j * 3 + i * 3, none⟩ (.int .i64 x.k)).setCell ⟨g, fromO os j * 3 + i * 3 + 1, none⟩ (.int .i64 x.n)).setCell ⟨g, fromO os j * 3 + i * 3 + 2, none⟩ (.string (strB x.s))) most (setOs os j i x) h vo (.slice (some ⟨g, 0, none⟩) n cp) := by
  have hap := H.apart
  obtain ⟨hc1, -⟩ := allV_cut os j hj
  have hn : n = (allV os).length := by
    obtain ⟨b, c, hv, -, -⟩ := own_val H.cells
    simp only [Value.slice.injEq] at hv
    exact hv.2.1
  subst hn
  have hoth : ∀ k, k ≠ g → (((w.setCell ⟨g, fromO os j * 3 + i * 3, none⟩ (.int .i64 x.k)).setCell ⟨g, fromO os j * 3 + i * 3 + 1, none⟩ (.int .i64 x.n)).setCell ⟨g, fromO os j * 3 + i * 3 + 2, none⟩ (.string (strB x.s))).heap[k]? = w.heap[k]? := fun k hk => by
    rw [Below.heap_setCell _ _ _ _ (by simpa using hk), Below.heap_setCell _ _ _ _ (by simpa using hk), Below.heap_setCell _ _ _ _ (by simpa using hk)]
  refine ⟨?_, ?_, ?_, H.sh, H.so, H.sc, ?_, ?_, H.may⟩
  · rw [hoth h (fun e => hap.2.1 (by rw [e]; rfl))]; exact H.blk
  · rw [setOs_len, setOs_objC]
    exact own_blocks H.objs fun k hk _ => hoth k fun e => hap.2.2 k hk (by rw [e]; rfl)
  · rw [setOs_allV os j i x hj hi, List.length_set]
    have h9 := own_set3 H.cells (fromO os j + i) (by omega) x
    rw [Nat.add_mul] at h9
    exact h9
  · intro o ho
    rw [setOs_len]
    rcases setOs_mem os j i x o ho with ho | ⟨o', ho', rfl⟩
    · exact H.ok o ho
    · have hok := H.ok o' ho'
      refine ⟨?_, hok.2.1, fun v hv => ?_⟩
      · have h1 := hok.1
        unfold obB at h1 ⊢
        rw [Bool.and_eq_true, List.all_eq_true] at h1 ⊢
        refine ⟨fun v hv => ?_, h1.2⟩
        rcases List.mem_or_eq_of_mem_set hv with hv | rfl
        · exact h1.1 v hv
        · exact hx
      · rcases List.mem_or_eq_of_mem_set hv with hv | rfl
        · exact hok.2.2 v hv
        · exact hs
  · rw [setOs_len, setOs_allV os j i x hj hi, List.length_set]; exact H.use

end Go.Proofs.YtbdgniiafdjmiaaGreatDoor
/- heap: how values are shown, as mathematics; append of a text onto bytes. -/
namespace Go.Proofs.YtbdgniiafdjmiaaGreatDoor
open Go.RowKit Go.Shelf

set_option maxRecDepth 100000 in
/-- append of a text onto bytes that are owned. -/
theorem append_strB {ops : Array Oper} {rest : List Oper} {o : Oper} {a : Act} {w : World} {Q : Exit → Act → World → Prop} (hgd : o.guard = none) (s x : Operand)
    (ho : o.op = .call { callee := .builtin .append, args := #[s, x], argTypes := #[30, 9] })
    (B : Nat) (v : Value) (us : List UInt8) (hs : a.eval s = v) (hown : w.ownsRow B 5 1 v us.length (Lib.byteCells us)) (bs : List UInt8) (hx : a.eval x = .string (strB bs))
    (hb : us.length + bs.length ≤ 140737488355328) (hB : B ≤ w.heap.size)
    (h : ∀ v' w', w'.ownsRow B 5 1 v' (us ++ bs).length (Lib.byteCells (us ++ bs)) → w.grownBy w' v.ownBlock → wpList Tryz.prog ops Q rest (a.put o.dst v') w') : wpList Tryz.prog ops Q (o :: rest) a w := by
  obtain ⟨i0, hi, hz0, hz1, hz2⟩ := info_parts info_u8
  refine Lib.wpList_append_own_string _ hgd s x 30 9 ho B 5 i0 Tryz.underlying30 Tryz.underlying9 hi hz0 hz1 hz2 v us.length _ hs hown (strB bs) hx (by rw [strB_size]; unfold maxLen; omega) (by rw [strB_size]; omega) hB ?_
  intro v' w' ho' hg' _
  refine h v' w' ?_ hg'
  rw [List.length_append, Lib.byteCells_append]
  exact ho'

def trueB : List UInt8 := [116, 114, 117, 101]
def falseB : List UInt8 := [102, 97, 108, 115, 101]
def noneB : List UInt8 := [110, 111, 110, 101]
def dotsB : List UInt8 := [46, 46, 46]
/-- A value's text; r: an object's. -/
def leafT (v : Vl) (r : List UInt8) : List UInt8 :=
  if v.k = 1 then Lib.itoa v.n else if v.k = 2 then (if v.n = 1 then trueB else falseB) else if v.k = 3 then (tkB 3 0 v.s).1 else if v.k = 4 then r else noneB
/-- Values, with a comma and a blank between. -/
def joinT (f : Vl → List UInt8) : List Vl → List UInt8
  | [] => []
  | v :: l => f v ++ l.flatMap fun u => [44, 32] ++ f u
theorem joinT_snoc (f : Vl → List UInt8) (l : List Vl) (v : Vl) : joinT f (l ++ [v]) = joinT f l ++ ((if l = [] then [] else [44, 32]) ++ f v) := by
  cases l with
  | nil => simp [joinT]
  | cons x l => simp [joinT, List.flatMap_append]
/-- An object's text. -/
def obT (f : Vl → List UInt8) (o : Ob) : List UInt8 :=
  (if o.1 = [] then [91] else o.1 ++ [40]) ++ joinT f (o.2.take 8) ++ (if 8 < o.2.length then [44, 32, 46, 46, 46] else []) ++ (if o.1 = [] then [93] else [41])
/-- A value's text, so many objects within one another. -/
def txtV (os : List Ob) : Nat → Vl → List UInt8
  | 0, v => leafT v dotsB
  | d + 1, v => leafT v (obT (txtV os d) ((os[v.n.toNat]?).getD ([], [])))
/-- An object's text, as deep. -/
def objT (os : List Ob) (d : Nat) (o : Ob) : List UInt8 := match d with
  | 0 => dotsB
  | d + 1 => obT (txtV os d) o
theorem txtV_leaf (os : List Ob) (d : Nat) (v : Vl) : txtV os d v = leafT v (objT os d ((os[v.n.toNat]?).getD ([], []))) := by cases d <;> rfl
/-- What is shown. -/
def showB (os : List Ob) (v : Vl) : List UInt8 := if rightV v os.length = true then (if 200 < (txtV os 2 v).length then (txtV os 2 v).take 197 ++ dotsB else txtV os 2 v) else []

/-- No text is longer. -/
def bndT : Nat → Nat
  | 0 => 3000000
  | d + 1 => 10 * bndT d + 3000000
theorem bndT_ge (d : Nat) : 3000000 ≤ bndT d := by cases d <;> simp [bndT]

theorem leafT_len {v : Vl} {r : List UInt8} {N : Nat} (hv : smallV v) (hr : r.length ≤ N) (hN : 3000000 ≤ N) : (leafT v r).length ≤ N := by
  have hs := hv.2
  unfold leafT
  split
  · have := wrB_len 2 v.n [] hv.1.1 hv.1.2
    rw [show wrB 2 v.n [] = Lib.itoa v.n from rfl] at this
    simp at this
    omega
  · split
    · split <;> simp [trueB, falseB] <;> omega
    · split
      · unfold tkB
        split
        · have := wrB_len 3 0 v.s (by omega) (by omega)
          simp only
          omega
        · simp
      · split
        · exact hr
        · simp [noneB]; omega

theorem joinT_len {f : Vl → List UInt8} {N : Nat} : ∀ (l : List Vl), (∀ v ∈ l, (f v).length ≤ N) → (joinT f l).length ≤ l.length * (N + 2)
  | [], _ => by simp [joinT]
  | v :: l, h => by
    have h0 := h v List.mem_cons_self
    have : ∀ (l : List Vl), (∀ u ∈ l, (f u).length ≤ N) → (l.flatMap fun u => [44, 32] ++ f u).length ≤ l.length * (N + 2) := by
      intro l
      induction l with
      | nil => simp
      | cons x l ih =>
        intro hl
        have h1 := hl x List.mem_cons_self
        have h2 := ih fun u hu => hl u (List.mem_cons_of_mem _ hu)
        rw [List.flatMap_cons, List.length_append, List.length_cons, Nat.add_mul]
        simp only [List.length_append, List.length_cons, List.length_nil]
        omega
    have h1 := this l fun u hu => h u (List.mem_cons_of_mem _ hu)
    simp only [joinT, List.length_append, List.length_cons, Nat.add_mul]
    omega

theorem obT_len {f : Vl → List UInt8} {N : Nat} {o : Ob} (ho : o.1.length ≤ 1048576) (h : ∀ v ∈ o.2, (f v).length ≤ N) : (obT f o).length ≤ 10 * N + 3000000 := by
  have h1 := joinT_len (f := f) (N := N) (o.2.take 8) fun v hv => h v (List.mem_of_mem_take hv)
  have h2 : (o.2.take 8).length ≤ 8 := by rw [List.length_take]; omega
  have h3 : (o.2.take 8).length * (N + 2) ≤ 8 * (N + 2) := Nat.mul_le_mul_right _ h2
  unfold obT
  simp only [List.length_append]
  have e1 : (if o.1 = [] then [(91 : UInt8)] else o.1 ++ [40]).length ≤ 1048577 := by split <;> simp <;> omega
  have e2 : (if 8 < o.2.length then [(44 : UInt8), 32, 46, 46, 46] else []).length ≤ 5 := by split <;> simp
  have e3 : (if o.1 = [] then [(93 : UInt8)] else [41]).length ≤ 1 := by split <;> simp
  omega

theorem txtV_len {os : List Ob} (hos : ∀ o ∈ os, smallO o) : ∀ (d : Nat) (v : Vl), smallV v → (txtV os d v).length ≤ bndT d
  | 0, v, hv => leafT_len hv (by simp [dotsB, bndT]) (by simp [bndT])
  | d + 1, v, hv => by
    refine leafT_len hv ?_ (bndT_ge _)
    cases ho : os[v.n.toNat]? with
    | none => simp [obT, joinT, bndT]
    | some o =>
      have hm := hos o (List.mem_of_getElem? ho)
      exact obT_len hm.1 (fun u hu => txtV_len hos d u (hm.2 u hu))
theorem objT_len {os : List Ob} (hos : ∀ o ∈ os, smallO o) (d : Nat) (o : Ob) (ho : smallO o) : (objT os d o).length ≤ bndT d := by
  cases d with
  | zero => simp [objT, dotsB, bndT]
  | succ d => exact obT_len ho.1 fun u hu => txtV_len hos d u (ho.2 u hu)
end Go.Proofs.YtbdgniiafdjmiaaGreatDoor
/- heap: values are written. -/
namespace Go.Proofs.YtbdgniiafdjmiaaGreatDoor
open Go.RowKit Go.Shelf

/-- A heap below B, where the tables are, too: what is written lies from B on. -/
structure ShIn (B : Nat) (w : World) (most : Nat) (os : List Ob) (h : Nat) (vo vc : Value) : Prop where
  hp : HpIn (fun k => k < B) w most os h vo vc
  le : B ≤ w.heap.size
  tabs : ∀ W, Below B w W → TabsP W
theorem ShIn.on {B : Nat} {w w' : World} {most : Nat} {os : List Ob} {h : Nat} {vo vc : Value} (H : ShIn B w most os h vo vc) (hb : Below B w w') : ShIn B w' most os h vo vc :=
  ⟨H.hp.kept fun k hk _ => hb.block k hk, Nat.le_trans H.le hb.size, fun W hW => H.tabs W (hb.trans hW)⟩

def boolT (b : Bool) : List UInt8 := if b then trueB else falseB
/-- The bytes bs are owned. -/
def OwnB (B : Nat) (w : World) (v : Value) (bs : List UInt8) : Prop := w.ownsRow B 5 1 v bs.length (Lib.byteCells bs)

/-- What stands ahead of a value: what was written, and a comma. -/
def aheadT (us : List UInt8) (f : Vl → List UInt8) (l : List Vl) (i : Nat) : List UInt8 := us ++ joinT f (l.take i) ++ if i = 0 then [] else [44, 32]
theorem aheadT_next (us : List UInt8) (f : Vl → List UInt8) (l : List Vl) (i : Nat) (h : i < l.length) : us ++ joinT f (l.take (i + 1)) = aheadT us f l i ++ f l[i] := by
  unfold aheadT
  rw [List.take_succ_eq_append_getElem h, joinT_snoc]
  by_cases h0 : i = 0
  · subst h0; simp [joinT]
  · have hne : l.take i ≠ [] := fun e => by
      have := congrArg List.length e
      rw [List.length_take, List.length_nil] at this
      omega
    rw [if_neg h0, if_neg hne]
    simp
end Go.Proofs.YtbdgniiafdjmiaaGreatDoor
/- heap: values are written, one behind the other. -/
namespace Go.Proofs.YtbdgniiafdjmiaaGreatDoor
open Go.RowKit Go.Shelf

theorem OwnB.lt {B : Nat} {w : World} {v : Value} {bs : List UInt8} (h : OwnB B w v bs) : ∀ k, v.ownBlock = some k → B ≤ k := fun k hk => (World.ownsRow.lt h k hk).1
theorem OwnB.own {B : Nat} {w : World} {v : Value} {bs : List UInt8} (h : OwnB B w v bs) : w.ownsRow B 5 1 v bs.length (Lib.byteCells bs) := h
theorem OwnB.alloc {B : Nat} {w : World} {v : Value} {bs : List UInt8} (h : OwnB B w v bs) (o : Obj) : OwnB B (w.alloc o) v bs := World.ownsRow.alloc h o
theorem OwnB.kept {B n : Nat} {w w' : World} {v : Value} {bs : List UInt8} (h : OwnB B w v bs) (hb : Below n w w') (hn : w.heap.size ≤ n) : OwnB B w' v bs := own_blocks h fun k _ hk => hb.block k (Nat.lt_of_lt_of_le hk hn)

end Go.Proofs.YtbdgniiafdjmiaaGreatDoor
/- heap: an object is written. -/
namespace Go.Proofs.YtbdgniiafdjmiaaGreatDoor
open Go.RowKit Go.Shelf

theorem vlC_drop : ∀ (l : List Vl) (a : Nat), vlC (l.drop a) = (vlC l).drop (a * 3)
  | [], a => by simp [vlC]
  | v :: l, 0 => by simp
  | v :: l, a + 1 => by
    have e : vlC (v :: l) = vlL v ++ vlC l := rfl
    rw [List.drop_succ_cons, vlC_drop l a, e, show (a + 1) * 3 = 3 + a * 3 by omega, ← List.drop_drop]
    rfl
theorem vlC_take : ∀ (l : List Vl) (a : Nat), vlC (l.take a) = (vlC l).take (a * 3)
  | [], a => by simp [vlC]
  | v :: l, 0 => by simp [vlC]
  | v :: l, a + 1 => by
    have e : vlC (v :: l) = vlL v ++ vlC l := rfl
    have e' : vlC ((v :: l).take (a + 1)) = vlL v ++ vlC (l.take a) := rfl
    rw [e', e, vlC_take l a, List.take_append, show (a + 1) * 3 - (vlL v).length = a * 3 by simp [vlL]; omega, List.take_of_length_le (l := vlL v) (by simp [vlL]; omega)]

/-- The first m cells of an object, where they stand. -/
theorem cells_vals {S : Nat → Prop} {w : World} {most : Nat} {os : List Ob} {h : Nat} {vo vc : Value} (H : HpIn S w most os h vo vc) (j : Nat) (hj : j < os.length) {base : Option Addr} (hb : 1 ≤ (os[j]).2.length → ∃ g n cp, vc = .slice (some ⟨g, 0, none⟩) n cp ∧ base = some ⟨g, fromO os j * 3, none⟩) (m : Nat) (hm : m ≤ (os[j]).2.length) (hl : (os[j]).2.length ≤ maxLen) :
    valsIn S w (.slice base m (os[j]).2.length) ((os[j]).2.take m) := by
  obtain ⟨h1, h2⟩ := allV_cut os j hj
  have hlen : ((os[j]).2.take m).length = m := by rw [List.length_take]; omega
  refine ⟨base, _, by rw [hlen], by rw [hlen]; exact hm, hl, ?_⟩
  rcases Nat.eq_zero_or_pos m with h0 | h0
  · left; subst h0; rfl
  · obtain ⟨g, n, cp, hv, rfl⟩ := hb (by omega)
    have hlt := (H.cells.lt g (by rw [hv]; rfl)).2
    refine .inr ⟨g, fromO os j * 3, rfl, H.sc g (by rw [hv]; rfl), hlt, fun q u hq => ?_⟩
    have hc := H.cells.cells (g := g) (by rw [hv]; rfl) (fromO os j * 3 + q) u (by
      rw [← h2, List.take_take, vlC_take, vlC_drop, List.getElem?_take] at hq
      split at hq
      · rw [List.getElem?_drop] at hq; exact hq
      · cases hq)
    have e9 : (⟨g, 0, none⟩ : Addr).add (fromO os j * 3 + q) = ⟨g, fromO os j * 3 + q, none⟩ := by
      unfold Addr.add
      split
      · rename_i h0; congr 1; omega
      · congr 1; simp
    rwa [e9] at hc

end Go.Proofs.YtbdgniiafdjmiaaGreatDoor
/- heap: Show. -/
namespace Go.Proofs.YtbdgniiafdjmiaaGreatDoor
open Go.RowKit Go.Shelf

theorem valsIn_one (w : World) (v : Vl) (B : Nat) (hB : w.heap.size < B) : valsIn (fun k => k < B) (w.alloc (.cells #[.int .i64 v.k, .int .i64 v.n, .string (strB v.s)] 54)) (.slice (some ⟨w.heap.size, 0, none⟩) 1 1) [v] := by
  refine ⟨_, 1, rfl, by simp, by unfold maxLen; omega, .inr ⟨w.heap.size, 0, rfl, hB, by simp, fun j u hj => ?_⟩⟩
  have h9 := cells_new w [.int .i64 v.k, .int .i64 v.n, .string (strB v.s)] 54 j u (by rw [vlC_one] at hj; exact hj)
  by_cases h0 : j = 0
  · subst h0; simpa [Addr.add] using h9
  · simpa [Addr.add, h0] using h9

theorem own_prefix {B n cap : Nat} {w : World} {b : Option Addr} {bs : List UInt8} (h : OwnB B w (.slice b n cap) bs) (m : Nat) (hm : m ≤ bs.length) : OwnB B w (.slice b m cap) (bs.take m) := by
  have hlen : (bs.take m).length = m := by rw [List.length_take]; omega
  refine ⟨by rw [Lib.byteCells_length, Nat.mul_one], ?_⟩
  rw [hlen]
  rcases h.2 with ⟨h1, h2⟩ | ⟨g, cap', cur, h1, h2, h3, h4, h5, h6, h7⟩
  · simp only [Value.slice.injEq] at h1
    obtain ⟨rfl, rfl, rfl⟩ := h1
    left
    have : m = 0 := by omega
    subst this
    exact ⟨rfl, rfl⟩
  · simp only [Value.slice.injEq] at h1
    obtain ⟨rfl, rfl, rfl⟩ := h1
    refine .inr ⟨g, cap, cur, rfl, h2, h3, by omega, h5, h6, ?_⟩
    have e : cur.toList.take (m * 1) = (cur.toList.take (bs.length * 1)).take (m * 1) := by rw [List.take_take, Nat.min_eq_left (by omega)]
    rw [e, h7]
    unfold Lib.byteCells
    rw [List.map_take, Nat.mul_one]

end Go.Proofs.YtbdgniiafdjmiaaGreatDoor
