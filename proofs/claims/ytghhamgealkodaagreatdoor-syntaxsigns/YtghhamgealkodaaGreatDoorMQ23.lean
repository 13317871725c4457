import Derived.Test.YtghhamgealkodaaGreatDoorMQ22
import Derived.Test.YtghhamgealkodaaGreatDoorMQ4
import Derived.Test.YtghhamgealkodaaGreatDoorMQ10
import Derived.BigQuiet
import Derived.Test.YtghhamgealkodaaGreatDoorMQ16
/- syntax: what a given text is read as, and what is written of it, by the kernel. -/
namespace Go.Proofs.YtghhamgealkodaaGreatDoor
open Go.RowKit Go.Shelf

/-- What a text is read as: the expression, the byte, the error. -/
def exprC (f : Nat) (l : List UInt8) : Ex × Nat × Nat :=
  if (scanC l).2.2 ≠ 0 then (noEx, (scanC l).2.1, (scanC l).2.2) else
  match pBetween f 1 (scanC l).1 with
  | none => (noEx, 0, 99)
  | some res => match wholeR res with
    | .error a => (noEx, a, 6)
    | .ok y => if 24 < depthE y then (noEx, 0, 7) else (y, 0, 0)
theorem isExpr_C {l : List UInt8} {x : Ex} {a e : Nat} (f : Nat) (hl : l.length ≤ 4096) (h : IsExpr l x a e) (hd : (exprC f l).2.2 ≠ 99) : exprC f l = (x, a, e) := by
  unfold IsExpr at h
  rw [scanB_C hl] at h
  unfold exprC at hd ⊢
  by_cases hc : (scanC l).2.2 ≠ 0
  · rw [if_pos hc] at h ⊢
    obtain ⟨rfl, rfl, rfl⟩ := h
    rfl
  · rw [if_neg hc] at h hd ⊢
    obtain ⟨f', res, h1, h2⟩ := h
    cases hp : pBetween f 1 (scanC l).1 with
    | none => rw [hp] at hd; exact absurd rfl hd
    | some r2 =>
      obtain rfl := pBetween_same hp h1
      cases hw : wholeR r2 with
      | error a => rw [hw] at h2; obtain ⟨rfl, rfl, rfl⟩ := h2; simp only [hw]
      | ok y =>
        rw [hw] at h2
        simp only [hw] at h2 ⊢
        by_cases hdp : 24 < depthE y
        · rw [if_pos hdp] at h2 ⊢; obtain ⟨rfl, rfl, rfl⟩ := h2; rfl
        · rw [if_neg hdp] at h2 ⊢; obtain ⟨rfl, rfl, rfl⟩ := h2; rfl

theorem pProg_mono : ∀ (f : Nat) (rs : List Rc) (fs : List Fc) (ts : List Tk) (r : PR Pg), pProg f rs fs ts = some r → pProg (f + 1) rs fs ts = some r
  | 0, _, _, _, _, h => by cases h
  | f + 1, rs, fs, ts, r, h => by
    rw [pProg] at h ⊢
    split at h
    · rename_i h0; rw [if_pos h0]; exact h
    · rename_i h0
      rw [if_neg h0]
      split at h
      · rename_i h1
        rw [if_pos h1]
        exact thenP_mono h (fun _ => pRecord_mono) fun x us r hr => pProg_mono f _ _ _ _ hr
      · rename_i h1
        rw [if_neg h1]
        split at h
        · rename_i h2
          rw [if_pos h2]
          exact thenP_mono h (fun _ => pFunc_mono) fun x us r hr => pProg_mono f _ _ _ _ hr
        · rename_i h2
          rw [if_neg h2]; exact h
theorem pProg_up {f k : Nat} {rs : List Rc} {fs : List Fc} {ts : List Tk} {r : PR Pg} (h : pProg f rs fs ts = some r) : pProg (f + k) rs fs ts = some r := by
  induction k with
  | zero => exact h
  | succ k ih => exact pProg_mono _ _ _ _ _ ih
theorem pProg_same {f f' : Nat} {rs : List Rc} {fs : List Fc} {ts : List Tk} {r r' : PR Pg} (h : pProg f rs fs ts = some r) (h' : pProg f' rs fs ts = some r') : r = r' := by
  have a := pProg_up (k := f') h
  have b := pProg_up (k := f) h'
  rw [Nat.add_comm] at b
  exact Option.some.inj (a.symm.trans b)
def progC (f : Nat) (l : List UInt8) : Pg × Nat × Nat :=
  if (scanC l).2.2 ≠ 0 then (noPg, (scanC l).2.1, (scanC l).2.2) else
  match pProg f [] [] (scanC l).1 with
  | none => (noPg, 0, 99)
  | some res => match wholeG res with
    | .error a => (noPg, a, 6)
    | .ok y => if 24 < depthFs y.funs then (noPg, 0, 7) else (y, 0, 0)
theorem isProg_C {l : List UInt8} {x : Pg} {a e : Nat} (f : Nat) (hl : l.length ≤ 4096) (h : IsProg l x a e) (hd : (progC f l).2.2 ≠ 99) : progC f l = (x, a, e) := by
  unfold IsProg at h
  rw [scanB_C hl] at h
  unfold progC at hd ⊢
  by_cases hc : (scanC l).2.2 ≠ 0
  · rw [if_pos hc] at h ⊢
    obtain ⟨rfl, rfl, rfl⟩ := h
    rfl
  · rw [if_neg hc] at h hd ⊢
    obtain ⟨f', res, h1, h2⟩ := h
    cases hp : pProg f [] [] (scanC l).1 with
    | none => rw [hp] at hd; exact absurd rfl hd
    | some r2 =>
      obtain rfl := pProg_same hp h1
      cases hw : wholeG r2 with
      | error a => rw [hw] at h2; obtain ⟨rfl, rfl, rfl⟩ := h2; simp only [hw]
      | ok y =>
        rw [hw] at h2
        simp only [hw] at h2 ⊢
        by_cases hdp : 24 < depthFs y.funs
        · rw [if_pos hdp] at h2 ⊢; obtain ⟨rfl, rfl, rfl⟩ := h2; rfl
        · rw [if_neg hdp] at h2 ⊢; obtain ⟨rfl, rfl, rfl⟩ := h2; rfl

/-- decDigits, by a number of steps. -/
def decF : Nat → Nat → List UInt8
  | 0, _ => []
  | f + 1, u => if u < 10 then [UInt8.ofNat (48 + u)] else decF f (u / 10) ++ [UInt8.ofNat (48 + u % 10)]
theorem decF_eq : ∀ (f u : Nat), u < f → Lib.decDigits u = decF f u
  | 0, u, h => by omega
  | f + 1, u, h => by
    rw [Lib.decDigits, decF]
    by_cases h9 : u < 10
    · rw [dif_pos h9, if_pos h9]
    · rw [dif_neg h9, if_neg h9, decF_eq f _ (by omega)]
def wrC (k n : Int) (s : List UInt8) : List UInt8 := if k = 2 then (if n < 0 then 45 :: decF (n.natAbs + 1) n.natAbs else decF (n.toNat + 1) n.toNat) else if k = 3 then quoteB s else s
theorem wrC_eq (k n : Int) (s : List UInt8) : wrB k n s = wrC k n s := by
  unfold wrB wrC Lib.itoa
  rw [decF_eq (n.natAbs + 1) _ (by omega), decF_eq (n.toNat + 1) _ (by omega)]
def tokC (k n : Int) (s : List UInt8) : Option (List UInt8) :=
  if (tokT (wrC k n s)).e = 0 ∧ ((tokT (wrC k n s)).k : Int) = k ∧ (tokT (wrC k n s)).s = s ∧ ((tokT (wrC k n s)).n : Int) = n then some (wrC k n s) else none
theorem tokC_eq (k n : Int) (s : List UInt8) : tokO k n s = tokC k n s := by
  unfold tokO tkB tokC
  by_cases h : backB k n s
  · have h2 := h
    unfold backB at h2
    rw [wrC_eq] at h2
    rw [if_pos h, if_pos rfl, if_pos h2]
    show some (wrB k n s) = _
    rw [wrC_eq]
  · have h2 := h
    unfold backB at h2
    rw [wrC_eq] at h2
    rw [if_neg h, if_neg h2]
    rfl
theorem tokO_C : tokO = tokC := funext fun k => funext fun n => funext fun s => tokC_eq k n s
/-- prE, by any way to write tokens. -/
def prG (tok : Int → Int → List UInt8 → Option (List UInt8)) : Nat → Ez → Option (List UInt8)
  | 0, _ => none
  | d + 1, .mk k s n kids _ =>
    if isEx k s n kids.length = true then
      if k = 1 then tok 2 n []
      else if k = 2 then some (if n = 0 then [102, 97, 108, 115, 101] else [116, 114, 117, 101])
      else if k = 3 then tok 3 0 s
      else if k = 4 then tok 1 0 s
      else if k = 5 then thenO (tok 1 0 s) (thenO (some [40]) (thenO (rowO (kids.map (prG tok d)) kids.length) (some [41])))
      else if k = 11 then thenO (some [110, 101, 119, 32]) (thenO (tok 1 0 s) (thenO (some [40]) (thenO (rowO (kids.map (prG tok d)) kids.length) (some [41]))))
      else if k = 10 then thenO (some [91]) (thenO (rowO (kids.map (prG tok d)) kids.length) (some [93]))
      else if k = 6 then match kids with
        | a :: _ => thenO (some s) (kidO a 7 (prG tok d a))
        | _ => none
      else if k = 7 then match kids with
        | a :: b :: _ => thenO (kidO a (levelOf s) (prG tok d a)) (thenO (some [32]) (thenO (some s) (thenO (some [32]) (kidO b (levelOf s + 1) (prG tok d b)))))
        | _ => none
      else if k = 8 then match kids with
        | a :: b :: _ => thenO (kidO a 8 (prG tok d a)) (thenO (some [91]) (thenO (prG tok d b) (some [93])))
        | _ => none
      else if k = 9 then match kids with
        | a :: _ => thenO (kidO a 8 (prG tok d a)) (thenO (some [46]) (tok 1 0 s))
        | _ => none
      else none
    else none
theorem prG_eq : ∀ d, prE d = prG tokO d
  | 0 => rfl
  | d + 1 => by
    funext x
    obtain ⟨k, s, n, kids, line⟩ := x
    unfold prE prG
    rw [prG_eq d]
    rfl
theorem prE_C (d : Nat) : prE d = prG tokC d := by rw [prG_eq, tokO_C]

end Go.Proofs.YtghhamgealkodaaGreatDoor
/- syntax: the document's examples, by the kernel. -/
namespace Go.Proofs.YtghhamgealkodaaGreatDoor
open Go.RowKit Go.Shelf

def tx1 : List UInt8 := [49, 45, 40, 50, 45, 51, 41]
def tx2 : List UInt8 := [40, 49, 45, 50, 41, 45, 51]
def tx3 : List UInt8 := [45, 97, 46, 98, 91, 48, 93]
def tx4 : List UInt8 := [40, 45, 97, 41, 46, 98]
def tx5 : List UInt8 := [33, 40, 120, 38, 38, 121, 41]
def ty1 : List UInt8 := [49, 32, 45, 32, 40, 50, 32, 45, 32, 51, 41]
def ty2 : List UInt8 := [49, 32, 45, 32, 50, 32, 45, 32, 51]
def ty5 : List UInt8 := [33, 40, 120, 32, 38, 38, 32, 121, 41]
def txE : List UInt8 := [49, 43]
def txF : List UInt8 := [102, 110, 32, 102, 40, 41, 123, 49, 61, 50, 59, 125]
def txP : List UInt8 := [114, 101, 99, 111, 114, 100, 32, 80, 123, 120, 58, 105, 110, 116, 125, 10, 102, 110, 32, 102, 40, 97, 58, 91, 105, 110, 116, 93, 41, 58, 105, 110, 116, 123, 114, 101, 116, 117, 114, 110, 32, 97, 91, 48, 93, 59, 125]
def tyP : List UInt8 := [114, 101, 99, 111, 114, 100, 32, 80, 32, 123, 32, 120, 58, 32, 105, 110, 116, 32, 125, 10, 102, 110, 32, 102, 40, 97, 58, 32, 91, 105, 110, 116, 93, 41, 58, 32, 105, 110, 116, 32, 123, 10, 114, 101, 116, 117, 114, 110, 32, 97, 91, 48, 93, 59, 10, 125, 10]
set_option maxRecDepth 100000 in
theorem cx1 : exprC 60 tx1 = ((exprC 60 tx1).1, 0, 0) ∧ okE (exprC 60 tx1).1 = true := by constructor <;> kernel_rfl
set_option maxRecDepth 100000 in
theorem cx2 : exprC 60 tx2 = ((exprC 60 tx2).1, 0, 0) ∧ okE (exprC 60 tx2).1 = true := by constructor <;> kernel_rfl
set_option maxRecDepth 100000 in
theorem cx3 : exprC 60 tx3 = ((exprC 60 tx3).1, 0, 0) ∧ okE (exprC 60 tx3).1 = true := by constructor <;> kernel_rfl
set_option maxRecDepth 100000 in
theorem cx4 : exprC 60 tx4 = ((exprC 60 tx4).1, 0, 0) ∧ okE (exprC 60 tx4).1 = true := by constructor <;> kernel_rfl
set_option maxRecDepth 100000 in
theorem cx5 : exprC 60 tx5 = ((exprC 60 tx5).1, 0, 0) ∧ okE (exprC 60 tx5).1 = true := by constructor <;> kernel_rfl
set_option maxRecDepth 100000 in
theorem cp1 : prR (prE 24 (exz (exprC 60 tx1).1)) = (ty1, 0) := by rw [prE_C]; kernel_rfl
set_option maxRecDepth 100000 in
theorem cp2 : prR (prE 24 (exz (exprC 60 tx2).1)) = (ty2, 0) := by rw [prE_C]; kernel_rfl
set_option maxRecDepth 100000 in
theorem cp3 : prR (prE 24 (exz (exprC 60 tx3).1)) = (tx3, 0) := by rw [prE_C]; kernel_rfl
set_option maxRecDepth 100000 in
theorem cp4 : prR (prE 24 (exz (exprC 60 tx4).1)) = (tx4, 0) := by rw [prE_C]; kernel_rfl
set_option maxRecDepth 100000 in
theorem cp5 : prR (prE 24 (exz (exprC 60 tx5).1)) = (ty5, 0) := by rw [prE_C]; kernel_rfl
set_option maxRecDepth 100000 in
theorem cxE : exprC 60 txE = (noEx, 2, 6) := by kernel_rfl
set_option maxRecDepth 100000 in
theorem cxF : progC 60 txF = (noPg, 8, 6) := by kernel_rfl
set_option maxRecDepth 100000 in
theorem cxP : progC 60 txP = ((progC 60 txP).1, 0, 0) ∧ okPg (progC 60 txP).1 = true := by constructor <;> kernel_rfl
set_option maxRecDepth 100000 in
theorem cpP : prR (prgO (pgz (progC 60 txP).1)) = (tyP, 0) := by kernel_rfl
end Go.Proofs.YtghhamgealkodaaGreatDoor
/- syntax: a statement has what its kind has. -/
namespace Go.Proofs.YtghhamgealkodaaGreatDoor
open Go.RowKit Go.Shelf

abbrev szO (k : Int) (s : List UInt8) (be : Option Addr) (me ce : Nat) (bb : Option Addr) (mb cb : Nat) (bl : Option Addr) (ml cl : Nat) (line : Int) : Obj := .cells #[.int .i64 k, .string (strB s), .slice be me ce, .slice bb mb cb, .slice bl ml cl, .int .i64 line] 117
abbrev szV (k : Int) (s : List UInt8) (be : Option Addr) (me ce : Nat) (bb : Option Addr) (mb cb : Nat) (bl : Option Addr) (ml cl : Nat) (line : Int) : Value := .agg #[.int .i64 k, .string (strB s), .slice be me ce, .slice bb mb cb, .slice bl ml cl, .int .i64 line]
/-- Six cells, of a block that has them. -/
theorem cellsS6 {w : World} {N : Nat} {k : Int} {s : List UInt8} {be : Option Addr} {me ce : Nat} {bb : Option Addr} {mb cb : Nat} {bl : Option Addr} {ml cl : Nat} {line : Int} (p : w.heap[N]? = some (szO k s be me ce bb mb cb bl ml cl line)) :
    w.cell? ⟨N, 0, none⟩ = some (.int .i64 k) ∧ w.cell? ⟨N, 1, none⟩ = some (.string (strB s)) ∧ w.cell? ⟨N, 2, none⟩ = some (.slice be me ce) ∧ w.cell? ⟨N, 3, none⟩ = some (.slice bb mb cb) ∧ w.cell? ⟨N, 4, none⟩ = some (.slice bl ml cl) ∧ w.cell? ⟨N, 5, none⟩ = some (.int .i64 line) := by
  refine ⟨?_, ?_, ?_, ?_, ?_, ?_⟩ <;> (simp only [World.cell?, p]; rfl)

set_option maxRecDepth 100000 in
set_option maxHeartbeats 4000000 in
theorem isPlaceZ (a : Int) (s : List UInt8) (n : Int) (base : Option Addr) (m cap : Nat) (line : Int) (w : World) :
    Calls Tryz.prog 194 #[ezV a s n base m cap line] w fun e w' => e = .returned (.bool (a == 4 || a == 8 || a == 9)) ∧ w' = w.alloc (ezO a s n base m cap line) := by
  by_cases h4 : a = 4
  · subst h4
    go_enter Tryz.func194, Tryz.ntmps194
    go_wp2
    go_ret
    exact ⟨rfl, rfl⟩
  · have f4 : (a == 4) = false := by simpa using h4
    by_cases h8 : a = 8
    · subst h8
      go_enter Tryz.func194, Tryz.ntmps194
      go_wp2
      go_ret
      exact ⟨rfl, rfl⟩
    · have f8 : (a == 8) = false := by simpa using h8
      by_cases h9 : a = 9
      · subst h9
        go_enter Tryz.func194, Tryz.ntmps194
        go_wp2
        go_ret
        exact ⟨rfl, rfl⟩
      · have f9 : (a == 9) = false := by simpa using h9
        rw [f4, f8, f9]
        clear h4 h8 h9
        go_enter Tryz.func194, Tryz.ntmps194
        go_wp2
        go_ret
        exact ⟨rfl, rfl⟩

theorem below_drewS {n : Nat} {w w' : World} (h : Below n w w') (k : Nat) : Below n w (w'.drewN k) := h.trans (⟨rfl, rfl, rfl, Nat.le_refl _, fun _ _ => rfl⟩ : Below n w' (w'.drewN k))
/-- A kid of a row of expressions. -/
theorem RowZ.ez {B : Nat} {w : World} {l : List Ez} {base : Option Addr} {m cap : Nat} (h : RowZ (EzC B w) 5 B w l base m cap) : ∀ i x, l[i]? = some x → ∃ b o a1 a2 a3 a4 a5 a6 a7, base = some ⟨b, o, none⟩ ∧ b < B ∧ b < w.heap.size ∧ EzIn B w x (ezV a1 a2 a3 a4 a5 a6 a7) ∧
      w.cell? ⟨b, o + i * 5, none⟩ = some (.int .i64 a1) ∧ w.cell? ⟨b, o + i * 5 + 1, none⟩ = some (.string (strB a2)) ∧ w.cell? ⟨b, o + i * 5 + 2, none⟩ = some (.int .i64 a3) ∧ w.cell? ⟨b, o + i * 5 + 3, none⟩ = some (.slice a4 a5 a6) ∧ w.cell? ⟨b, o + i * 5 + 4, none⟩ = some (.int .i64 a7) ∧ a1 = kindZ x := by
  intro i x hx
  obtain ⟨b, o, c, hb1, hb2, hb3, hlen, hxx, hcell⟩ := h.2.2.2 i x hx
  obtain ⟨a1, a2, a3, a4, a5, a6, a7, hag, hka⟩ : ∃ a1 a2 a3 a4 a5 a6 a7, Value.agg c.toArray = ezV a1 a2 a3 a4 a5 a6 a7 ∧ a1 = kindZ x := by
    have hxx' : EzIn B w x (Value.agg c.toArray) := hxx
    generalize Value.agg c.toArray = V at hxx'
    cases hxx' with
    | mk => exact ⟨_, _, _, _, _, _, _, rfl, rfl⟩
  have hcl : c = [.int .i64 a1, .string (strB a2), .int .i64 a3, .slice a4 a5 a6, .int .i64 a7] := by
    have := congrArg (fun v => match v with | .agg a => a.toList | _ => []) hag
    simpa using this
  subst hcl
  exact ⟨b, o, a1, a2, a3, a4, a5, a6, a7, hb1, hb2, hb3, hxx, hcell 0 _ rfl, hcell 1 _ rfl, hcell 2 _ rfl, hcell 3 _ rfl, hcell 4 _ rfl, hka⟩

set_option maxRecDepth 100000 in
set_option maxHeartbeats 4000000 in
theorem hasX_any (k : Int) (s : List UInt8) (es : List Ez) (be : Option Addr) (me ce : Nat) (bb : Option Addr) (mb cb : Nat) (bl : Option Addr) (ml cl : Nat) (line : Int) (B : Nat) (w : World) (hrow : RowZ (EzC B w) 5 B w es be me ce) :
    Calls Tryz.prog 198 #[szV k s be me ce bb mb cb bl ml cl line] w fun e w' => e = .returned (.bool (hasX k es)) ∧ Below w.heap.size w w' := by
  obtain ⟨w1, hw1⟩ : ∃ w1, w1 = w.alloc (szO k s be me ce bb mb cb bl ml cl line) := ⟨_, rfl⟩
  have hb1 : Below w.heap.size w w1 := by rw [hw1]; exact (Below.refl _ w).alloc (Nat.le_refl _) _
  have p1 : w1.heap[w.heap.size]? = some (szO k s be me ce bb mb cb bl ml cl line) := by rw [hw1]; exact World.alloc_heap_new w _
  obtain ⟨c0, c1, c2, c3, c4, c5⟩ := cellsS6 p1
  have HB : Hid (Below w.heap.size w w1) := hb1
  have hw1' := hw1.symm
  have hlen : es.length = me := hrow.1.symm
  have HX : Hid (∀ a b, es = [a, b] → ∃ b o a1 a2 a3 a4 a5 a6 a7, be = some ⟨b, o, none⟩ ∧ a1 = kindZ a ∧ w1.cell? ⟨b, o, none⟩ = some (.int .i64 a1) ∧ w1.cell? ⟨b, o + 1, none⟩ = some (.string (strB a2)) ∧ w1.cell? ⟨b, o + 2, none⟩ = some (.int .i64 a3) ∧ w1.cell? ⟨b, o + 3, none⟩ = some (.slice a4 a5 a6) ∧ w1.cell? ⟨b, o + 4, none⟩ = some (.int .i64 a7)) := fun a b hab => by
    subst hab
    obtain ⟨b, o, a1, a2, a3, a4, a5, a6, a7, h1, _, h3, _, m0, m1, m2, m3, m4, hk⟩ := hrow.ez 0 a rfl
    rw [Nat.zero_mul, Nat.add_zero] at m0 m1 m2 m3 m4
    refine ⟨b, o, a1, a2, a3, a4, a5, a6, a7, h1, hk, ?_, ?_, ?_, ?_, ?_⟩
    · rw [hw1]; exact cell_al m0 _
    · rw [hw1]; exact cell_al m1 _
    · rw [hw1]; exact cell_al m2 _
    · rw [hw1]; exact cell_al m3 _
    · rw [hw1]; exact cell_al m4 _
  clear hb1 p1 hw1 hrow
  by_cases hk1 : k = 1
  · subst hk1
    have HV0 : Hid (hasX 1 es = decide (me = 1)) := show _ = _ by rw [← hlen]; simp [hasX]; rfl
    by_cases h1 : me = 1
    · subst h1
      have HV : Hid (hasX 1 es = true) := HV0.out.trans (by simp)
      clear HV0
      go_enter Tryz.func198, Tryz.ntmps198
      go_wp2
      exact bodyPost_ret (v := .bool true) (by simp [results, Tryz.results198, go_sem]) rfl ⟨by rw [HV.out], HB.out⟩
    · have hmI : ((me : Int) == 1) = false := by rw [beq_eq_false_iff_ne]; omega
      have HV : Hid (hasX 1 es = false) := HV0.out.trans (by simpa using h1)
      clear HV0
      go_enter Tryz.func198, Tryz.ntmps198
      go_wp2
      exact bodyPost_ret (v := .bool false) (by simp [results, Tryz.results198, go_sem]) rfl ⟨by rw [HV.out], HB.out⟩
  by_cases hk3 : k = 3
  · subst hk3
    have HV0 : Hid (hasX 3 es = decide (me = 1)) := show _ = _ by rw [← hlen]; simp [hasX]; rfl
    by_cases h1 : me = 1
    · subst h1
      have HV : Hid (hasX 3 es = true) := HV0.out.trans (by simp)
      clear HV0
      go_enter Tryz.func198, Tryz.ntmps198
      go_wp2
      exact bodyPost_ret (v := .bool true) (by simp [results, Tryz.results198, go_sem]) rfl ⟨by rw [HV.out], HB.out⟩
    · have hmI : ((me : Int) == 1) = false := by rw [beq_eq_false_iff_ne]; omega
      have HV : Hid (hasX 3 es = false) := HV0.out.trans (by simpa using h1)
      clear HV0
      go_enter Tryz.func198, Tryz.ntmps198
      go_wp2
      exact bodyPost_ret (v := .bool false) (by simp [results, Tryz.results198, go_sem]) rfl ⟨by rw [HV.out], HB.out⟩
  by_cases hk4 : k = 4
  · subst hk4
    have HV0 : Hid (hasX 4 es = decide (me = 1)) := show _ = _ by rw [← hlen]; simp [hasX]; rfl
    by_cases h1 : me = 1
    · subst h1
      have HV : Hid (hasX 4 es = true) := HV0.out.trans (by simp)
      clear HV0
      go_enter Tryz.func198, Tryz.ntmps198
      go_wp2
      exact bodyPost_ret (v := .bool true) (by simp [results, Tryz.results198, go_sem]) rfl ⟨by rw [HV.out], HB.out⟩
    · have hmI : ((me : Int) == 1) = false := by rw [beq_eq_false_iff_ne]; omega
      have HV : Hid (hasX 4 es = false) := HV0.out.trans (by simpa using h1)
      clear HV0
      go_enter Tryz.func198, Tryz.ntmps198
      go_wp2
      exact bodyPost_ret (v := .bool false) (by simp [results, Tryz.results198, go_sem]) rfl ⟨by rw [HV.out], HB.out⟩
  by_cases hk5 : k = 5
  · subst hk5
    have HV0 : Hid (hasX 5 es = decide (me = 1)) := show _ = _ by rw [← hlen]; simp [hasX]; rfl
    by_cases h1 : me = 1
    · subst h1
      have HV : Hid (hasX 5 es = true) := HV0.out.trans (by simp)
      clear HV0
      go_enter Tryz.func198, Tryz.ntmps198
      go_wp2
      exact bodyPost_ret (v := .bool true) (by simp [results, Tryz.results198, go_sem]) rfl ⟨by rw [HV.out], HB.out⟩
    · have hmI : ((me : Int) == 1) = false := by rw [beq_eq_false_iff_ne]; omega
      have HV : Hid (hasX 5 es = false) := HV0.out.trans (by simpa using h1)
      clear HV0
      go_enter Tryz.func198, Tryz.ntmps198
      go_wp2
      exact bodyPost_ret (v := .bool false) (by simp [results, Tryz.results198, go_sem]) rfl ⟨by rw [HV.out], HB.out⟩
  by_cases hk7 : k = 7
  · subst hk7
    have HV0 : Hid (hasX 7 es = decide (me = 1)) := show _ = _ by rw [← hlen]; simp [hasX]; rfl
    by_cases h1 : me = 1
    · subst h1
      have HV : Hid (hasX 7 es = true) := HV0.out.trans (by simp)
      clear HV0
      go_enter Tryz.func198, Tryz.ntmps198
      go_wp2
      exact bodyPost_ret (v := .bool true) (by simp [results, Tryz.results198, go_sem]) rfl ⟨by rw [HV.out], HB.out⟩
    · have hmI : ((me : Int) == 1) = false := by rw [beq_eq_false_iff_ne]; omega
      have HV : Hid (hasX 7 es = false) := HV0.out.trans (by simpa using h1)
      clear HV0
      go_enter Tryz.func198, Tryz.ntmps198
      go_wp2
      exact bodyPost_ret (v := .bool false) (by simp [results, Tryz.results198, go_sem]) rfl ⟨by rw [HV.out], HB.out⟩
  by_cases hk2 : k = 2
  · subst hk2
    clear hk1 hk3 hk4 hk5 hk7
    by_cases h2 : me = 2
    · obtain ⟨a, b, hab⟩ : ∃ a b, es = [a, b] := by match es, hlen.trans h2 with | [a, b], _ => exact ⟨a, b, rfl⟩
      obtain ⟨B2, o, a1, a2, a3, a4, a5, a6, a7, rfl, hka, m0, m1, m2, m3, m4⟩ := HX.out a b hab
      have HV : Hid (hasX 2 es = (a1 == 4 || a1 == 8 || a1 == 9)) := show _ = _ by rw [hab, hka]; simp [hasX, placeZ]
      subst h2
      have cp := isPlaceZ a1 a2 a3 a4 a5 a6 a7 w1
      generalize (a1 == 4 || a1 == 8 || a1 == 9) = H at *
      clear hab hka HX hlen
      go_enter Tryz.func198, Tryz.ntmps198
      go_wp2_with fail
      refine cp.mono ?_
      clear cp
      rintro e w2 ⟨rfl, rfl⟩
      have HB2 : Hid (Below w.heap.size w (w1.alloc (ezO a1 a2 a3 a4 a5 a6 a7))) := HB.out.alloc HB.out.size _
      clear HB
      go_wp2
      exact bodyPost_ret (v := .bool H) (by simp [results, Tryz.results198, go_sem]) rfl ⟨by rw [HV.out], HB2.out⟩
    · have hmI : ((me : Int) == 2) = false := by rw [beq_eq_false_iff_ne]; omega
      have HV : Hid (hasX 2 es = false) := show _ = _ by
        have hne : es.length ≠ 2 := by omega
        match es, hne with
        | [], _ => rfl
        | [_], _ => rfl
        | [_, _], h => exact absurd rfl h
        | _ :: _ :: _ :: _, _ => rfl
      go_enter Tryz.func198, Tryz.ntmps198
      go_wp2
      exact bodyPost_ret (v := .bool false) (by simp [results, Tryz.results198, go_sem]) rfl ⟨by rw [HV.out], HB.out⟩
  by_cases hk6 : k = 6
  · subst hk6
    clear hk1 hk3 hk4 hk5 hk7 hk2
    by_cases h1 : me ≤ 1
    · have hmI : (me : Int) ≤ 1 := by omega
      have HV : Hid (hasX 6 es = true) := show _ = _ by simp [hasX, hlen, h1]
      go_enter Tryz.func198, Tryz.ntmps198
      go_wp2
      exact bodyPost_ret (v := .bool true) (by simp [results, Tryz.results198, go_sem]) rfl ⟨by rw [HV.out], HB.out⟩
    · have hmI : ¬ (me : Int) ≤ 1 := by omega
      have HV : Hid (hasX 6 es = false) := show _ = _ by simp [hasX, hlen]; omega
      go_enter Tryz.func198, Tryz.ntmps198
      go_wp2
      exact bodyPost_ret (v := .bool false) (by simp [results, Tryz.results198, go_sem]) rfl ⟨by rw [HV.out], HB.out⟩
  have HV : Hid (hasX k es = false) := show _ = _ by
    unfold hasX
    rw [if_neg (by omega), if_neg hk2, if_neg hk6]
  have f1 : (k == 1) = false := by simpa using hk1
  have f2 : (k == 2) = false := by simpa using hk2
  have f3 : (k == 3) = false := by simpa using hk3
  have f4 : (k == 4) = false := by simpa using hk4
  have f5 : (k == 5) = false := by simpa using hk5
  have f6 : (k == 6) = false := by simpa using hk6
  have f7 : (k == 7) = false := by simpa using hk7
  clear hk1 hk2 hk3 hk4 hk5 hk6 hk7
  go_enter Tryz.func198, Tryz.ntmps198
  go_wp2
  exact bodyPost_ret (v := .bool false) (by simp [results, Tryz.results198, go_sem]) rfl ⟨by rw [HV.out], HB.out⟩
set_option maxRecDepth 100000 in
set_option maxHeartbeats 8000000 in
theorem isSt_any (k : Int) (s : List UInt8) (es : List Ez) (be : Option Addr) (me ce : Nat) (bb : Option Addr) (mb cb : Nat) (bl : Option Addr) (ml cl : Nat) (line : Int) (B : Nat) (w : World) (hrow : RowZ (EzC B w) 5 B w es be me ce) (hB : B ≤ w.heap.size) :
    Calls Tryz.prog 180 #[szV k s be me ce bb mb cb bl ml cl line] w fun e w' => e = .returned (.bool (isSt k s es mb ml)) ∧ Below w.heap.size w w' := by
  obtain ⟨w1, hw1⟩ : ∃ w1, w1 = w.alloc (szO k s be me ce bb mb cb bl ml cl line) := ⟨_, rfl⟩
  have hb1 : Below w.heap.size w w1 := by rw [hw1]; exact (Below.refl _ w).alloc (Nat.le_refl _) _
  have p1 : w1.heap[w.heap.size]? = some (szO k s be me ce bb mb cb bl ml cl line) := by rw [hw1]; exact World.alloc_heap_new w _
  have hbB : ∀ n, Below B w (w1.drewN n) := fun n => (below_drewS hb1 n).mono hB
  have ch := fun n => hasX_any k s es be me ce bb mb cb bl ml cl line B (w1.drewN n) (hrow.kept (hbB n) fun _ _ h => EzIn.kept h (hbB n))
  obtain ⟨c0, c1, c2, c3, c4, c5⟩ := cellsS6 p1
  have HB : Hid (∀ n, Below w.heap.size w (w1.drewN n)) := fun n => below_drewS hb1 n
  have hw1' := hw1.symm
  have HV : Hid (isSt k s es mb ml = (hasX k es && (k == 1 || s == []) && (k == 4 || k == 3 || k == 5 || mb == 0) && (k == 4 || ml == 0))) := rfl
  generalize hasX k es = H at *
  obtain ⟨R, hR⟩ : ∃ R, R = isSt k s es mb ml := ⟨_, rfl⟩
  have HR : Hid (R = (H && (k == 1 || s == []) && (k == 4 || k == 3 || k == 5 || mb == 0) && (k == 4 || ml == 0))) := hR.trans HV.out
  rw [← hR]
  clear hR HV hb1 p1 hw1 hrow hbB
  by_cases hk1 : k = 1
  · subst hk1
    cases H with
    | false =>
      obtain rfl : R = false := by rw [HR.out]; simp_all
      clear HR
      go_enter Tryz.func180, Tryz.ntmps180
      go_wp2_with fail
      go_quiet (fail)
      go_wp2_with fail
      refine (ch _).mono ?_
      clear ch
      rintro e w2 ⟨rfl, hb2⟩
      have HB2 : Hid (Below w.heap.size w w2) := below_via' (HB.out _) hb2
      have p2 := (hb2.cell (p := ⟨w.heap.size, 1, none⟩) (World.block_lt_of_cell? _ _ c1)).trans c1
      have p3 := (hb2.cell (p := ⟨w.heap.size, 3, none⟩) (World.block_lt_of_cell? _ _ c3)).trans c3
      have p4 := (hb2.cell (p := ⟨w.heap.size, 4, none⟩) (World.block_lt_of_cell? _ _ c4)).trans c4
      clear hb2 HB
      go_wp2
      exact bodyPost_ret (v := .bool false) (by simp [results, Tryz.results180, go_sem]) rfl ⟨rfl, HB2.out⟩
    | true =>
      by_cases hmb : mb = 0
      · subst hmb
        by_cases hml : ml = 0
        · subst hml
          obtain rfl : R = true := by rw [HR.out]; simp_all
          clear HR
          go_enter Tryz.func180, Tryz.ntmps180
          go_wp2_with fail
          go_quiet (fail)
          go_wp2_with fail
          refine (ch _).mono ?_
          clear ch
          rintro e w2 ⟨rfl, hb2⟩
          have HB2 : Hid (Below w.heap.size w w2) := below_via' (HB.out _) hb2
          have p2 := (hb2.cell (p := ⟨w.heap.size, 1, none⟩) (World.block_lt_of_cell? _ _ c1)).trans c1
          have p3 := (hb2.cell (p := ⟨w.heap.size, 3, none⟩) (World.block_lt_of_cell? _ _ c3)).trans c3
          have p4 := (hb2.cell (p := ⟨w.heap.size, 4, none⟩) (World.block_lt_of_cell? _ _ c4)).trans c4
          clear hb2 HB
          go_wp2
          exact bodyPost_ret (v := .bool true) (by simp [results, Tryz.results180, go_sem]) rfl ⟨rfl, HB2.out⟩
        · have hmlI : ((ml : Int) == 0) = false := by rw [beq_eq_false_iff_ne]; omega
          have hmlN : (ml == 0) = false := by rw [beq_eq_false_iff_ne]; exact hml
          obtain rfl : R = false := by rw [HR.out]; simp_all
          clear HR
          go_enter Tryz.func180, Tryz.ntmps180
          go_wp2_with fail
          go_quiet (fail)
          go_wp2_with fail
          refine (ch _).mono ?_
          clear ch
          rintro e w2 ⟨rfl, hb2⟩
          have HB2 : Hid (Below w.heap.size w w2) := below_via' (HB.out _) hb2
          have p2 := (hb2.cell (p := ⟨w.heap.size, 1, none⟩) (World.block_lt_of_cell? _ _ c1)).trans c1
          have p3 := (hb2.cell (p := ⟨w.heap.size, 3, none⟩) (World.block_lt_of_cell? _ _ c3)).trans c3
          have p4 := (hb2.cell (p := ⟨w.heap.size, 4, none⟩) (World.block_lt_of_cell? _ _ c4)).trans c4
          clear hb2 HB
          go_wp2
          exact bodyPost_ret (v := .bool false) (by simp [results, Tryz.results180, go_sem]) rfl ⟨rfl, HB2.out⟩
      · have hmbI : ((mb : Int) == 0) = false := by rw [beq_eq_false_iff_ne]; omega
        have hmbN : (mb == 0) = false := by rw [beq_eq_false_iff_ne]; exact hmb
        obtain rfl : R = false := by rw [HR.out]; simp_all
        clear HR
        go_enter Tryz.func180, Tryz.ntmps180
        go_wp2_with fail
        go_quiet (fail)
        go_wp2_with fail
        refine (ch _).mono ?_
        clear ch
        rintro e w2 ⟨rfl, hb2⟩
        have HB2 : Hid (Below w.heap.size w w2) := below_via' (HB.out _) hb2
        have p2 := (hb2.cell (p := ⟨w.heap.size, 1, none⟩) (World.block_lt_of_cell? _ _ c1)).trans c1
        have p3 := (hb2.cell (p := ⟨w.heap.size, 3, none⟩) (World.block_lt_of_cell? _ _ c3)).trans c3
        have p4 := (hb2.cell (p := ⟨w.heap.size, 4, none⟩) (World.block_lt_of_cell? _ _ c4)).trans c4
        clear hb2 HB
        go_wp2
        exact bodyPost_ret (v := .bool false) (by simp [results, Tryz.results180, go_sem]) rfl ⟨rfl, HB2.out⟩
  by_cases hk4 : k = 4
  · subst hk4
    cases H with
    | false =>
      obtain rfl : R = false := by rw [HR.out]; simp_all
      clear HR
      go_enter Tryz.func180, Tryz.ntmps180
      go_wp2_with fail
      go_quiet (fail)
      go_wp2_with fail
      refine (ch _).mono ?_
      clear ch
      rintro e w2 ⟨rfl, hb2⟩
      have HB2 : Hid (Below w.heap.size w w2) := below_via' (HB.out _) hb2
      have p2 := (hb2.cell (p := ⟨w.heap.size, 1, none⟩) (World.block_lt_of_cell? _ _ c1)).trans c1
      have p3 := (hb2.cell (p := ⟨w.heap.size, 3, none⟩) (World.block_lt_of_cell? _ _ c3)).trans c3
      have p4 := (hb2.cell (p := ⟨w.heap.size, 4, none⟩) (World.block_lt_of_cell? _ _ c4)).trans c4
      clear hb2 HB
      go_wp2
      exact bodyPost_ret (v := .bool false) (by simp [results, Tryz.results180, go_sem]) rfl ⟨rfl, HB2.out⟩
    | true =>
      by_cases hs : s = []
      · subst hs
        obtain rfl : R = true := by rw [HR.out]; simp_all
        clear HR
        go_enter Tryz.func180, Tryz.ntmps180
        go_wp2_with fail
        go_quiet (fail)
        go_wp2_with fail
        refine (ch _).mono ?_
        clear ch
        rintro e w2 ⟨rfl, hb2⟩
        have HB2 : Hid (Below w.heap.size w w2) := below_via' (HB.out _) hb2
        have p2 := (hb2.cell (p := ⟨w.heap.size, 1, none⟩) (World.block_lt_of_cell? _ _ c1)).trans c1
        have p3 := (hb2.cell (p := ⟨w.heap.size, 3, none⟩) (World.block_lt_of_cell? _ _ c3)).trans c3
        have p4 := (hb2.cell (p := ⟨w.heap.size, 4, none⟩) (World.block_lt_of_cell? _ _ c4)).trans c4
        clear hb2 HB
        go_wp2
        exact bodyPost_ret (v := .bool true) (by simp [results, Tryz.results180, go_sem]) rfl ⟨rfl, HB2.out⟩
      · have hs1 : (s == []) = false := by simpa using hs
        obtain rfl : R = false := by rw [HR.out]; simp_all
        clear HR
        go_enter Tryz.func180, Tryz.ntmps180
        go_wp2_with fail
        go_quiet (fail)
        go_wp2_with fail
        refine (ch _).mono ?_
        clear ch
        rintro e w2 ⟨rfl, hb2⟩
        have HB2 : Hid (Below w.heap.size w w2) := below_via' (HB.out _) hb2
        have p2 := (hb2.cell (p := ⟨w.heap.size, 1, none⟩) (World.block_lt_of_cell? _ _ c1)).trans c1
        have p3 := (hb2.cell (p := ⟨w.heap.size, 3, none⟩) (World.block_lt_of_cell? _ _ c3)).trans c3
        have p4 := (hb2.cell (p := ⟨w.heap.size, 4, none⟩) (World.block_lt_of_cell? _ _ c4)).trans c4
        clear hb2 HB
        go_wp2
        exact bodyPost_ret (v := .bool false) (by simp [results, Tryz.results180, go_sem]) rfl ⟨rfl, HB2.out⟩
  by_cases hk3 : k = 3
  · subst hk3
    cases H with
    | false =>
      obtain rfl : R = false := by rw [HR.out]; simp_all
      clear HR
      go_enter Tryz.func180, Tryz.ntmps180
      go_wp2_with fail
      go_quiet (fail)
      go_wp2_with fail
      refine (ch _).mono ?_
      clear ch
      rintro e w2 ⟨rfl, hb2⟩
      have HB2 : Hid (Below w.heap.size w w2) := below_via' (HB.out _) hb2
      have p2 := (hb2.cell (p := ⟨w.heap.size, 1, none⟩) (World.block_lt_of_cell? _ _ c1)).trans c1
      have p3 := (hb2.cell (p := ⟨w.heap.size, 3, none⟩) (World.block_lt_of_cell? _ _ c3)).trans c3
      have p4 := (hb2.cell (p := ⟨w.heap.size, 4, none⟩) (World.block_lt_of_cell? _ _ c4)).trans c4
      clear hb2 HB
      go_wp2
      exact bodyPost_ret (v := .bool false) (by simp [results, Tryz.results180, go_sem]) rfl ⟨rfl, HB2.out⟩
    | true =>
      by_cases hs : s = []
      · subst hs
        by_cases hml : ml = 0
        · subst hml
          obtain rfl : R = true := by rw [HR.out]; simp_all
          clear HR
          go_enter Tryz.func180, Tryz.ntmps180
          go_wp2_with fail
          go_quiet (fail)
          go_wp2_with fail
          refine (ch _).mono ?_
          clear ch
          rintro e w2 ⟨rfl, hb2⟩
          have HB2 : Hid (Below w.heap.size w w2) := below_via' (HB.out _) hb2
          have p2 := (hb2.cell (p := ⟨w.heap.size, 1, none⟩) (World.block_lt_of_cell? _ _ c1)).trans c1
          have p3 := (hb2.cell (p := ⟨w.heap.size, 3, none⟩) (World.block_lt_of_cell? _ _ c3)).trans c3
          have p4 := (hb2.cell (p := ⟨w.heap.size, 4, none⟩) (World.block_lt_of_cell? _ _ c4)).trans c4
          clear hb2 HB
          go_wp2
          exact bodyPost_ret (v := .bool true) (by simp [results, Tryz.results180, go_sem]) rfl ⟨rfl, HB2.out⟩
        · have hmlI : ((ml : Int) == 0) = false := by rw [beq_eq_false_iff_ne]; omega
          have hmlN : (ml == 0) = false := by rw [beq_eq_false_iff_ne]; exact hml
          obtain rfl : R = false := by rw [HR.out]; simp_all
          clear HR
          go_enter Tryz.func180, Tryz.ntmps180
          go_wp2_with fail
          go_quiet (fail)
          go_wp2_with fail
          refine (ch _).mono ?_
          clear ch
          rintro e w2 ⟨rfl, hb2⟩
          have HB2 : Hid (Below w.heap.size w w2) := below_via' (HB.out _) hb2
          have p2 := (hb2.cell (p := ⟨w.heap.size, 1, none⟩) (World.block_lt_of_cell? _ _ c1)).trans c1
          have p3 := (hb2.cell (p := ⟨w.heap.size, 3, none⟩) (World.block_lt_of_cell? _ _ c3)).trans c3
          have p4 := (hb2.cell (p := ⟨w.heap.size, 4, none⟩) (World.block_lt_of_cell? _ _ c4)).trans c4
          clear hb2 HB
          go_wp2
          exact bodyPost_ret (v := .bool false) (by simp [results, Tryz.results180, go_sem]) rfl ⟨rfl, HB2.out⟩
      · have hs1 : (s == []) = false := by simpa using hs
        obtain rfl : R = false := by rw [HR.out]; simp_all
        clear HR
        go_enter Tryz.func180, Tryz.ntmps180
        go_wp2_with fail
        go_quiet (fail)
        go_wp2_with fail
        refine (ch _).mono ?_
        clear ch
        rintro e w2 ⟨rfl, hb2⟩
        have HB2 : Hid (Below w.heap.size w w2) := below_via' (HB.out _) hb2
        have p2 := (hb2.cell (p := ⟨w.heap.size, 1, none⟩) (World.block_lt_of_cell? _ _ c1)).trans c1
        have p3 := (hb2.cell (p := ⟨w.heap.size, 3, none⟩) (World.block_lt_of_cell? _ _ c3)).trans c3
        have p4 := (hb2.cell (p := ⟨w.heap.size, 4, none⟩) (World.block_lt_of_cell? _ _ c4)).trans c4
        clear hb2 HB
        go_wp2
        exact bodyPost_ret (v := .bool false) (by simp [results, Tryz.results180, go_sem]) rfl ⟨rfl, HB2.out⟩
  by_cases hk5 : k = 5
  · subst hk5
    cases H with
    | false =>
      obtain rfl : R = false := by rw [HR.out]; simp_all
      clear HR
      go_enter Tryz.func180, Tryz.ntmps180
      go_wp2_with fail
      go_quiet (fail)
      go_wp2_with fail
      refine (ch _).mono ?_
      clear ch
      rintro e w2 ⟨rfl, hb2⟩
      have HB2 : Hid (Below w.heap.size w w2) := below_via' (HB.out _) hb2
      have p2 := (hb2.cell (p := ⟨w.heap.size, 1, none⟩) (World.block_lt_of_cell? _ _ c1)).trans c1
      have p3 := (hb2.cell (p := ⟨w.heap.size, 3, none⟩) (World.block_lt_of_cell? _ _ c3)).trans c3
      have p4 := (hb2.cell (p := ⟨w.heap.size, 4, none⟩) (World.block_lt_of_cell? _ _ c4)).trans c4
      clear hb2 HB
      go_wp2
      exact bodyPost_ret (v := .bool false) (by simp [results, Tryz.results180, go_sem]) rfl ⟨rfl, HB2.out⟩
    | true =>
      by_cases hs : s = []
      · subst hs
        by_cases hml : ml = 0
        · subst hml
          obtain rfl : R = true := by rw [HR.out]; simp_all
          clear HR
          go_enter Tryz.func180, Tryz.ntmps180
          go_wp2_with fail
          go_quiet (fail)
          go_wp2_with fail
          refine (ch _).mono ?_
          clear ch
          rintro e w2 ⟨rfl, hb2⟩
          have HB2 : Hid (Below w.heap.size w w2) := below_via' (HB.out _) hb2
          have p2 := (hb2.cell (p := ⟨w.heap.size, 1, none⟩) (World.block_lt_of_cell? _ _ c1)).trans c1
          have p3 := (hb2.cell (p := ⟨w.heap.size, 3, none⟩) (World.block_lt_of_cell? _ _ c3)).trans c3
          have p4 := (hb2.cell (p := ⟨w.heap.size, 4, none⟩) (World.block_lt_of_cell? _ _ c4)).trans c4
          clear hb2 HB
          go_wp2
          exact bodyPost_ret (v := .bool true) (by simp [results, Tryz.results180, go_sem]) rfl ⟨rfl, HB2.out⟩
        · have hmlI : ((ml : Int) == 0) = false := by rw [beq_eq_false_iff_ne]; omega
          have hmlN : (ml == 0) = false := by rw [beq_eq_false_iff_ne]; exact hml
          obtain rfl : R = false := by rw [HR.out]; simp_all
          clear HR
          go_enter Tryz.func180, Tryz.ntmps180
          go_wp2_with fail
          go_quiet (fail)
          go_wp2_with fail
          refine (ch _).mono ?_
          clear ch
          rintro e w2 ⟨rfl, hb2⟩
          have HB2 : Hid (Below w.heap.size w w2) := below_via' (HB.out _) hb2
          have p2 := (hb2.cell (p := ⟨w.heap.size, 1, none⟩) (World.block_lt_of_cell? _ _ c1)).trans c1
          have p3 := (hb2.cell (p := ⟨w.heap.size, 3, none⟩) (World.block_lt_of_cell? _ _ c3)).trans c3
          have p4 := (hb2.cell (p := ⟨w.heap.size, 4, none⟩) (World.block_lt_of_cell? _ _ c4)).trans c4
          clear hb2 HB
          go_wp2
          exact bodyPost_ret (v := .bool false) (by simp [results, Tryz.results180, go_sem]) rfl ⟨rfl, HB2.out⟩
      · have hs1 : (s == []) = false := by simpa using hs
        obtain rfl : R = false := by rw [HR.out]; simp_all
        clear HR
        go_enter Tryz.func180, Tryz.ntmps180
        go_wp2_with fail
        go_quiet (fail)
        go_wp2_with fail
        refine (ch _).mono ?_
        clear ch
        rintro e w2 ⟨rfl, hb2⟩
        have HB2 : Hid (Below w.heap.size w w2) := below_via' (HB.out _) hb2
        have p2 := (hb2.cell (p := ⟨w.heap.size, 1, none⟩) (World.block_lt_of_cell? _ _ c1)).trans c1
        have p3 := (hb2.cell (p := ⟨w.heap.size, 3, none⟩) (World.block_lt_of_cell? _ _ c3)).trans c3
        have p4 := (hb2.cell (p := ⟨w.heap.size, 4, none⟩) (World.block_lt_of_cell? _ _ c4)).trans c4
        clear hb2 HB
        go_wp2
        exact bodyPost_ret (v := .bool false) (by simp [results, Tryz.results180, go_sem]) rfl ⟨rfl, HB2.out⟩
  have f1 : (k == 1) = false := by simpa using hk1
  have f3 : (k == 3) = false := by simpa using hk3
  have f4 : (k == 4) = false := by simpa using hk4
  have f5 : (k == 5) = false := by simpa using hk5
  clear hk1 hk3 hk4 hk5
  cases H with
  | false =>
    obtain rfl : R = false := by rw [HR.out]; simp_all
    clear HR
    go_enter Tryz.func180, Tryz.ntmps180
    go_wp2_with fail
    go_quiet (fail)
    go_wp2_with fail
    refine (ch _).mono ?_
    clear ch
    rintro e w2 ⟨rfl, hb2⟩
    have HB2 : Hid (Below w.heap.size w w2) := below_via' (HB.out _) hb2
    have p2 := (hb2.cell (p := ⟨w.heap.size, 1, none⟩) (World.block_lt_of_cell? _ _ c1)).trans c1
    have p3 := (hb2.cell (p := ⟨w.heap.size, 3, none⟩) (World.block_lt_of_cell? _ _ c3)).trans c3
    have p4 := (hb2.cell (p := ⟨w.heap.size, 4, none⟩) (World.block_lt_of_cell? _ _ c4)).trans c4
    clear hb2 HB
    go_wp2
    exact bodyPost_ret (v := .bool false) (by simp [results, Tryz.results180, go_sem]) rfl ⟨rfl, HB2.out⟩
  | true =>
    by_cases hs : s = []
    · subst hs
      by_cases hmb : mb = 0
      · subst hmb
        by_cases hml : ml = 0
        · subst hml
          obtain rfl : R = true := by rw [HR.out]; simp_all
          clear HR
          go_enter Tryz.func180, Tryz.ntmps180
          go_wp2_with fail
          go_quiet (fail)
          go_wp2_with fail
          refine (ch _).mono ?_
          clear ch
          rintro e w2 ⟨rfl, hb2⟩
          have HB2 : Hid (Below w.heap.size w w2) := below_via' (HB.out _) hb2
          have p2 := (hb2.cell (p := ⟨w.heap.size, 1, none⟩) (World.block_lt_of_cell? _ _ c1)).trans c1
          have p3 := (hb2.cell (p := ⟨w.heap.size, 3, none⟩) (World.block_lt_of_cell? _ _ c3)).trans c3
          have p4 := (hb2.cell (p := ⟨w.heap.size, 4, none⟩) (World.block_lt_of_cell? _ _ c4)).trans c4
          clear hb2 HB
          go_wp2
          exact bodyPost_ret (v := .bool true) (by simp [results, Tryz.results180, go_sem]) rfl ⟨rfl, HB2.out⟩
        · have hmlI : ((ml : Int) == 0) = false := by rw [beq_eq_false_iff_ne]; omega
          have hmlN : (ml == 0) = false := by rw [beq_eq_false_iff_ne]; exact hml
          obtain rfl : R = false := by rw [HR.out]; simp_all
          clear HR
          go_enter Tryz.func180, Tryz.ntmps180
          go_wp2_with fail
          go_quiet (fail)
          go_wp2_with fail
          refine (ch _).mono ?_
          clear ch
          rintro e w2 ⟨rfl, hb2⟩
          have HB2 : Hid (Below w.heap.size w w2) := below_via' (HB.out _) hb2
          have p2 := (hb2.cell (p := ⟨w.heap.size, 1, none⟩) (World.block_lt_of_cell? _ _ c1)).trans c1
          have p3 := (hb2.cell (p := ⟨w.heap.size, 3, none⟩) (World.block_lt_of_cell? _ _ c3)).trans c3
          have p4 := (hb2.cell (p := ⟨w.heap.size, 4, none⟩) (World.block_lt_of_cell? _ _ c4)).trans c4
          clear hb2 HB
          go_wp2
          exact bodyPost_ret (v := .bool false) (by simp [results, Tryz.results180, go_sem]) rfl ⟨rfl, HB2.out⟩
      · have hmbI : ((mb : Int) == 0) = false := by rw [beq_eq_false_iff_ne]; omega
        have hmbN : (mb == 0) = false := by rw [beq_eq_false_iff_ne]; exact hmb
        obtain rfl : R = false := by rw [HR.out]; simp_all
        clear HR
        go_enter Tryz.func180, Tryz.ntmps180
        go_wp2_with fail
        go_quiet (fail)
        go_wp2_with fail
        refine (ch _).mono ?_
        clear ch
        rintro e w2 ⟨rfl, hb2⟩
        have HB2 : Hid (Below w.heap.size w w2) := below_via' (HB.out _) hb2
        have p2 := (hb2.cell (p := ⟨w.heap.size, 1, none⟩) (World.block_lt_of_cell? _ _ c1)).trans c1
        have p3 := (hb2.cell (p := ⟨w.heap.size, 3, none⟩) (World.block_lt_of_cell? _ _ c3)).trans c3
        have p4 := (hb2.cell (p := ⟨w.heap.size, 4, none⟩) (World.block_lt_of_cell? _ _ c4)).trans c4
        clear hb2 HB
        go_wp2
        exact bodyPost_ret (v := .bool false) (by simp [results, Tryz.results180, go_sem]) rfl ⟨rfl, HB2.out⟩
    · have hs1 : (s == []) = false := by simpa using hs
      obtain rfl : R = false := by rw [HR.out]; simp_all
      clear HR
      go_enter Tryz.func180, Tryz.ntmps180
      go_wp2_with fail
      go_quiet (fail)
      go_wp2_with fail
      refine (ch _).mono ?_
      clear ch
      rintro e w2 ⟨rfl, hb2⟩
      have HB2 : Hid (Below w.heap.size w w2) := below_via' (HB.out _) hb2
      have p2 := (hb2.cell (p := ⟨w.heap.size, 1, none⟩) (World.block_lt_of_cell? _ _ c1)).trans c1
      have p3 := (hb2.cell (p := ⟨w.heap.size, 3, none⟩) (World.block_lt_of_cell? _ _ c3)).trans c3
      have p4 := (hb2.cell (p := ⟨w.heap.size, 4, none⟩) (World.block_lt_of_cell? _ _ c4)).trans c4
      clear hb2 HB
      go_wp2
      exact bodyPost_ret (v := .bool false) (by simp [results, Tryz.results180, go_sem]) rfl ⟨rfl, HB2.out⟩
end Go.Proofs.YtghhamgealkodaaGreatDoor
/- syntax: what a statement does with its expressions. -/
namespace Go.Proofs.YtghhamgealkodaaGreatDoor
open Go.RowKit Go.Shelf

/-- The beginning of a region that may panic. -/
theorem mix_beginP {P : Program} {l : List Oper} {Q : Exit → Act → World → Prop} {S : World → Prop} {id : Nat} {a : Act} {w : World} {n : Nat} {listed : Array Bool} (hm : P.follows .mixedOrders = true) (hn : n = l.length) (hL : listed = Array.replicate n false)
    (h : wpAnyH P .any l.toArray Q S n listed a w.drew) : (Code.region id l.toArray true).wp P Q a w := by
  subst hn hL
  refine wp_region_held (S := S) hm ?_
  rw [show l.toArray.size = l.length by simp]
  exact h
theorem mix_doneP {P : Program} {md : Region.Mode} {l : List Oper} {Q : Exit → Act → World → Prop} {S : World → Prop} {listed : Array Bool} {fuel : Nat} {a : Act} {w : World} (hr : Region.ready md l.toArray listed = []) (h : Q .normal a w) : wpAnyH P md l.toArray Q S fuel listed a w :=
  wpAnyH_done hr h _

set_option maxRecDepth 100000 in
set_option maxHeartbeats 8000000 in
theorem stmt1_any (w0 : World) (d : Nat) (D : Int) (hD : D - 1 = (d : Int)) (_hD1 : 1 ≤ D) (hD2 : D ≤ 24) (hX : ExprW w0 d) (i : Nat) (x : Ez) (b o : Nat) (a1 : Int) (a2 : List UInt8) (a3 : Int) (a4 : Option Addr) (a5 a6 : Nat) (a7 : Int) (hx : EzIn w0.heap.size w0 x (ezV a1 a2 a3 a4 a5 a6 a7)) (hkid : KidAt w0 b (o + i * 5) a1 a2 a3 a4 a5 a6 a7)
    (bw bs bd r : Nat) (me ce : Nat) (hi : i < me) (_hme : me ≤ 140737488355328) (q : Option Nat) (t : List UInt8) (w : World) (h : WrT w0 r q t w) (hcw : w.cell? ⟨bw, 0, none⟩ = some (.pointer (some ⟨r, 0, none⟩))) (hcs : w.cell? ⟨bs, 2, none⟩ = some (.slice (some ⟨b, o, none⟩) me ce)) (hcd : w.cell? ⟨bd, 0, none⟩ = some (.int .i64 D)) (hne : ∀ k, k = bw ∨ k = bs ∨ k = bd → k ≠ r ∧ q ≠ some k) :
    Calls Tryz.prog 181 #[.int .i64 (i : Int), .pointer (some ⟨bw, 0, none⟩), .pointer (some ⟨bs, 0, none⟩), .pointer (some ⟨bd, 0, none⟩)] w (PostO w0 r q t w (prE d x)) := by
  obtain ⟨n0, n1, n2, n3, n4⟩ := hkid.now h.env
  have lw : bw < w.heap.size := World.block_lt_of_cell? w _ hcw
  have ls : bs < w.heap.size := World.block_lt_of_cell? w _ hcs
  have ld : bd < w.heap.size := World.block_lt_of_cell? w _ hcd
  have hBd : Below w.heap.size w w.drew := (Below.refl _ _).drew
  have CX := hX _ _ r q t w.drew hx (h.below hBd)
  have HTO : Hid (∀ q4 w4, WrTo r q w.drew q4 w4 → WrTo r q w q4 w4) := fun q4 w4 h4 => (WrTo.below hBd).trans h4
  have HKI : Hid (KidAt w0 b (o + i * 5) a1 a2 a3 a4 a5 a6 a7) := hkid
  have HKP : Hid (∀ q4 w4 p v, WrTo r q w q4 w4 → (p.block = bw ∨ p.block = bs ∨ p.block = bd) → w.cell? p = some v → w4.cell? p = some v) := fun q4 w4 p v h4 hp hv => by
    rw [World.cell?_of_block (h4.block p.block (by rcases hp with e | e | e <;> rw [e] <;> assumption) (hne _ hp).1 (hne _ hp).2)]
    exact hv
  generalize prE d x = X at *
  have hi' : (i : Int) < (me : Int) := by omega
  have hi0 : (0 : Int) ≤ (i : Int) := by omega
  have HS : Hid (∃ c : ClsP (fun W => W.cell? ⟨bw, 0, none⟩ = some (.pointer (some ⟨r, 0, none⟩)) ∧ W.cell? ⟨bs, 2, none⟩ = some (.slice (some ⟨b, o, none⟩) me ce) ∧ W.cell? ⟨bd, 0, none⟩ = some (.int .i64 D) ∧ W.cell? ⟨b, o + i * 5, none⟩ = some (.int .i64 a1) ∧ W.cell? ⟨b, o + i * 5 + 1, none⟩ = some (.string (strB a2)) ∧ W.cell? ⟨b, o + i * 5 + 2, none⟩ = some (.int .i64 a3) ∧ W.cell? ⟨b, o + i * 5 + 3, none⟩ = some (.slice a4 a5 a6) ∧ W.cell? ⟨b, o + i * 5 + 4, none⟩ = some (.int .i64 a7)), w.drew = c.1) := ⟨⟨w.drew, hcw, hcs, hcd, n0, n1, n2, n3, n4⟩, rfl⟩
  have HS2 : Hid (∀ q4 t4 w4, WrTo r q w q4 w4 → WrT w0 r q4 t4 w4 → ∃ c : ClsP (fun W => W.cell? ⟨bw, 0, none⟩ = some (.pointer (some ⟨r, 0, none⟩)) ∧ W.cell? ⟨bs, 2, none⟩ = some (.slice (some ⟨b, o, none⟩) me ce) ∧ W.cell? ⟨bd, 0, none⟩ = some (.int .i64 D) ∧ W.cell? ⟨b, o + i * 5, none⟩ = some (.int .i64 a1) ∧ W.cell? ⟨b, o + i * 5 + 1, none⟩ = some (.string (strB a2)) ∧ W.cell? ⟨b, o + i * 5 + 2, none⟩ = some (.int .i64 a3) ∧ W.cell? ⟨b, o + i * 5 + 3, none⟩ = some (.slice a4 a5 a6) ∧ W.cell? ⟨b, o + i * 5 + 4, none⟩ = some (.int .i64 a7)), w4 = c.1) := fun q4 t4 w4 h4 hw4 => by
    obtain ⟨m0, m1, m2, m3, m4⟩ := hkid.now hw4.env
    exact ⟨⟨w4, HKP.out q4 w4 _ _ h4 (.inl rfl) hcw, HKP.out q4 w4 _ _ h4 (.inr (.inl rfl)) hcs, HKP.out q4 w4 _ _ h4 (.inr (.inr rfl)) hcd, m0, m1, m2, m3, m4⟩, rfl⟩
  clear hx hkid h hX hBd hne n0 n1 n2 n3 n4 hcw hcs hcd
  go_enter Tryz.func181, Tryz.ntmps181
  go_wp2_with fail
  have z1 : ∀ c : ClsP (fun W => W.cell? ⟨bw, 0, none⟩ = some (.pointer (some ⟨r, 0, none⟩)) ∧ W.cell? ⟨bs, 2, none⟩ = some (.slice (some ⟨b, o, none⟩) me ce) ∧ W.cell? ⟨bd, 0, none⟩ = some (.int .i64 D) ∧ W.cell? ⟨b, o + i * 5, none⟩ = some (.int .i64 a1) ∧ W.cell? ⟨b, o + i * 5 + 1, none⟩ = some (.string (strB a2)) ∧ W.cell? ⟨b, o + i * 5 + 2, none⟩ = some (.int .i64 a3) ∧ W.cell? ⟨b, o + i * 5 + 3, none⟩ = some (.slice a4 a5 a6) ∧ W.cell? ⟨b, o + i * 5 + 4, none⟩ = some (.int .i64 a7)), c.1.cell? ⟨bw, 0, none⟩ = some (.pointer (some ⟨r, 0, none⟩)) := fun c => c.2.1
  have z2 : ∀ c : ClsP (fun W => W.cell? ⟨bw, 0, none⟩ = some (.pointer (some ⟨r, 0, none⟩)) ∧ W.cell? ⟨bs, 2, none⟩ = some (.slice (some ⟨b, o, none⟩) me ce) ∧ W.cell? ⟨bd, 0, none⟩ = some (.int .i64 D) ∧ W.cell? ⟨b, o + i * 5, none⟩ = some (.int .i64 a1) ∧ W.cell? ⟨b, o + i * 5 + 1, none⟩ = some (.string (strB a2)) ∧ W.cell? ⟨b, o + i * 5 + 2, none⟩ = some (.int .i64 a3) ∧ W.cell? ⟨b, o + i * 5 + 3, none⟩ = some (.slice a4 a5 a6) ∧ W.cell? ⟨b, o + i * 5 + 4, none⟩ = some (.int .i64 a7)), c.1.cell? ⟨bs, 2, none⟩ = some (.slice (some ⟨b, o, none⟩) me ce) := fun c => c.2.2.1
  have z3 : ∀ c : ClsP (fun W => W.cell? ⟨bw, 0, none⟩ = some (.pointer (some ⟨r, 0, none⟩)) ∧ W.cell? ⟨bs, 2, none⟩ = some (.slice (some ⟨b, o, none⟩) me ce) ∧ W.cell? ⟨bd, 0, none⟩ = some (.int .i64 D) ∧ W.cell? ⟨b, o + i * 5, none⟩ = some (.int .i64 a1) ∧ W.cell? ⟨b, o + i * 5 + 1, none⟩ = some (.string (strB a2)) ∧ W.cell? ⟨b, o + i * 5 + 2, none⟩ = some (.int .i64 a3) ∧ W.cell? ⟨b, o + i * 5 + 3, none⟩ = some (.slice a4 a5 a6) ∧ W.cell? ⟨b, o + i * 5 + 4, none⟩ = some (.int .i64 a7)), c.1.cell? ⟨bd, 0, none⟩ = some (.int .i64 D) := fun c => c.2.2.2.1
  have y0 : ∀ c : ClsP (fun W => W.cell? ⟨bw, 0, none⟩ = some (.pointer (some ⟨r, 0, none⟩)) ∧ W.cell? ⟨bs, 2, none⟩ = some (.slice (some ⟨b, o, none⟩) me ce) ∧ W.cell? ⟨bd, 0, none⟩ = some (.int .i64 D) ∧ W.cell? ⟨b, o + i * 5, none⟩ = some (.int .i64 a1) ∧ W.cell? ⟨b, o + i * 5 + 1, none⟩ = some (.string (strB a2)) ∧ W.cell? ⟨b, o + i * 5 + 2, none⟩ = some (.int .i64 a3) ∧ W.cell? ⟨b, o + i * 5 + 3, none⟩ = some (.slice a4 a5 a6) ∧ W.cell? ⟨b, o + i * 5 + 4, none⟩ = some (.int .i64 a7)), c.1.cell? ⟨b, o + i * 5, none⟩ = some (.int .i64 a1) := fun c => c.2.2.2.2.1
  have y1 : ∀ c : ClsP (fun W => W.cell? ⟨bw, 0, none⟩ = some (.pointer (some ⟨r, 0, none⟩)) ∧ W.cell? ⟨bs, 2, none⟩ = some (.slice (some ⟨b, o, none⟩) me ce) ∧ W.cell? ⟨bd, 0, none⟩ = some (.int .i64 D) ∧ W.cell? ⟨b, o + i * 5, none⟩ = some (.int .i64 a1) ∧ W.cell? ⟨b, o + i * 5 + 1, none⟩ = some (.string (strB a2)) ∧ W.cell? ⟨b, o + i * 5 + 2, none⟩ = some (.int .i64 a3) ∧ W.cell? ⟨b, o + i * 5 + 3, none⟩ = some (.slice a4 a5 a6) ∧ W.cell? ⟨b, o + i * 5 + 4, none⟩ = some (.int .i64 a7)), c.1.cell? ⟨b, o + i * 5 + 1, none⟩ = some (.string (strB a2)) := fun c => c.2.2.2.2.2.1
  have y2 : ∀ c : ClsP (fun W => W.cell? ⟨bw, 0, none⟩ = some (.pointer (some ⟨r, 0, none⟩)) ∧ W.cell? ⟨bs, 2, none⟩ = some (.slice (some ⟨b, o, none⟩) me ce) ∧ W.cell? ⟨bd, 0, none⟩ = some (.int .i64 D) ∧ W.cell? ⟨b, o + i * 5, none⟩ = some (.int .i64 a1) ∧ W.cell? ⟨b, o + i * 5 + 1, none⟩ = some (.string (strB a2)) ∧ W.cell? ⟨b, o + i * 5 + 2, none⟩ = some (.int .i64 a3) ∧ W.cell? ⟨b, o + i * 5 + 3, none⟩ = some (.slice a4 a5 a6) ∧ W.cell? ⟨b, o + i * 5 + 4, none⟩ = some (.int .i64 a7)), c.1.cell? ⟨b, o + i * 5 + 2, none⟩ = some (.int .i64 a3) := fun c => c.2.2.2.2.2.2.1
  have y3 : ∀ c : ClsP (fun W => W.cell? ⟨bw, 0, none⟩ = some (.pointer (some ⟨r, 0, none⟩)) ∧ W.cell? ⟨bs, 2, none⟩ = some (.slice (some ⟨b, o, none⟩) me ce) ∧ W.cell? ⟨bd, 0, none⟩ = some (.int .i64 D) ∧ W.cell? ⟨b, o + i * 5, none⟩ = some (.int .i64 a1) ∧ W.cell? ⟨b, o + i * 5 + 1, none⟩ = some (.string (strB a2)) ∧ W.cell? ⟨b, o + i * 5 + 2, none⟩ = some (.int .i64 a3) ∧ W.cell? ⟨b, o + i * 5 + 3, none⟩ = some (.slice a4 a5 a6) ∧ W.cell? ⟨b, o + i * 5 + 4, none⟩ = some (.int .i64 a7)), c.1.cell? ⟨b, o + i * 5 + 3, none⟩ = some (.slice a4 a5 a6) := fun c => c.2.2.2.2.2.2.2.1
  have y4 : ∀ c : ClsP (fun W => W.cell? ⟨bw, 0, none⟩ = some (.pointer (some ⟨r, 0, none⟩)) ∧ W.cell? ⟨bs, 2, none⟩ = some (.slice (some ⟨b, o, none⟩) me ce) ∧ W.cell? ⟨bd, 0, none⟩ = some (.int .i64 D) ∧ W.cell? ⟨b, o + i * 5, none⟩ = some (.int .i64 a1) ∧ W.cell? ⟨b, o + i * 5 + 1, none⟩ = some (.string (strB a2)) ∧ W.cell? ⟨b, o + i * 5 + 2, none⟩ = some (.int .i64 a3) ∧ W.cell? ⟨b, o + i * 5 + 3, none⟩ = some (.slice a4 a5 a6) ∧ W.cell? ⟨b, o + i * 5 + 4, none⟩ = some (.int .i64 a7)), c.1.cell? ⟨b, o + i * 5 + 4, none⟩ = some (.int .i64 a7) := fun c => c.2.2.2.2.2.2.2.2
  refine mix_beginP (n := 9) (S := fun w' => ∃ c : ClsP (fun W => W.cell? ⟨bw, 0, none⟩ = some (.pointer (some ⟨r, 0, none⟩)) ∧ W.cell? ⟨bs, 2, none⟩ = some (.slice (some ⟨b, o, none⟩) me ce) ∧ W.cell? ⟨bd, 0, none⟩ = some (.int .i64 D) ∧ W.cell? ⟨b, o + i * 5, none⟩ = some (.int .i64 a1) ∧ W.cell? ⟨b, o + i * 5 + 1, none⟩ = some (.string (strB a2)) ∧ W.cell? ⟨b, o + i * 5 + 2, none⟩ = some (.int .i64 a3) ∧ W.cell? ⟨b, o + i * 5 + 3, none⟩ = some (.slice a4 a5 a6) ∧ W.cell? ⟨b, o + i * 5 + 4, none⟩ = some (.int .i64 a7)), w' = c.1) (by kernel_rfl) rfl rfl ?_
  refine mix_seg (fuel := 1) (fuel' := 9) (idx := [0, 1, 2, 3, 4, 5, 6, 7]) (by decide +kernel) rfl rfl rfl (fun _ _ d _ _ h => by cases d <;> exact h) HS.out ?_
  show wpQuiet _ _ _ _ [_, _, _, _, _, _, _, _] _
  iterate 8 (go_big_quiet_step (exact rfl))
  refine wpQuiet_nil ?_
  refine mix_loud (fuel := 0) (fuel' := 1) (i := 8) rfl (by decide +kernel) rfl rfl (by rfl) ?_
  intro K hK
  go_simp
  refine CX.mono ?_
  clear CX
  rintro e w4 ⟨q4, hto4, hp4⟩
  cases X with
  | none => subst hp4; exact ⟨rfl, q4, HTO.out _ _ hto4, rfl⟩
  | some u =>
    obtain ⟨rfl, hw4⟩ := hp4
    have HP : Hid (PostO w0 r q t w (some u) (.returned (.tuple #[])) w4) := ⟨q4, HTO.out _ _ hto4, rfl, hw4⟩
    (try go_simp)
    refine hK.out _ _ (HS2.out q4 _ w4 (HTO.out _ _ hto4) hw4) ?_
    clear hK K hto4 hw4 HS HS2 HKP HTO HKI z1 z2 z3 y0 y1 y2 y3 y4
    refine mix_doneP (by decide +kernel) ?_
    go_wp2
    exact bodyPost_ret (v := .tuple #[]) (by simp [results, Tryz.results181, go_sem]) rfl HP.out
end Go.Proofs.YtghhamgealkodaaGreatDoor
