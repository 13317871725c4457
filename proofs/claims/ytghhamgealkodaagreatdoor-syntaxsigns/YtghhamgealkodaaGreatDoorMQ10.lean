import Derived.Test.YtghhamgealkodaaGreatDoorMQ9
import Derived.Test.YtghhamgealkodaaGreatDoorMQ6
/- syntax: any statement, function and program, and how they are written. -/
namespace Go.Proofs.YtghhamgealkodaaGreatDoor
open Go.RowKit Go.Shelf

/-- A row of things of sz cells each, as it lies, in a block below B. -/
def RowZ {α : Type} (P : α → List Value → Prop) (sz B : Nat) (w : World) (l : List α) (base : Option Addr) (m cap : Nat) : Prop :=
  m = l.length ∧ l.length ≤ cap ∧ cap ≤ maxLen ∧ ∀ i x, l[i]? = some x → ∃ b o c, base = some ⟨b, o, none⟩ ∧ b < B ∧ b < w.heap.size ∧ c.length = sz ∧ P x c ∧ ∀ j u, c[j]? = some u → w.cell? ⟨b, o + i * sz + j, none⟩ = some u
theorem RowZ.kept {α : Type} {P P' : α → List Value → Prop} {sz B : Nat} {w w' : World} {l : List α} {base : Option Addr} {m cap : Nat} (h : RowZ P sz B w l base m cap) (hb : Below B w w') (hP : ∀ x c, P x c → P' x c) : RowZ P' sz B w' l base m cap := by
  obtain ⟨h1, h2, h3, h4⟩ := h
  refine ⟨h1, h2, h3, fun i x hx => ?_⟩
  obtain ⟨b, o, c, e, hB, hlt, hc, hp, hcell⟩ := h4 i x hx
  exact ⟨b, o, c, e, hB, Nat.lt_of_lt_of_le hlt hb.size, hc, hP x c hp, fun j u hj => by rw [World.cell?_of_block (hb.block b hB)]; exact hcell j u hj⟩
theorem RowZ.wide {α : Type} {P P' : α → List Value → Prop} {sz B B' : Nat} {w : World} {l : List α} {base : Option Addr} {m cap : Nat} (h : RowZ P sz B w l base m cap) (hB : B ≤ B') (hP : ∀ x c, P x c → P' x c) : RowZ P' sz B' w l base m cap := by
  obtain ⟨h1, h2, h3, h4⟩ := h
  refine ⟨h1, h2, h3, fun i x hx => ?_⟩
  obtain ⟨b, o, c, e, hb, hlt, hc, hp, hcell⟩ := h4 i x hx
  exact ⟨b, o, c, e, Nat.lt_of_lt_of_le hb hB, hlt, hc, hP x c hp, hcell⟩

/-- Any statement. -/
inductive Sz where
  | mk (k : Int) (s : List UInt8) (es : List Ez) (body els : List Sz) (line : Int)
abbrev EzC (B : Nat) (w : World) (x : Ez) (c : List Value) : Prop := EzIn B w x (.agg c.toArray)
/-- The cells c read in the world w as this statement, which is less than f deep; its rows lie in blocks below B. -/
def SzIn (B : Nat) (w : World) : Nat → Sz → List Value → Prop
  | 0, _, _ => False
  | f + 1, .mk k s es body els line, c => ∃ be me ce bb mb cb bl ml cl, c = [.int .i64 k, .string (strB s), .slice be me ce, .slice bb mb cb, .slice bl ml cl, .int .i64 line] ∧ s.length ≤ 100000000 ∧ RowZ (EzC B w) 5 B w es be me ce ∧ RowZ (SzIn B w f) 6 B w body bb mb cb ∧ RowZ (SzIn B w f) 6 B w els bl ml cl
theorem SzIn.kept {B : Nat} {w w' : World} (hb : Below B w w') : ∀ (f : Nat) (x : Sz) (c : List Value), SzIn B w f x c → SzIn B w' f x c
  | 0, _, _, h => h.elim
  | f + 1, .mk k s es body els line, c, h => by
    obtain ⟨be, me, ce, bb, mb, cb, bl, ml, cl, h1, h2, h3, h4, h5⟩ := h
    exact ⟨be, me, ce, bb, mb, cb, bl, ml, cl, h1, h2, h3.kept hb fun x c h => EzIn.kept h hb, h4.kept hb (SzIn.kept hb f), h5.kept hb (SzIn.kept hb f)⟩
theorem SzIn.wide {B B' : Nat} {w : World} (hB : B ≤ B') : ∀ (f : Nat) (x : Sz) (c : List Value), SzIn B w f x c → SzIn B' w f x c
  | 0, _, _, h => h.elim
  | f + 1, .mk k s es body els line, c, h => by
    obtain ⟨be, me, ce, bb, mb, cb, bl, ml, cl, h1, h2, h3, h4, h5⟩ := h
    exact ⟨be, me, ce, bb, mb, cb, bl, ml, cl, h1, h2, h3.wide hB fun x c h => EzIn.wide h hB, h4.wide hB (SzIn.wide hB f), h5.wide hB (SzIn.wide hB f)⟩

/-- A name and a type, as cells. -/
abbrev PmZ (x : List UInt8 × List UInt8) (c : List Value) : Prop := c = [.string (strB x.1), .string (strB x.2)] ∧ x.1.length ≤ 100000000 ∧ x.2.length ≤ 100000000
/-- Any record, function, program. -/
structure Rz where
  name : List UInt8
  fields : List (List UInt8 × List UInt8)
  line : Int
structure Fz where
  name : List UInt8
  params : List (List UInt8 × List UInt8)
  result : List UInt8
  body : List Sz
  line : Int
structure Pz where
  recs : List Rz
  funs : List Fz
def RzIn (B : Nat) (w : World) (x : Rz) (c : List Value) : Prop := ∃ b m cap, c = [.string (strB x.name), .slice b m cap, .int .i64 x.line] ∧ x.name.length ≤ 100000000 ∧ RowZ PmZ 2 B w x.fields b m cap
def FzIn (B : Nat) (w : World) (f : Nat) (x : Fz) (c : List Value) : Prop := ∃ b m cap b2 m2 cap2, c = [.string (strB x.name), .slice b m cap, .string (strB x.result), .slice b2 m2 cap2, .int .i64 x.line] ∧ x.name.length ≤ 100000000 ∧ x.result.length ≤ 100000000 ∧ RowZ PmZ 2 B w x.params b m cap ∧ RowZ (SzIn B w f) 6 B w x.body b2 m2 cap2
def PzIn (B : Nat) (w : World) (f : Nat) (x : Pz) (v : Value) : Prop := ∃ b m cap b2 m2 cap2, v = .agg #[.slice b m cap, .slice b2 m2 cap2] ∧ RowZ (RzIn B w) 3 B w x.recs b m cap ∧ RowZ (FzIn B w f) 5 B w x.funs b2 m2 cap2
theorem RzIn.kept {B : Nat} {w w' : World} (hb : Below B w w') (x : Rz) (c : List Value) (h : RzIn B w x c) : RzIn B w' x c := by
  obtain ⟨b, m, cap, h1, h2, h3⟩ := h
  exact ⟨b, m, cap, h1, h2, h3.kept hb fun _ _ h => h⟩
theorem RzIn.wide {B B' : Nat} {w : World} (hB : B ≤ B') (x : Rz) (c : List Value) (h : RzIn B w x c) : RzIn B' w x c := by
  obtain ⟨b, m, cap, h1, h2, h3⟩ := h
  exact ⟨b, m, cap, h1, h2, h3.wide hB fun _ _ h => h⟩
theorem FzIn.kept {B : Nat} {w w' : World} (hb : Below B w w') (f : Nat) (x : Fz) (c : List Value) (h : FzIn B w f x c) : FzIn B w' f x c := by
  obtain ⟨b, m, cap, b2, m2, cap2, h1, h2, h3, h4, h5⟩ := h
  exact ⟨b, m, cap, b2, m2, cap2, h1, h2, h3, h4.kept hb fun _ _ h => h, h5.kept hb (SzIn.kept hb f)⟩
theorem FzIn.wide {B B' : Nat} {w : World} (hB : B ≤ B') (f : Nat) (x : Fz) (c : List Value) (h : FzIn B w f x c) : FzIn B' w f x c := by
  obtain ⟨b, m, cap, b2, m2, cap2, h1, h2, h3, h4, h5⟩ := h
  exact ⟨b, m, cap, b2, m2, cap2, h1, h2, h3, h4.wide hB fun _ _ h => h, h5.wide hB (SzIn.wide hB f)⟩
theorem PzIn.kept {B : Nat} {w w' : World} (hb : Below B w w') {f : Nat} {x : Pz} {v : Value} (h : PzIn B w f x v) : PzIn B w' f x v := by
  obtain ⟨b, m, cap, b2, m2, cap2, h1, h2, h3⟩ := h
  exact ⟨b, m, cap, b2, m2, cap2, h1, h2.kept hb (RzIn.kept hb), h3.kept hb (FzIn.kept hb f)⟩
theorem PzIn.wide {B B' : Nat} {w : World} (hB : B ≤ B') {f : Nat} {x : Pz} {v : Value} (h : PzIn B w f x v) : PzIn B' w f x v := by
  obtain ⟨b, m, cap, b2, m2, cap2, h1, h2, h3⟩ := h
  exact ⟨b, m, cap, b2, m2, cap2, h1, h2.wide hB (RzIn.wide hB), h3.wide hB (FzIn.wide hB f)⟩

/-- The first i, one behind the other. -/
def catO (l : List (Option (List UInt8))) : Nat → Option (List UInt8)
  | 0 => some []
  | i + 1 => thenO (catO l i) ((l[i]?).getD none)
theorem catO_none (l : List (Option (List UInt8))) {i : Nat} (h : catO l i = none) : ∀ k, catO l (i + k) = none
  | 0 => h
  | k + 1 => by
    show catO l (i + k + 1) = none
    rw [catO, catO_none l h k]; rfl
theorem catO_stop (l : List (Option (List UInt8))) {i m : Nat} (hi : i < m) (h : (l[i]?).getD none = none) : catO l m = none := by
  have h1 : catO l (i + 1) = none := by
    rw [catO, h]
    cases catO l i <;> rfl
  have := catO_none l h1 (m - (i + 1))
  rwa [show i + 1 + (m - (i + 1)) = m by omega] at this

/-- An expression's kind; may it stand ahead of = ? -/
def kindZ : Ez → Int | .mk k _ _ _ _ => k
def placeZ (x : Ez) : Bool := kindZ x == 4 || kindZ x == 8 || kindZ x == 9
/-- Has a statement the expressions that its kind has? -/
def hasX (k : Int) (es : List Ez) : Bool :=
  if k = 1 ∨ k = 3 ∨ k = 4 ∨ k = 5 ∨ k = 7 then es.length == 1
  else if k = 2 then (match es with | [a, _] => placeZ a | _ => false)
  else if k = 6 then decide (es.length ≤ 1)
  else false
/-- Has a statement what its kind has, and nothing else? -/
def isSt (k : Int) (s : List UInt8) (es : List Ez) (mb ml : Nat) : Bool :=
  hasX k es && (k == 1 || s == []) && (k == 4 || k == 3 || k == 5 || mb == 0) && (k == 4 || ml == 0)
/-- A block. -/
def blkO (f : Sz → Option (List UInt8)) (l : List Sz) : Option (List UInt8) := thenO (some [123, 10]) (thenO (catO (l.map f) l.length) (some [125]))
/-- What statement writes of one that may be so deep. -/
def prS : Nat → Sz → Option (List UInt8)
  | 0, _ => none
  | d + 1, .mk k s es body els _ =>
    if isSt k s es body.length els.length = true then
      if k = 1 then match es with
        | a :: _ => thenO (some [108, 101, 116, 32]) (thenO (tokO 1 0 s) (thenO (some [32, 61, 32]) (thenO (prE d a) (some [59, 10]))))
        | _ => none
      else if k = 2 then match es with
        | a :: b :: _ => thenO (prE d a) (thenO (some [32, 61, 32]) (thenO (prE d b) (some [59, 10])))
        | _ => none
      else if k = 6 then match es with
        | [] => thenO (some [114, 101, 116, 117, 114, 110]) (some [59, 10])
        | a :: _ => thenO (some [114, 101, 116, 117, 114, 110]) (thenO (some [32]) (thenO (prE d a) (some [59, 10])))
      else if k = 7 then match es with
        | a :: _ => thenO (prE d a) (some [59, 10])
        | _ => none
      else if k = 4 then match es with
        | a :: _ => thenO (some [105, 102, 32]) (thenO (prE d a) (thenO (some [32]) (thenO (blkO (prS d) body) (thenO (some [32, 101, 108, 115, 101, 32]) (thenO (blkO (prS d) els) (some [10]))))))
        | _ => none
      else match es with
        | a :: _ => thenO (some (if k = 5 then [119, 104, 105, 108, 101, 32] else [105, 102, 32])) (thenO (prE d a) (thenO (some [32]) (thenO (blkO (prS d) body) (some [10]))))
        | _ => none
    else none
/-- What function, program write. -/
def funO (x : Fz) : Option (List UInt8) := thenO (some [102, 110, 32]) (thenO (tokO 1 0 x.name) (thenO (some [40]) (thenO (rowO (x.params.map parO) x.params.length) (thenO (some [41]) (thenO (if x.result = [] then some [] else thenO (some [58, 32]) (typeO x.result)) (thenO (some [32]) (thenO (blkO (prS 24) x.body) (some [10]))))))))
def prgO (x : Pz) : Option (List UInt8) := thenO (catO (x.recs.map fun r => recO r.name r.fields) x.recs.length) (catO (x.funs.map funO) x.funs.length)
end Go.Proofs.YtghhamgealkodaaGreatDoor
/- syntax: how expressions are read, as mathematics. 'none' says that the number of steps does not reach; an error is the byte at which it can't go on. -/
namespace Go.Proofs.YtghhamgealkodaaGreatDoor
open Go.RowKit Go.Shelf

def Ex.line : Ex → Nat | .mk _ _ _ _ l => l
def Ex.kind : Ex → Nat | .mk k _ _ _ _ => k

/-- The token that stands here. -/
def hdT : List Tk → Tk | t :: _ => t | [] => ⟨0, [], 0, 0, 0⟩

/-- What was read, and what is left; or the byte at which it can't go on. -/
abbrev PR (α : Type) := Except Nat (α × List Tk)

def thenP {α β : Type} (x : Option (PR α)) (k : α → List Tk → Option (PR β)) : Option (PR β) :=
  match x with
  | none => none
  | some (.error a) => some (.error a)
  | some (.ok (y, ts)) => k y ts

def needP (s : List UInt8) (ts : List Tk) : Option (PR Unit) := some (if isTk (hdT ts) s = true then .ok ((), ts.tail) else .error (hdT ts).at0)
def nameP (ts : List Tk) : Option (PR (List UInt8)) := some (if (hdT ts).k = 1 then .ok ((hdT ts).s, ts.tail) else .error (hdT ts).at0)

mutual
def pBetween : Nat → Nat → List Tk → Option (PR Ex)
  | 0, _, _ => none
  | f + 1, least, ts => if 6 < least then pUnary f ts else thenP (pBetween f (least + 1) ts) fun e ts => pMore f least e ts
def pMore : Nat → Nat → Ex → List Tk → Option (PR Ex)
  | 0, _, _, _ => none
  | f + 1, least, e, ts => if (hdT ts).k = 4 ∧ levelOf (hdT ts).s = least then thenP (pBetween f (least + 1) ts.tail) fun e2 ts' => pMore f least (.mk 7 (hdT ts).s 0 [e, e2] e.line) ts' else some (.ok (e, ts))
def pUnary : Nat → List Tk → Option (PR Ex)
  | 0, _ => none
  | f + 1, ts => if (hdT ts).k = 4 ∧ ((hdT ts).s = [45] ∨ (hdT ts).s = [33]) then thenP (pUnary f ts.tail) fun e ts' => some (.ok (.mk 6 (hdT ts).s 0 [e] (hdT ts).line, ts')) else thenP (pSingle f ts) fun e ts => pBehind f e ts
def pBehind : Nat → Ex → List Tk → Option (PR Ex)
  | 0, _, _ => none
  | f + 1, e, ts =>
    if isTk (hdT ts) [91] = true then thenP (pBetween f 1 ts.tail) fun i ts => thenP (needP [93] ts) fun _ ts => pBehind f (.mk 8 [] 0 [e, i] e.line) ts
    else if isTk (hdT ts) [46] = true then thenP (nameP ts.tail) fun s ts => pBehind f (.mk 9 s 0 [e] e.line) ts
    else some (.ok (e, ts))
def pSingle : Nat → List Tk → Option (PR Ex)
  | 0, _ => none
  | f + 1, ts =>
    if (hdT ts).k = 2 then some (.ok (.mk 1 [] (hdT ts).n [] (hdT ts).line, ts.tail))
    else if (hdT ts).k = 3 then some (.ok (.mk 3 (hdT ts).s 0 [] (hdT ts).line, ts.tail))
    else if (hdT ts).k = 1 then
      if isTk (hdT ts.tail) [40] = true then thenP (pBrackets f ts.tail) fun l ts' => some (.ok (.mk 5 (hdT ts).s 0 l (hdT ts).line, ts')) else some (.ok (.mk 4 (hdT ts).s 0 [] (hdT ts).line, ts.tail))
    else if isTk (hdT ts) [116, 114, 117, 101] = true then some (.ok (.mk 2 [] 1 [] (hdT ts).line, ts.tail))
    else if isTk (hdT ts) [102, 97, 108, 115, 101] = true then some (.ok (.mk 2 [] 0 [] (hdT ts).line, ts.tail))
    else if isTk (hdT ts) [110, 101, 119] = true then thenP (nameP ts.tail) fun s ts' => thenP (pBrackets f ts') fun l ts' => some (.ok (.mk 11 s 0 l (hdT ts).line, ts'))
    else if isTk (hdT ts) [91] = true then thenP (pRow f [] ts.tail) fun l ts' => thenP (needP [93] ts') fun _ ts' => some (.ok (.mk 10 [] 0 l (hdT ts).line, ts'))
    else thenP (needP [40] ts) fun _ ts => thenP (pBetween f 1 ts) fun e ts => thenP (needP [41] ts) fun _ ts => some (.ok (e, ts))
def pRow : Nat → List Ex → List Tk → Option (PR (List Ex))
  | 0, _, _ => none
  | f + 1, pre, ts => thenP (pBetween f 1 ts) fun e ts => if isTk (hdT ts) [44] = true then pRow f (pre ++ [e]) ts.tail else some (.ok (pre ++ [e], ts))
def pBrackets : Nat → List Tk → Option (PR (List Ex))
  | 0, _ => none
  | f + 1, ts => thenP (needP [40] ts) fun _ ts => if isTk (hdT ts) [41] = true then some (.ok ([], ts.tail)) else thenP (pRow f [] ts) fun l ts => thenP (needP [41] ts) fun _ ts => some (.ok (l, ts))
end

theorem thenP_mono {α β : Type} {x y : Option (PR α)} {k l : α → List Tk → Option (PR β)} {r : PR β} (h : thenP x k = some r) (hx : ∀ r, x = some r → y = some r) (hk : ∀ a ts r, k a ts = some r → l a ts = some r) : thenP y l = some r := by
  unfold thenP at h ⊢
  cases x with
  | none => cases h
  | some x =>
    rw [hx x rfl]
    cases x with
    | error a => exact h
    | ok p => exact hk _ _ _ h

/-- With more steps nothing is read otherwise. -/
theorem parse_mono (f : Nat) :
    (∀ least ts r, pBetween f least ts = some r → pBetween (f + 1) least ts = some r) ∧ (∀ least e ts r, pMore f least e ts = some r → pMore (f + 1) least e ts = some r) ∧
    (∀ ts r, pUnary f ts = some r → pUnary (f + 1) ts = some r) ∧ (∀ e ts r, pBehind f e ts = some r → pBehind (f + 1) e ts = some r) ∧ (∀ ts r, pSingle f ts = some r → pSingle (f + 1) ts = some r) ∧
    (∀ pre ts r, pRow f pre ts = some r → pRow (f + 1) pre ts = some r) ∧ (∀ ts r, pBrackets f ts = some r → pBrackets (f + 1) ts = some r) := by
  induction f with
  | zero => refine ⟨?_, ?_, ?_, ?_, ?_, ?_, ?_⟩ <;> intros <;> rename_i h <;> simp [pBetween, pMore, pUnary, pBehind, pSingle, pRow, pBrackets] at h
  | succ f ih =>
    obtain ⟨i1, i2, i3, i4, i5, i6, i7⟩ := ih
    refine ⟨fun least ts r h => ?_, fun least e ts r h => ?_, fun ts r h => ?_, fun e ts r h => ?_, fun ts r h => ?_, fun pre ts r h => ?_, fun ts r h => ?_⟩
    · rw [pBetween] at h ⊢
      split at h
      · rename_i hc; rw [if_pos hc]; exact i3 _ _ h
      · rename_i hc; rw [if_neg hc]; exact thenP_mono h (i1 _ _) fun a ts r => i2 _ _ _ _
    · rw [pMore] at h ⊢
      split at h
      · rename_i hc; rw [if_pos hc]; exact thenP_mono h (i1 _ _) fun a ts r => i2 _ _ _ _
      · rename_i hc; rw [if_neg hc]; exact h
    · rw [pUnary] at h ⊢
      split at h
      · rename_i hc; rw [if_pos hc]; exact thenP_mono h (i3 _) fun a ts r h => h
      · rename_i hc; rw [if_neg hc]; exact thenP_mono h (i5 _) fun a ts r => i4 _ _ _
    · rw [pBehind] at h ⊢
      split at h
      · rename_i hc; rw [if_pos hc]; exact thenP_mono h (i1 _ _) fun a ts r h => thenP_mono h (fun _ h => h) fun a ts r => i4 _ _ _
      · rename_i hc; rw [if_neg hc]
        split at h
        · rename_i hc; rw [if_pos hc]; exact thenP_mono h (fun _ h => h) fun a ts r => i4 _ _ _
        · rename_i hc; rw [if_neg hc]; exact h
    · rw [pSingle] at h ⊢
      repeat' split at h
      all_goals simp_all only [if_true, if_false, Bool.false_eq_true]
      all_goals first
        | exact h
        | exact thenP_mono h (i7 _) fun a ts r h => h
        | exact thenP_mono h (fun _ h => h) fun a ts r h => thenP_mono h (i7 _) fun a ts r h => h
        | exact thenP_mono h (i6 _ _) fun a ts r h => thenP_mono h (fun _ h => h) fun a ts r h => h
        | exact thenP_mono h (fun _ h => h) fun a ts r h => thenP_mono h (i1 _ _) fun a ts r h => thenP_mono h (fun _ h => h) fun a ts r h => h
    · rw [pRow] at h ⊢
      refine thenP_mono h (i1 _ _) fun a ts r h => ?_
      split at h
      · rename_i hc; rw [if_pos hc]; exact i6 _ _ _ h
      · rename_i hc; rw [if_neg hc]; exact h
    · rw [pBrackets] at h ⊢
      refine thenP_mono h (fun _ h => h) fun a ts r h => ?_
      split at h
      · rename_i hc; rw [if_pos hc]; exact h
      · rename_i hc; rw [if_neg hc]; exact thenP_mono h (i6 _ _) fun a ts r h => h
end Go.Proofs.YtghhamgealkodaaGreatDoor
/- syntax: what a reader's functions leave; names and calls. -/
namespace Go.Proofs.YtghhamgealkodaaGreatDoor
open Go.RowKit Go.Shelf

/-- A name is short. -/
def NmT (t : Tk) : Prop := t.k = 1 → t.s.length ≤ 1099511627776
/-- The last token, and no other, is the end; names are short. -/
def EndsT : List Tk → Prop
  | [] => False
  | [t] => t.k = 0
  | t :: ts => t.k ≠ 0 ∧ NmT t ∧ EndsT ts

theorem EndsT.ne {ts : List Tk} (h : EndsT ts) : ts ≠ [] := by cases ts <;> simp [EndsT] at h ⊢
theorem EndsT.tail {t : Tk} {ts : List Tk} (h : EndsT (t :: ts)) (hk : t.k ≠ 0) : EndsT ts := by
  cases ts with
  | nil => exact absurd h hk
  | cons u us => exact h.2.2
theorem EndsT.names {ts : List Tk} (h : EndsT ts) : ∀ t ∈ ts, NmT t := by
  induction ts with
  | nil => intro t ht; cases ht
  | cons u us ih =>
    intro t ht
    cases us with
    | nil =>
      simp only [List.mem_singleton] at ht
      subst ht
      intro hk
      have h0 : t.k = 0 := h
      omega
    | cons v vs =>
      rcases List.mem_cons.1 ht with rfl | ht
      · exact h.2.1
      · exact ih h.2.2 t ht
theorem isTk_kind {t : Tk} {s : List UInt8} (h : isTk t s = true) : t.k ≠ 0 := by
  unfold isTk at h
  intro hk
  simp [hk] at h
theorem EndsT.cons {ts : List Tk} (h : EndsT ts) : ∃ t us, ts = t :: us := by
  cases ts with
  | nil => exact absurd h (by simp [EndsT])
  | cons t us => exact ⟨t, us, rfl⟩

/-- With the steps of either, what is read is the same. -/
theorem pBetween_up {f k least : Nat} {ts : List Tk} {r : PR Ex} (h : pBetween f least ts = some r) : pBetween (f + k) least ts = some r := by
  induction k with
  | zero => exact h
  | succ k ih => exact (parse_mono (f + k)).1 _ _ _ ih
theorem pBetween_same {f f' least : Nat} {ts : List Tk} {r r' : PR Ex} (h : pBetween f least ts = some r) (h' : pBetween f' least ts = some r') : r = r' := by
  have a := pBetween_up (k := f') h
  have b := pBetween_up (k := f) h'
  rw [Nat.add_comm] at b
  exact Option.some.inj (a.symm.trans b)

/-- A row of expressions in memory; it and the rows within lie in blocks of S. -/
def RowIn (S : Nat → Prop) (w : World) (l : List Ex) (v : Value) : Prop :=
  (l = [] ∧ v = .slice none 0 0) ∨ ∃ (g cap : Nat) (us : List (List Value)), v = .slice (some ⟨g, 0, none⟩) l.length cap ∧ l ≠ [] ∧ us.length = l.length ∧ S g ∧ g < w.heap.size ∧ l.length ≤ cap ∧ cap ≤ maxLen ∧
    (∀ j u, us.flatten[j]? = some u → w.cell? ⟨g, j, none⟩ = some u) ∧ (∀ c ∈ us, c.length = 5) ∧ ∀ (j : Nat) (x : Ex) (c : List Value), l[j]? = some x → us[j]? = some c → ExIn S w x (.agg c.toArray)

abbrev RowAt (B : Nat) (w : World) (l : List Ex) (v : Value) : Prop := RowIn (fun k => B ≤ k) w l v

theorem RowIn.kept {S : Nat → Prop} {w w' : World} {l : List Ex} {v : Value} (h : RowIn S w l v) (hs : w.heap.size ≤ w'.heap.size) (hb : ∀ k, S k → k < w.heap.size → w'.heap[k]? = w.heap[k]?) : RowIn S w' l v := by
  rcases h with h | ⟨g, cap, us, hv, hne, hlen, hB, hg, hc, hm, hcell, hfive, hk⟩
  · exact .inl h
  · refine .inr ⟨g, cap, us, hv, hne, hlen, hB, Nat.lt_of_lt_of_le hg hs, hc, hm, fun j u hj => ?_, hfive, fun j x c hx hc' => ExIn.kept (hk j x c hx hc') hs hb⟩
    rw [World.cell?_of_block (hb g hB hg)]; exact hcell j u hj

theorem ExIn.of_row {S : Nat → Prop} {w : World} {l : List Ex} {v : Value} (h : RowIn S w l v) (k : Nat) (s : List UInt8) (n : Int) (line : Nat) : ExIn S w (.mk k s n l line) (.agg #[.int .i64 k, .string (strB s), .int .i64 n, v, .int .i64 line]) := by
  rcases h with ⟨rfl, rfl⟩ | ⟨g, cap, us, rfl, hne, hlen, hB, hg, hc, hm, hcell, hfive, hk⟩
  · exact .leaf k s n line
  · exact .node k s n l line g cap us hne hlen hB hg hc hm hcell hfive hk

theorem RowIn.wide {S S' : Nat → Prop} {w : World} {l : List Ex} {v : Value} (h : RowIn S w l v) (hS : ∀ k, S k → S' k) : RowIn S' w l v := by
  rcases h with h | ⟨g, cap, us, hv, hne, hlen, hB, hg, hc, hm, hcell, hfive, hk⟩
  · exact .inl h
  · exact .inr ⟨g, cap, us, hv, hne, hlen, hS _ hB, hg, hc, hm, hcell, hfive, fun j x c hx hc' => ExIn.wide (hk j x c hx hc') hS⟩

theorem RowAt.kept {B : Nat} {w w' : World} {l : List Ex} {v : Value} (h : RowAt B w l v) (hs : w.heap.size ≤ w'.heap.size) (hb : ∀ k, B ≤ k → k < w.heap.size → w'.heap[k]? = w.heap[k]?) : RowAt B w' l v := RowIn.kept h hs hb
theorem ExAt.of_row {B : Nat} {w : World} {l : List Ex} {v : Value} (h : RowAt B w l v) (k : Nat) (s : List UInt8) (n : Int) (line : Nat) : ExAt B w (.mk k s n l line) (.agg #[.int .i64 k, .string (strB s), .int .i64 n, v, .int .i64 line]) := ExIn.of_row h k s n line
theorem ExAt.mono {B B' : Nat} {w : World} {x : Ex} {v : Value} (h : ExAt B w x v) (hb : B' ≤ B) : ExAt B' w x v := ExIn.wide h fun _ hk => Nat.le_trans hb hk
theorem RowAt.mono {B B' : Nat} {w : World} {l : List Ex} {v : Value} (h : RowAt B w l v) (hb : B' ≤ B) : RowAt B' w l v := RowIn.wide h fun _ hk => Nat.le_trans hb hk

/-- What reading an expression leaves: its rows are new ones. -/
def PostE (r g : Nat) (w : World) (res : PR Ex) (e : Ending) (w' : World) : Prop :=
  Kept r w w' ∧ match res with
    | .error a => e = gaveUp a
    | .ok (x, ts) => ∃ v o cap, e = .returned v ∧ ExAt w.heap.size w' x v ∧ RdAt r g o cap ts w'

/-- What reading a row of expressions leaves. -/
def PostL (r g : Nat) (w : World) (res : PR (List Ex)) (e : Ending) (w' : World) : Prop :=
  Kept r w w' ∧ match res with
    | .error a => e = gaveUp a
    | .ok (l, ts) => ∃ v o cap, e = .returned v ∧ RowAt w.heap.size w' l v ∧ RdAt r g o cap ts w'
end Go.Proofs.YtghhamgealkodaaGreatDoor
/- syntax: names and calls. -/
namespace Go.Proofs.YtghhamgealkodaaGreatDoor
open Go.RowKit Go.Shelf

theorem Kept.cell {r : Nat} {w w' : World} (h : Kept r w w') {p : Addr} {v : Value} (hp : p.block ≠ r) (hc : w.cell? p = some v) : w'.cell? p = some v := by
  rw [World.cell?_of_block (h.block p.block (World.block_lt_of_cell? w _ hc) hp)]; exact hc

/-- Five cells of a block are set. -/
abbrev set5 (w : World) (N : Nat) (a b c d e : Value) : World := ((((w.setCell ⟨N, 0, none⟩ a).setCell ⟨N, 1, none⟩ b).setCell ⟨N, 2, none⟩ c).setCell ⟨N, 3, none⟩ d).setCell ⟨N, 4, none⟩ e

theorem set5_cells {w : World} {N : Nat} {x0 x1 x2 x3 x4 : Value} {ty : TypeId} (h : w.heap[N]? = some (.cells #[x0, x1, x2, x3, x4] ty (0, 0))) (a b c d e : Value) :
    (set5 w N a b c d e).cell? ⟨N, 0, none⟩ = some a ∧ (set5 w N a b c d e).cell? ⟨N, 1, none⟩ = some b ∧ (set5 w N a b c d e).cell? ⟨N, 2, none⟩ = some c ∧ (set5 w N a b c d e).cell? ⟨N, 3, none⟩ = some d ∧ (set5 w N a b c d e).cell? ⟨N, 4, none⟩ = some e := by
  have q0 : w.cell? ⟨N, 0, none⟩ = some x0 := by simp only [World.cell?, h]; rfl
  have q1 : w.cell? ⟨N, 1, none⟩ = some x1 := by simp only [World.cell?, h]; rfl
  have q2 : w.cell? ⟨N, 2, none⟩ = some x2 := by simp only [World.cell?, h]; rfl
  have q3 : w.cell? ⟨N, 3, none⟩ = some x3 := by simp only [World.cell?, h]; rfl
  have q4 : w.cell? ⟨N, 4, none⟩ = some x4 := by simp only [World.cell?, h]; rfl
  refine ⟨?_, ?_, ?_, ?_, ?_⟩
  · rw [World.cell?_setCell_other _ _ _ _ (by simp), World.cell?_setCell_other _ _ _ _ (by simp), World.cell?_setCell_other _ _ _ _ (by simp), World.cell?_setCell_other _ _ _ _ (by simp)]
    exact World.cell?_setCell_same _ _ _ q0
  · rw [World.cell?_setCell_other _ _ _ _ (by simp), World.cell?_setCell_other _ _ _ _ (by simp), World.cell?_setCell_other _ _ _ _ (by simp)]
    exact World.cell?_setCell_same _ _ _ ((World.cell?_setCell_other _ _ _ _ (by simp)).trans q1)
  · rw [World.cell?_setCell_other _ _ _ _ (by simp), World.cell?_setCell_other _ _ _ _ (by simp)]
    exact World.cell?_setCell_same _ _ _ ((World.cell?_setCell_other _ _ _ _ (by simp)).trans ((World.cell?_setCell_other _ _ _ _ (by simp)).trans q2))
  · rw [World.cell?_setCell_other _ _ _ _ (by simp)]
    exact World.cell?_setCell_same _ _ _ ((World.cell?_setCell_other _ _ _ _ (by simp)).trans ((World.cell?_setCell_other _ _ _ _ (by simp)).trans ((World.cell?_setCell_other _ _ _ _ (by simp)).trans q3)))
  · exact World.cell?_setCell_same _ _ _ ((World.cell?_setCell_other _ _ _ _ (by simp)).trans ((World.cell?_setCell_other _ _ _ _ (by simp)).trans ((World.cell?_setCell_other _ _ _ _ (by simp)).trans ((World.cell?_setCell_other _ _ _ _ (by simp)).trans q4))))

theorem set5_keep (w : World) (N : Nat) (a b c d e : Value) {k : Nat} (hk : k ≠ N) : (set5 w N a b c d e).heap[k]? = w.heap[k]? := by
  rw [Below.heap_setCell _ _ _ _ (by simpa using hk), Below.heap_setCell _ _ _ _ (by simpa using hk), Below.heap_setCell _ _ _ _ (by simpa using hk), Below.heap_setCell _ _ _ _ (by simpa using hk), Below.heap_setCell _ _ _ _ (by simpa using hk)]

theorem set5_kept {r : Nat} {w0 w : World} {N : Nat} (h : Kept r w0 w) (hN : w0.heap.size ≤ N) (a b c d e : Value) : Kept r w0 (set5 w N a b c d e) := by
  have hb : Below 0 w (set5 w N a b c d e) := (((((Below.refl 0 w).setCell (p := ⟨N, 0, none⟩) (Nat.zero_le _) a).setCell (p := ⟨N, 1, none⟩) (Nat.zero_le _) b).setCell (p := ⟨N, 2, none⟩) (Nat.zero_le _) c).setCell (p := ⟨N, 3, none⟩) (Nat.zero_le _) d).setCell (p := ⟨N, 4, none⟩) (Nat.zero_le _) e
  exact ⟨hb.os.trans h.os, hb.tape.trans h.tape, hb.output.trans h.output, Nat.le_trans h.size hb.size, fun k hk hr => (set5_keep w N a b c d e (by omega)).trans (h.block k hk hr)⟩

set_option maxRecDepth 100000 in
set_option maxHeartbeats 4000000 in
theorem rdNameAlone (r g o cap : Nat) (t u : Tk) (us : List Tk) (w : World) (h : RdAt r g o cap (t :: u :: us) w) (hk : t.k = 1) (hu : isTk u [40] = false) :
    Calls Tryz.prog 195 #[.pointer (some ⟨r, 0, none⟩)] w (PostE r g w (.ok (.mk 4 t.s 0 [] t.line, u :: us))) := by
  have hf := field_line
  have hr := h.lt.1
  have hgw := h.lt.2
  have h0 := h.alloc (.cells #[.int .i64 0, .string ⟨#[]⟩, .int .i64 0, .slice none 0 0, .int .i64 0] 40)
  have ch := rdHere r g o cap t (u :: us) _ h0
  obtain ⟨w2, hw2⟩ : ∃ w2, w2 = ((w.alloc (.cells #[.int .i64 0, .string ⟨#[]⟩, .int .i64 0, .slice none 0 0, .int .i64 0] 40)).alloc (tkO t)).alloc (.cells #[.int .i64 4, .string ⟨#[]⟩, .int .i64 0, .slice none 0 0, .int .i64 t.line] 40) := ⟨_, rfl⟩
  have h2 : RdAt r g o cap (t :: u :: us) w2 := by rw [hw2]; exact (h0.alloc _).alloc _
  have HK2 : Hid (Kept r w w2) := by rw [hw2]; exact (((Kept.refl r w).alloc _).alloc _).alloc _
  have cn := rdName r g o cap t (u :: us) w2 h2 (fun _ => by simp)
  simp only [hk, if_true] at cn
  clear h h0 h2
  go_enter Tryz.func195, Tryz.ntmps195
  go_wp2_with fail
  refine ch.mono ?_
  clear ch
  rintro e w1 ⟨rfl, rfl⟩
  simp only [tkV]
  go_wp2_with fail
  rw [← hw2]
  refine cn.mono ?_
  clear cn
  rintro e w3 ⟨hk3, rfl, h3⟩
  have n2 : w2.heap[w.heap.size + 1 + 1]? = some (.cells #[.int .i64 4, .string ⟨#[]⟩, .int .i64 0, .slice none 0 0, .int .i64 t.line] 40 (0, 0)) := by
    have hx := World.alloc_heap_new ((w.alloc (.cells #[.int .i64 0, .string ⟨#[]⟩, .int .i64 0, .slice none 0 0, .int .i64 0] 40)).alloc (tkO t)) (.cells #[.int .i64 4, .string ⟨#[]⟩, .int .i64 0, .slice none 0 0, .int .i64 t.line] 40)
    rw [← hw2, show ((w.alloc (.cells #[.int .i64 0, .string ⟨#[]⟩, .int .i64 0, .slice none 0 0, .int .i64 0] 40)).alloc (tkO t)).heap.size = w.heap.size + 1 + 1 by simp] at hx
    exact hx
  have n0 : w2.heap[w.heap.size]? = some (.cells #[.int .i64 0, .string ⟨#[]⟩, .int .i64 0, .slice none 0 0, .int .i64 0] 40 (0, 0)) := by
    rw [hw2, Below.heap_alloc _ _ _ (by simp; omega), Below.heap_alloc _ _ _ (by simp)]
    exact World.alloc_heap_new _ _
  have n2' := (hk3.block _ (Array.getElem?_eq_some_iff.1 n2).1 (by omega)).trans n2
  have n0' := (hk3.block _ (Array.getElem?_eq_some_iff.1 n0).1 (by omega)).trans n0
  have HK3 : Hid (Kept r w w3) := HK2.out.trans hk3
  clear n2 n0 hk3 hw2 HK2
  have c0 : w3.cell? ⟨w.heap.size + 1 + 1, 0, none⟩ = some (.int .i64 4) := by simp only [World.cell?, n2']; rfl
  have c1 : w3.cell? ⟨w.heap.size + 1 + 1, 1, none⟩ = some (.string ⟨#[]⟩) := by simp only [World.cell?, n2']; rfl
  have c2 : w3.cell? ⟨w.heap.size + 1 + 1, 2, none⟩ = some (.int .i64 0) := by simp only [World.cell?, n2']; rfl
  have c3 : w3.cell? ⟨w.heap.size + 1 + 1, 3, none⟩ = some (.slice none 0 0) := by simp only [World.cell?, n2']; rfl
  have c4 : w3.cell? ⟨w.heap.size + 1 + 1, 4, none⟩ = some (.int .i64 t.line) := by simp only [World.cell?, n2']; rfl
  have cf : w3.frozen? ⟨w.heap.size + 1 + 1, 1, none⟩ = false := by simp only [World.frozen?, n2']; rfl
  obtain ⟨w4, hw4⟩ : ∃ w4, w4 = w3.setCell ⟨w.heap.size + 1 + 1, 1, none⟩ (.string (strB t.s)) := ⟨_, rfl⟩
  have d0 : w4.cell? ⟨w.heap.size + 1 + 1, 0, none⟩ = some (.int .i64 4) := by rw [hw4, World.cell?_setCell_other _ _ _ _ (by simp)]; exact c0
  have d1 : w4.cell? ⟨w.heap.size + 1 + 1, 1, none⟩ = some (.string (strB t.s)) := by rw [hw4]; exact World.cell?_setCell_same _ _ _ c1
  have d2 : w4.cell? ⟨w.heap.size + 1 + 1, 2, none⟩ = some (.int .i64 0) := by rw [hw4, World.cell?_setCell_other _ _ _ _ (by simp)]; exact c2
  have d3 : w4.cell? ⟨w.heap.size + 1 + 1, 3, none⟩ = some (.slice none 0 0) := by rw [hw4, World.cell?_setCell_other _ _ _ _ (by simp)]; exact c3
  have d4 : w4.cell? ⟨w.heap.size + 1 + 1, 4, none⟩ = some (.int .i64 t.line) := by rw [hw4, World.cell?_setCell_other _ _ _ _ (by simp)]; exact c4
  have hkeep : ∀ k, k ≠ w.heap.size + 1 + 1 → w4.heap[k]? = w3.heap[k]? := fun k hk => by rw [hw4]; exact Below.heap_setCell _ _ _ _ (by simpa using hk)
  have h4 : RdAt r g (o + 5) (cap - 1) (u :: us) w4 := h3.keep (hkeep r (by omega)) (hkeep g (by omega))
  have HK4 : Hid (Kept r w w4) := ⟨by rw [hw4]; exact HK3.out.os, by rw [hw4]; exact HK3.out.tape, by rw [hw4]; exact HK3.out.output, by rw [hw4]; simpa using HK3.out.size, fun k hk hr => (hkeep k (by omega)).trans (HK3.out.block k hk hr)⟩
  have m0' := (hkeep w.heap.size (by omega)).trans n0'
  have ci := rdIs r g (o + 5) (cap - 1) u us [40] w4 h4
  rw [hu] at ci
  have hw4' : Hid (w3.setCell ⟨w.heap.size + 1 + 1, 1, none⟩ (.string (strB t.s)) = w4) := hw4.symm
  obtain ⟨w5, hw5⟩ : ∃ w5, w5 = (w4.alloc (tkO u)).alloc (tkO u) := ⟨_, rfl⟩
  rw [← hw5] at ci
  have HR5 : Hid (RdAt r g (o + 5) (cap - 1) (u :: us) w5) := by rw [hw5]; exact (h4.alloc _).alloc _
  have HK5 : Hid (Kept r w w5) := by rw [hw5]; exact (HK4.out.alloc _).alloc _
  have e0 : w5.cell? ⟨w.heap.size + 1 + 1, 0, none⟩ = some (.int .i64 4) := by rw [hw5]; exact cell_al (cell_al d0 _) _
  have e1 : w5.cell? ⟨w.heap.size + 1 + 1, 1, none⟩ = some (.string (strB t.s)) := by rw [hw5]; exact cell_al (cell_al d1 _) _
  have e2 : w5.cell? ⟨w.heap.size + 1 + 1, 2, none⟩ = some (.int .i64 0) := by rw [hw5]; exact cell_al (cell_al d2 _) _
  have e3 : w5.cell? ⟨w.heap.size + 1 + 1, 3, none⟩ = some (.slice none 0 0) := by rw [hw5]; exact cell_al (cell_al d3 _) _
  have e4 : w5.cell? ⟨w.heap.size + 1 + 1, 4, none⟩ = some (.int .i64 t.line) := by rw [hw5]; exact cell_al (cell_al d4 _) _
  have hl0 : w.heap.size < w4.heap.size := (Array.getElem?_eq_some_iff.1 m0').1
  have p0 : w5.heap[w.heap.size]? = some (.cells #[.int .i64 0, .string ⟨#[]⟩, .int .i64 0, .slice none 0 0, .int .i64 0] 40 (0, 0)) := by
    rw [hw5, Below.heap_alloc _ _ _ (by simp; omega), Below.heap_alloc _ _ _ hl0]; exact m0'
  clear hw4 hkeep h3 h4 n2' n0' m0' HK3 HK4 d0 d1 d2 d3 d4 hw5 hl0
  go_wp2_with fail
  rw [hw4'.out]
  refine ci.mono ?_
  clear ci c0 c1 c2 c3 c4 cf
  rintro e w6 ⟨rfl, rfl⟩
  have q0 : w6.cell? ⟨w.heap.size, 0, none⟩ = some (.int .i64 0) := by simp only [World.cell?, p0]; rfl
  have q1 : w6.cell? ⟨w.heap.size, 1, none⟩ = some (.string ⟨#[]⟩) := by simp only [World.cell?, p0]; rfl
  have q2 : w6.cell? ⟨w.heap.size, 2, none⟩ = some (.int .i64 0) := by simp only [World.cell?, p0]; rfl
  have q3 : w6.cell? ⟨w.heap.size, 3, none⟩ = some (.slice none 0 0) := by simp only [World.cell?, p0]; rfl
  have q4 : w6.cell? ⟨w.heap.size, 4, none⟩ = some (.int .i64 0) := by simp only [World.cell?, p0]; rfl
  have qf : ∀ j, w6.frozen? ⟨w.heap.size, j, none⟩ = false := fun j => by simp only [World.frozen?, p0]; simp
  go_wp2
  obtain ⟨z0, z1, z2, z3, z4⟩ := set5_cells p0 (.int .i64 4) (.string (strB t.s)) (.int .i64 0) (.slice none 0 0) (.int .i64 t.line)
  refine bodyPost_ret (v := .agg #[.int .i64 4, .string (strB t.s), .int .i64 0, .slice none 0 0, .int .i64 t.line]) (by simp [results, Tryz.results195, go_sem, z0, z1, z2, z3, z4]) rfl ⟨set5_kept HK5.out (Nat.le_refl _) _ _ _ _ _, _, o + 5, cap - 1, rfl, .leaf 4 t.s 0 t.line, ?_⟩
  exact HR5.out.keep (set5_keep _ _ _ _ _ _ _ (by omega)) (set5_keep _ _ _ _ _ _ _ (by omega))
end Go.Proofs.YtghhamgealkodaaGreatDoor
/- syntax: a call. -/
namespace Go.Proofs.YtghhamgealkodaaGreatDoor
open Go.RowKit Go.Shelf

/-- A call, of its row of kids. -/
def callR (t : Tk) : PR (List Ex) → PR Ex
  | .error a => .error a
  | .ok (l, ts) => .ok (.mk 5 t.s 0 l t.line, ts)

theorem Kept.setOther {r : Nat} {w w' : World} (h : Kept r w w') {p : Addr} (hp : w.heap.size ≤ p.block) (v : Value) : Kept r w (w'.setCell p v) := by
  have hb : Below 0 w' (w'.setCell p v) := (Below.refl 0 w').setCell (p := p) (Nat.zero_le _) v
  exact ⟨hb.os.trans h.os, hb.tape.trans h.tape, hb.output.trans h.output, Nat.le_trans h.size hb.size, fun k hk hr => (Below.heap_setCell _ _ _ _ (by omega)).trans (h.block k hk hr)⟩
theorem frozen_of_block {w w' : World} {p : Addr} (h : w'.heap[p.block]? = w.heap[p.block]?) : w'.frozen? p = w.frozen? p := by
  simp only [World.frozen?, h]

set_option maxRecDepth 100000 in
set_option maxHeartbeats 4000000 in
theorem rdNameCall (r g o cap : Nat) (t u : Tk) (us : List Tk) (w : World) (res : PR (List Ex)) (h : RdAt r g o cap (t :: u :: us) w) (hk : t.k = 1) (hu : isTk u [40] = true)
    (hbr : ∀ w1 o1 cap1, RdAt r g o1 cap1 (u :: us) w1 → Kept r w w1 → Calls Tryz.prog 196 #[.pointer (some ⟨r, 0, none⟩), .func (.func 37) #[.pointer (some ⟨r, 0, none⟩)] #[]] w1 (PostL r g w1 res)) :
    Calls Tryz.prog 195 #[.pointer (some ⟨r, 0, none⟩)] w (PostE r g w (callR t res)) := by
  have hmf : ∀ (fn : Fn) (first cap : Array Value) (w : World), (Instr.makeFunc fn first cap).run Tryz.prog w = .ok (.func fn first cap) w := fun _ _ _ _ => rfl
  generalize hres : callR t res = res'
  have hf := field_line
  have hr := h.lt.1
  have hgw := h.lt.2
  have h0 := h.alloc (.cells #[.int .i64 0, .string ⟨#[]⟩, .int .i64 0, .slice none 0 0, .int .i64 0] 40)
  have ch := rdHere r g o cap t (u :: us) _ h0
  obtain ⟨w2, hw2⟩ : ∃ w2, w2 = ((w.alloc (.cells #[.int .i64 0, .string ⟨#[]⟩, .int .i64 0, .slice none 0 0, .int .i64 0] 40)).alloc (tkO t)).alloc (.cells #[.int .i64 4, .string ⟨#[]⟩, .int .i64 0, .slice none 0 0, .int .i64 t.line] 40) := ⟨_, rfl⟩
  have h2 : RdAt r g o cap (t :: u :: us) w2 := by rw [hw2]; exact (h0.alloc _).alloc _
  have HK2 : Hid (Kept r w w2) := by rw [hw2]; exact (((Kept.refl r w).alloc _).alloc _).alloc _
  have cn := rdName r g o cap t (u :: us) w2 h2 (fun _ => by simp)
  simp only [hk, if_true] at cn
  clear h h0 h2
  go_enter Tryz.func195, Tryz.ntmps195
  go_wp2_with fail
  refine ch.mono ?_
  clear ch
  rintro e w1 ⟨rfl, rfl⟩
  simp only [tkV]
  go_wp2_with fail
  rw [← hw2]
  refine cn.mono ?_
  clear cn
  rintro e w3 ⟨hk3, rfl, h3⟩
  have n2 : w2.heap[w.heap.size + 1 + 1]? = some (.cells #[.int .i64 4, .string ⟨#[]⟩, .int .i64 0, .slice none 0 0, .int .i64 t.line] 40 (0, 0)) := by
    have hx := World.alloc_heap_new ((w.alloc (.cells #[.int .i64 0, .string ⟨#[]⟩, .int .i64 0, .slice none 0 0, .int .i64 0] 40)).alloc (tkO t)) (.cells #[.int .i64 4, .string ⟨#[]⟩, .int .i64 0, .slice none 0 0, .int .i64 t.line] 40)
    rw [← hw2, show ((w.alloc (.cells #[.int .i64 0, .string ⟨#[]⟩, .int .i64 0, .slice none 0 0, .int .i64 0] 40)).alloc (tkO t)).heap.size = w.heap.size + 1 + 1 by simp] at hx
    exact hx
  have n0 : w2.heap[w.heap.size]? = some (.cells #[.int .i64 0, .string ⟨#[]⟩, .int .i64 0, .slice none 0 0, .int .i64 0] 40 (0, 0)) := by
    rw [hw2, Below.heap_alloc _ _ _ (by simp; omega), Below.heap_alloc _ _ _ (by simp)]
    exact World.alloc_heap_new _ _
  have n2' := (hk3.block _ (Array.getElem?_eq_some_iff.1 n2).1 (by omega)).trans n2
  have n0' := (hk3.block _ (Array.getElem?_eq_some_iff.1 n0).1 (by omega)).trans n0
  have HK3 : Hid (Kept r w w3) := HK2.out.trans hk3
  clear n2 n0 hk3 hw2 HK2
  have c0 : w3.cell? ⟨w.heap.size + 1 + 1, 0, none⟩ = some (.int .i64 4) := by simp only [World.cell?, n2']; rfl
  have c1 : w3.cell? ⟨w.heap.size + 1 + 1, 1, none⟩ = some (.string ⟨#[]⟩) := by simp only [World.cell?, n2']; rfl
  have c2 : w3.cell? ⟨w.heap.size + 1 + 1, 2, none⟩ = some (.int .i64 0) := by simp only [World.cell?, n2']; rfl
  have c3 : w3.cell? ⟨w.heap.size + 1 + 1, 3, none⟩ = some (.slice none 0 0) := by simp only [World.cell?, n2']; rfl
  have c4 : w3.cell? ⟨w.heap.size + 1 + 1, 4, none⟩ = some (.int .i64 t.line) := by simp only [World.cell?, n2']; rfl
  have cf : w3.frozen? ⟨w.heap.size + 1 + 1, 1, none⟩ = false := by simp only [World.frozen?, n2']; rfl
  obtain ⟨w4, hw4⟩ : ∃ w4, w4 = w3.setCell ⟨w.heap.size + 1 + 1, 1, none⟩ (.string (strB t.s)) := ⟨_, rfl⟩
  have d0 : w4.cell? ⟨w.heap.size + 1 + 1, 0, none⟩ = some (.int .i64 4) := by rw [hw4, World.cell?_setCell_other _ _ _ _ (by simp)]; exact c0
  have d1 : w4.cell? ⟨w.heap.size + 1 + 1, 1, none⟩ = some (.string (strB t.s)) := by rw [hw4]; exact World.cell?_setCell_same _ _ _ c1
  have d2 : w4.cell? ⟨w.heap.size + 1 + 1, 2, none⟩ = some (.int .i64 0) := by rw [hw4, World.cell?_setCell_other _ _ _ _ (by simp)]; exact c2
  have d3 : w4.cell? ⟨w.heap.size + 1 + 1, 3, none⟩ = some (.slice none 0 0) := by rw [hw4, World.cell?_setCell_other _ _ _ _ (by simp)]; exact c3
  have d4 : w4.cell? ⟨w.heap.size + 1 + 1, 4, none⟩ = some (.int .i64 t.line) := by rw [hw4, World.cell?_setCell_other _ _ _ _ (by simp)]; exact c4
  have hkeep : ∀ k, k ≠ w.heap.size + 1 + 1 → w4.heap[k]? = w3.heap[k]? := fun k hk => by rw [hw4]; exact Below.heap_setCell _ _ _ _ (by simpa using hk)
  have h4 : RdAt r g (o + 5) (cap - 1) (u :: us) w4 := h3.keep (hkeep r (by omega)) (hkeep g (by omega))
  have HK4 : Hid (Kept r w w4) := ⟨by rw [hw4]; exact HK3.out.os, by rw [hw4]; exact HK3.out.tape, by rw [hw4]; exact HK3.out.output, by rw [hw4]; simpa using HK3.out.size, fun k hk hr => (hkeep k (by omega)).trans (HK3.out.block k hk hr)⟩
  have m0' := (hkeep w.heap.size (by omega)).trans n0'
  have ci := rdIs r g (o + 5) (cap - 1) u us [40] w4 h4
  rw [hu] at ci
  have hw4' : Hid (w3.setCell ⟨w.heap.size + 1 + 1, 1, none⟩ (.string (strB t.s)) = w4) := hw4.symm
  obtain ⟨w5, hw5⟩ : ∃ w5, w5 = (w4.alloc (tkO u)).alloc (tkO u) := ⟨_, rfl⟩
  rw [← hw5] at ci
  have HR5 : Hid (RdAt r g (o + 5) (cap - 1) (u :: us) w5) := by rw [hw5]; exact (h4.alloc _).alloc _
  have HK5 : Hid (Kept r w w5) := by rw [hw5]; exact (HK4.out.alloc _).alloc _
  have e0 : w5.cell? ⟨w.heap.size + 1 + 1, 0, none⟩ = some (.int .i64 4) := by rw [hw5]; exact cell_al (cell_al d0 _) _
  have e1 : w5.cell? ⟨w.heap.size + 1 + 1, 1, none⟩ = some (.string (strB t.s)) := by rw [hw5]; exact cell_al (cell_al d1 _) _
  have e2 : w5.cell? ⟨w.heap.size + 1 + 1, 2, none⟩ = some (.int .i64 0) := by rw [hw5]; exact cell_al (cell_al d2 _) _
  have e3 : w5.cell? ⟨w.heap.size + 1 + 1, 3, none⟩ = some (.slice none 0 0) := by rw [hw5]; exact cell_al (cell_al d3 _) _
  have e4 : w5.cell? ⟨w.heap.size + 1 + 1, 4, none⟩ = some (.int .i64 t.line) := by rw [hw5]; exact cell_al (cell_al d4 _) _
  have hl0 : w.heap.size < w4.heap.size := (Array.getElem?_eq_some_iff.1 m0').1
  have p0 : w5.heap[w.heap.size]? = some (.cells #[.int .i64 0, .string ⟨#[]⟩, .int .i64 0, .slice none 0 0, .int .i64 0] 40 (0, 0)) := by
    rw [hw5, Below.heap_alloc _ _ _ (by simp; omega), Below.heap_alloc _ _ _ hl0]; exact m0'
  have m2' : w5.frozen? ⟨w.heap.size + 1 + 1, 0, none⟩ = false := by
    have hf4 : w4.frozen? ⟨w.heap.size + 1 + 1, 0, none⟩ = false := by rw [hw4, World.frozen?_setCell]; simp only [World.frozen?, n2']; rfl
    have hb4 := World.block_lt_of_cell? w4 _ d0
    rw [hw5]
    simp only [World.frozen?] at hf4 ⊢
    rw [Below.heap_alloc _ _ _ (by simp; simp at hb4; omega), Below.heap_alloc _ _ _ hb4]; exact hf4
  have m3' : w5.frozen? ⟨w.heap.size + 1 + 1, 3, none⟩ = false := by
    have hf4 : w4.frozen? ⟨w.heap.size + 1 + 1, 3, none⟩ = false := by rw [hw4, World.frozen?_setCell]; simp only [World.frozen?, n2']; rfl
    have hb4 := World.block_lt_of_cell? w4 _ d0
    rw [hw5]
    simp only [World.frozen?] at hf4 ⊢
    rw [Below.heap_alloc _ _ _ (by simp; simp at hb4; omega), Below.heap_alloc _ _ _ hb4]; exact hf4
  clear hw4 hkeep h3 h4 n2' n0' m0' HK3 HK4 d0 d1 d2 d3 d4 hw5 hl0
  go_wp2_with fail
  rw [hw4'.out]
  refine ci.mono ?_
  clear ci c0 c1 c2 c3 c4 cf
  rintro e w6 ⟨rfl, rfl⟩
  obtain ⟨w7, hw7⟩ : ∃ w7, w7 = w6.setCell ⟨w.heap.size + 1 + 1, 0, none⟩ (.int .i64 5) := ⟨_, rfl⟩
  have HW7 : Hid (w6.setCell ⟨w.heap.size + 1 + 1, 0, none⟩ (.int .i64 5) = w7) := hw7.symm
  have hkeep : ∀ k, k ≠ w.heap.size + 1 + 1 → w7.heap[k]? = w6.heap[k]? := fun k hk => by rw [hw7]; exact Below.heap_setCell _ _ _ _ (by simpa using hk)
  have h7 : RdAt r g (o + 5) (cap - 1) (u :: us) w7 := HR5.out.keep (hkeep r (by omega)) (hkeep g (by omega))
  have k7 : Kept r w w7 := by rw [hw7]; exact HK5.out.setOther (by simp; omega) _
  have HK7 : Hid (Kept r w w7) := k7
  have cb := hbr w7 _ _ h7 k7
  have f0 : w7.cell? ⟨w.heap.size + 1 + 1, 0, none⟩ = some (.int .i64 5) := by rw [hw7]; exact World.cell?_setCell_same _ _ _ e0
  have f1 : w7.cell? ⟨w.heap.size + 1 + 1, 1, none⟩ = some (.string (strB t.s)) := by rw [hw7, World.cell?_setCell_other _ _ _ _ (by simp)]; exact e1
  have f2 : w7.cell? ⟨w.heap.size + 1 + 1, 2, none⟩ = some (.int .i64 0) := by rw [hw7, World.cell?_setCell_other _ _ _ _ (by simp)]; exact e2
  have f3 : w7.cell? ⟨w.heap.size + 1 + 1, 3, none⟩ = some (.slice none 0 0) := by rw [hw7, World.cell?_setCell_other _ _ _ _ (by simp)]; exact e3
  have f4 : w7.cell? ⟨w.heap.size + 1 + 1, 4, none⟩ = some (.int .i64 t.line) := by rw [hw7, World.cell?_setCell_other _ _ _ _ (by simp)]; exact e4
  have ff : w7.frozen? ⟨w.heap.size + 1 + 1, 3, none⟩ = false := by rw [hw7, World.frozen?_setCell]; exact m3'
  have p7 := (hkeep w.heap.size (by omega)).trans p0
  clear hbr h7 k7 hw7 hkeep p0
  go_wp2_with fail
  rw [HW7.out]
  refine cb.mono ?_
  clear cb e0 e1 e2 e3 e4 m2' m3'
  rintro e w8 ⟨hk8, hpost⟩
  subst hres
  rcases res with a | ⟨l, ts⟩
  · obtain rfl := hpost
    exact ⟨rfl, HK7.out.trans hk8, rfl⟩
  · obtain ⟨v, o8, cap8, rfl, hrow, hrd⟩ := hpost
    have hr7 : r ≠ w.heap.size + 1 + 1 := by omega
    have g0 := hk8.cell (p := ⟨w.heap.size + 1 + 1, 0, none⟩) (fun h => hr7 h.symm) f0
    have g1 := hk8.cell (p := ⟨w.heap.size + 1 + 1, 1, none⟩) (fun h => hr7 h.symm) f1
    have g2 := hk8.cell (p := ⟨w.heap.size + 1 + 1, 2, none⟩) (fun h => hr7 h.symm) f2
    have g3 := hk8.cell (p := ⟨w.heap.size + 1 + 1, 3, none⟩) (fun h => hr7 h.symm) f3
    have g4 := hk8.cell (p := ⟨w.heap.size + 1 + 1, 4, none⟩) (fun h => hr7 h.symm) f4
    have gf : w8.frozen? ⟨w.heap.size + 1 + 1, 3, none⟩ = false := (frozen_of_block (p := ⟨w.heap.size + 1 + 1, 3, none⟩) (hk8.block _ (World.block_lt_of_cell? w7 _ f3) (fun h => hr7 h.symm))).trans ff
    have p8 := (hk8.block w.heap.size (Array.getElem?_eq_some_iff.1 p7).1 (by omega)).trans p7
    have HK8 : Hid (Kept r w w8) := HK7.out.trans hk8
    have hN7 : w.heap.size + 1 + 1 < w7.heap.size := World.block_lt_of_cell? w7 _ f0
    obtain ⟨w9, hw9⟩ : ∃ w9, w9 = w8.setCell ⟨w.heap.size + 1 + 1, 3, none⟩ v := ⟨_, rfl⟩
    have HW9 : Hid (w9 = w8.setCell ⟨w.heap.size + 1 + 1, 3, none⟩ v) := hw9
    have hkeep : ∀ k, k ≠ w.heap.size + 1 + 1 → w9.heap[k]? = w8.heap[k]? := fun k hk => by rw [hw9]; exact Below.heap_setCell _ _ _ _ (by simpa using hk)
    have hsz9 : w8.heap.size ≤ w9.heap.size := by rw [hw9]; simp
    have HRow : Hid (RowAt w7.heap.size w9 l v) := hrow.kept hsz9 fun k hB _ => hkeep k (by omega)
    have HRd : Hid (RdAt r g o8 cap8 ts w9) := hrd.keep (hkeep r (by omega)) (hkeep g (by omega))
    have HK9 : Hid (Kept r w w9) := by rw [hw9]; exact HK8.out.setOther (by simp; omega) _
    have p9 := (hkeep w.heap.size (by omega)).trans p8
    have i0 : w9.cell? ⟨w.heap.size + 1 + 1, 0, none⟩ = some (.int .i64 5) := by rw [hw9, World.cell?_setCell_other _ _ _ _ (by simp)]; exact g0
    have i1 : w9.cell? ⟨w.heap.size + 1 + 1, 1, none⟩ = some (.string (strB t.s)) := by rw [hw9, World.cell?_setCell_other _ _ _ _ (by simp)]; exact g1
    have i2 : w9.cell? ⟨w.heap.size + 1 + 1, 2, none⟩ = some (.int .i64 0) := by rw [hw9, World.cell?_setCell_other _ _ _ _ (by simp)]; exact g2
    have i3 : w9.cell? ⟨w.heap.size + 1 + 1, 3, none⟩ = some v := by rw [hw9]; exact World.cell?_setCell_same _ _ _ g3
    have i4 : w9.cell? ⟨w.heap.size + 1 + 1, 4, none⟩ = some (.int .i64 t.line) := by rw [hw9, World.cell?_setCell_other _ _ _ _ (by simp)]; exact g4
    have q0 : w9.cell? ⟨w.heap.size, 0, none⟩ = some (.int .i64 0) := by simp only [World.cell?, p9]; rfl
    have q1 : w9.cell? ⟨w.heap.size, 1, none⟩ = some (.string ⟨#[]⟩) := by simp only [World.cell?, p9]; rfl
    have q2 : w9.cell? ⟨w.heap.size, 2, none⟩ = some (.int .i64 0) := by simp only [World.cell?, p9]; rfl
    have q3 : w9.cell? ⟨w.heap.size, 3, none⟩ = some (.slice none 0 0) := by simp only [World.cell?, p9]; rfl
    have q4 : w9.cell? ⟨w.heap.size, 4, none⟩ = some (.int .i64 0) := by simp only [World.cell?, p9]; rfl
    have qf : ∀ j, w9.frozen? ⟨w.heap.size, j, none⟩ = false := fun j => by simp only [World.frozen?, p9]; simp
    have hnv : ∃ a n c, v = .slice a n c := by
      rcases hrow with ⟨-, rfl⟩ | ⟨_, _, _, rfl, _⟩
      · exact ⟨_, _, _, rfl⟩
      · exact ⟨_, _, _, rfl⟩
    obtain ⟨va, vn, vc, rfl⟩ := hnv
    clear hkeep hrow hrd f0 f1 f2 f3 f4 ff hk8 p8 g0 g1 g2 g4
    have hw9' := hw9.symm
    clear hw9
    go_wp2
    obtain ⟨z0, z1, z2, z3, z4⟩ := set5_cells p9 (.int .i64 5) (.string (strB t.s)) (.int .i64 0) (.slice va vn vc) (.int .i64 t.line)
    refine bodyPost_ret (v := .agg #[.int .i64 5, .string (strB t.s), .int .i64 0, .slice va vn vc, .int .i64 t.line]) (by simp [results, Tryz.results195, go_sem, z0, z1, z2, z3, z4]) rfl ⟨set5_kept HK9.out (Nat.le_refl _) _ _ _ _ _, _, o8, cap8, rfl, ?_, ?_⟩
    · have hrow : RowAt w7.heap.size (set5 w9 w.heap.size (.int .i64 5) (.string (strB t.s)) (.int .i64 0) (.slice va vn vc) (.int .i64 t.line)) l (.slice va vn vc) :=
        HRow.out.kept (by simp) fun k hB _ => set5_keep _ _ _ _ _ _ _ (by omega)
      exact ExAt.of_row (hrow.mono (by omega)) 5 t.s 0 t.line
    · exact HRd.out.keep (set5_keep _ _ _ _ _ _ _ (by omega)) (set5_keep _ _ _ _ _ _ _ (by omega))
end Go.Proofs.YtghhamgealkodaaGreatDoor
/- syntax: an expression as such, and a row in brackets. -/
namespace Go.Proofs.YtghhamgealkodaaGreatDoor
open Go.RowKit Go.Shelf

theorem ExIn.agg {S : Nat → Prop} {w : World} {x : Ex} {v : Value} (h : ExIn S w x v) : ∃ (a : Int) (b : ByteArray) (c : Int) (d0 : Option Addr) (d1 d2 : Nat) (e : Int), v = .agg #[.int .i64 a, .string b, .int .i64 c, .slice d0 d1 d2, .int .i64 e] := by
  cases h with
  | leaf => exact ⟨_, _, _, _, _, _, _, rfl⟩
  | node => exact ⟨_, _, _, _, _, _, _, rfl⟩

/-- An expression of no kind in a block of its own. -/
abbrev exZ : Obj := .cells #[.int .i64 0, .string ⟨#[]⟩, .int .i64 0, .slice none 0 0, .int .i64 0] 40

set_option maxRecDepth 100000 in
set_option maxHeartbeats 4000000 in
theorem rdExpr (r g : Nat) (w : World) (res : PR Ex) (hr : r < w.heap.size) (hgw : g < w.heap.size)
    (hb : Calls Tryz.prog 77 #[.pointer (some ⟨r, 0, none⟩), .int .i64 1] (w.alloc exZ) (PostE r g (w.alloc exZ) res)) :
    Calls Tryz.prog 37 #[.pointer (some ⟨r, 0, none⟩)] w (PostE r g w res) := by
  go_enter Tryz.func37, Tryz.ntmps37
  go_wp2_with fail
  refine hb.mono ?_
  clear hb
  rintro e w1 ⟨hk1, hpost⟩
  have hK : Kept r w w1 := ((Kept.refl r w).alloc _).trans hk1
  rcases res with a | ⟨x, ts⟩
  · obtain rfl := hpost
    exact ⟨rfl, hK, rfl⟩
  · obtain ⟨v, o, cap, rfl, hx, hrd⟩ := hpost
    obtain ⟨a, b, c, d0, d1, d2, e, rfl⟩ := hx.agg
    have hsz : (w.alloc exZ).heap.size = w.heap.size + 1 := by simp
    have p0 : w1.heap[w.heap.size]? = some exZ := (hk1.block w.heap.size (by omega) (by omega)).trans (World.alloc_heap_new w _)
    have q0 : w1.cell? ⟨w.heap.size, 0, none⟩ = some (.int .i64 0) := by simp only [World.cell?, p0]; rfl
    have q1 : w1.cell? ⟨w.heap.size, 1, none⟩ = some (.string ⟨#[]⟩) := by simp only [World.cell?, p0]; rfl
    have q2 : w1.cell? ⟨w.heap.size, 2, none⟩ = some (.int .i64 0) := by simp only [World.cell?, p0]; rfl
    have q3 : w1.cell? ⟨w.heap.size, 3, none⟩ = some (.slice none 0 0) := by simp only [World.cell?, p0]; rfl
    have q4 : w1.cell? ⟨w.heap.size, 4, none⟩ = some (.int .i64 0) := by simp only [World.cell?, p0]; rfl
    have qf : ∀ j, w1.frozen? ⟨w.heap.size, j, none⟩ = false := fun j => by simp only [World.frozen?, p0]; simp
    have HX : Hid (ExAt (w.alloc exZ).heap.size w1 x (.agg #[.int .i64 a, .string b, .int .i64 c, .slice d0 d1 d2, .int .i64 e])) := hx
    have HR : Hid (RdAt r g o cap ts w1) := hrd
    have HK : Hid (Kept r w w1) := hK
    clear hk1 hx hrd hK
    go_wp2
    obtain ⟨z0, z1, z2, z3, z4⟩ := set5_cells p0 (.int .i64 a) (.string b) (.int .i64 c) (.slice d0 d1 d2) (.int .i64 e)
    refine bodyPost_ret (v := .agg #[.int .i64 a, .string b, .int .i64 c, .slice d0 d1 d2, .int .i64 e]) (by simp [results, Tryz.results37, go_sem, z0, z1, z2, z3, z4]) rfl ⟨set5_kept HK.out (Nat.le_refl _) _ _ _ _ _, _, o, cap, rfl, ?_, ?_⟩
    · exact (HX.out.kept (w' := set5 w1 w.heap.size (.int .i64 a) (.string b) (.int .i64 c) (.slice d0 d1 d2) (.int .i64 e)) (by simp) fun k hB _ => set5_keep _ _ _ _ _ _ _ (by omega)).mono (by omega)
    · exact HR.out.keep (set5_keep _ _ _ _ _ _ _ (by omega)) (set5_keep _ _ _ _ _ _ _ (by omega))
end Go.Proofs.YtghhamgealkodaaGreatDoor
/- syntax: a row in brackets. -/
namespace Go.Proofs.YtghhamgealkodaaGreatDoor
open Go.RowKit Go.Shelf

theorem hdT_cons (t : Tk) (ts : List Tk) : hdT (t :: ts) = t := by unfold hdT; rfl

/-- A row in brackets, of what the row itself is read as. -/
def bracketsR (t : Tk) (ts : List Tk) (res : PR (List Ex)) : PR (List Ex) :=
  if isTk t [40] = true then
    if isTk (hdT ts) [41] = true then .ok ([], ts.tail) else
    match res with
    | .error a => .error a
    | .ok (l, us) => if isTk (hdT us) [41] = true then .ok (l, us.tail) else .error (hdT us).at0
  else .error t.at0

set_option maxRecDepth 100000 in
set_option maxHeartbeats 4000000 in
theorem rdBrackets (r g o cap : Nat) (f : Value) (t : Tk) (ts : List Tk) (w : World) (res : PR (List Ex)) (h : RdAt r g o cap (t :: ts) w) (hE : EndsT (t :: ts)) (hEnd : ∀ l us, res = .ok (l, us) → EndsT us)
    (hrow : isTk t [40] = true → isTk (hdT ts) [41] = false → ∀ w1 o1 cap1, RdAt r g o1 cap1 ts w1 → Kept r w w1 → Calls Tryz.prog 197 #[.pointer (some ⟨r, 0, none⟩), f] w1 (PostL r g w1 res)) :
    Calls Tryz.prog 196 #[.pointer (some ⟨r, 0, none⟩), f] w (PostL r g w (bracketsR t ts res)) := by
  have hr := h.lt.1
  have cn := rdNeed r g o cap t ts [40] w h (fun hi => (hE.tail (isTk_kind hi)).ne)
  clear h
  unfold bracketsR
  by_cases hi : isTk t [40] = true
  · simp only [if_pos hi] at cn ⊢
    have hE1 := hE.tail (isTk_kind hi)
    obtain ⟨t1, ts1, rfl⟩ := hE1.cons
    simp only [hdT_cons, List.tail_cons] at hrow ⊢
    by_cases hj : isTk t1 [41] = true
    · simp only [if_pos hj]
      clear hrow hEnd
      go_enter Tryz.func196, Tryz.ntmps196
      go_wp2_with fail
      refine cn.mono ?_
      clear cn
      rintro e w1 ⟨hk1, rfl, h1⟩
      have cs := rdSkip r g _ _ t1 ts1 [41] w1 h1 (fun hi => (hE1.tail (isTk_kind hi)).ne)
      have HK1 : Hid (Kept r w w1) := hk1
      rw [hj] at cs
      clear h1 hk1
      go_wp2_with fail
      refine cs.mono ?_
      clear cs
      rintro e w2 ⟨rfl, hk2, h2⟩
      have HK2 : Hid (Kept r w w2) := HK1.out.trans hk2
      have h2' : RdAt r g (o + 5 + 5) (cap - 1 - 1) ts1 w2 := by simpa using h2
      have HR2 : Hid (RdAt r g (o + 5 + 5) (cap - 1 - 1) ts1 w2) := h2'
      clear h2 h2' hk2
      go_wp2
      refine bodyPost_ret (v := .slice none 0 0) (by simp [results, Tryz.results196, go_sem]) rfl ⟨HK2.out, _, _, _, rfl, .inl ⟨rfl, rfl⟩, HR2.out⟩
    · have hj' : isTk t1 [41] = false := by simpa using hj
      simp only [if_neg hj]
      go_enter Tryz.func196, Tryz.ntmps196
      go_wp2_with fail
      refine cn.mono ?_
      clear cn
      rintro e w1 ⟨hk1, rfl, h1⟩
      have cs := rdSkip r g _ _ t1 ts1 [41] w1 h1 (fun hi => (hE1.tail (isTk_kind hi)).ne)
      have HK1 : Hid (Kept r w w1) := hk1
      rw [hj'] at cs
      clear h1 hk1
      go_wp2_with fail
      refine cs.mono ?_
      clear cs
      rintro e w2 ⟨rfl, hk2, h2⟩
      have hkk : Kept r w w2 := HK1.out.trans hk2
      have HK2 : Hid (Kept r w w2) := hkk
      have cr := hrow hi hj' w2 _ _ (by simpa using h2) hkk
      clear h2 hk2 hkk hrow
      go_wp2_with fail
      refine cr.mono ?_
      clear cr
      rintro e w3 ⟨hk3, hpost⟩
      have HK3 : Hid (Kept r w w3) := HK2.out.trans hk3
      rcases res with a | ⟨l, us⟩
      · obtain rfl := hpost
        exact ⟨rfl, HK3.out, rfl⟩
      · obtain ⟨v, o3, cap3, rfl, hrw, hrd⟩ := hpost
        have hE3 := hEnd l us rfl
        obtain ⟨t3, ts3, rfl⟩ := hE3.cons
        have cn2 := rdNeed r g o3 cap3 t3 ts3 [41] w3 hrd (fun hi => (hE3.tail (isTk_kind hi)).ne)
        have hsz : w.heap.size ≤ w2.heap.size := HK2.out.size
        have hr2 : r < w2.heap.size := by omega
        have HRow : Hid (RowAt w2.heap.size w3 l v) := hrw
        clear hrd hrw hk3 hEnd
        by_cases hm : isTk t3 [41] = true
        · simp only [if_pos hm] at cn2
          go_wp2_with fail
          refine cn2.mono ?_
          clear cn2
          rintro e w4 ⟨hk4, rfl, h4⟩
          have HK4 : Hid (Kept r w w4) := HK3.out.trans hk4
          have HRow4 : Hid (RowAt w2.heap.size w4 l v) := HRow.out.kept hk4.size fun k hB hlt => hk4.block k hlt (by omega)
          have HR4 : Hid (RdAt r g (o3 + 5) (cap3 - 1) ts3 w4) := h4
          clear hk4 h4
          go_wp2
          refine bodyPost_ret (v := v) (by simp [results, Tryz.results196, go_sem]) rfl ⟨HK4.out, _, _, _, rfl, HRow4.out.mono hsz, HR4.out⟩
        · simp only [if_neg hm] at cn2
          have hm' : isTk t3 [41] = false := by simpa using hm
          go_wp2_with fail
          refine cn2.mono ?_
          clear cn2
          rintro e w4 ⟨hk4, rfl⟩
          refine ⟨rfl, HK3.out.trans hk4, ?_⟩
          simp only [hdT_cons, hm', Bool.false_eq_true, if_false]
  · simp only [if_neg hi] at cn ⊢
    clear hrow hEnd
    go_enter Tryz.func196, Tryz.ntmps196
    go_wp2_with fail
    refine cn.mono ?_
    clear cn
    rintro e w1 ⟨hk1, rfl⟩
    exact ⟨rfl, hk1, rfl⟩
end Go.Proofs.YtghhamgealkodaaGreatDoor
