import Derived.Test.YtghhamgealkodaaGreatDoorMQ18
import Derived.Test.YtghhamgealkodaaGreatDoorSProg
import Derived.Test.YtghhamgealkodaaGreatDoorShelf
import Derived.Test.YtghhamgealkodaaGreatDoorMQ14
import Derived.Test.YtghhamgealkodaaGreatDoorMQ11
import Derived.Test.YtghhamgealkodaaGreatDoorMQ16
/- syntax: what is read as a program, of any tokens. -/
namespace Go.Proofs.YtghhamgealkodaaGreatDoor
open Go.RowKit Go.Shelf

theorem repeat_any (c : UInt8) (n : Nat) (w : World) (hn : n ≤ 1099511627776) : Calls Tryz.prog 144 #[.string ⟨#[c]⟩, .int .i64 n] w fun e w' => e = .returned (.string (strB (List.replicate n c))) ∧ Below w.heap.size w w' := by
  have h := Tryz.strings_Repeat ⟨#[c]⟩ n w (by omega) (by show 1 * n ≤ _; omega)
  refine h.mono fun e w' h9 => ⟨?_, h9.2⟩
  rw [h9.1]
  have e := Lib.repeatL_replicate c 1 n
  rw [show List.replicate 1 c = [c] from rfl, Nat.mul_one] at e
  show Ending.returned (.string ⟨(Lib.repeatL [c] n).toArray⟩) = _
  rw [e]
theorem typeText_any (r g o cap : Nat) (ts : List Tk) (w : World) (hE : EndsT ts) (h : RdAt r g o cap ts w) : Calls Tryz.prog 112 #[.pointer (some ⟨r, 0, none⟩)] w (PostT r g w (typeS 0 ts)) :=
  rdType r g o cap ts w h hE hE.names repeat_any
theorem param_any (r g o cap : Nat) (ts : List Tk) (w : World) (hE : EndsT ts) (h : RdAt r g o cap ts w) : Calls Tryz.prog 110 #[.pointer (some ⟨r, 0, none⟩)] w (PostP r g w (paramR ts)) :=
  rdParam r g o cap ts w h hE fun us w1 o1 cap1 _ hE1 h1 => typeText_any r g o1 cap1 us w1 hE1 h1
theorem params_any (r g o cap F : Nat) (ts : List Tk) (w : World) (res : PR (List Pm)) (hp : pParams F [] ts = some res) (hE : EndsT ts) (h : RdAt r g o cap ts w) :
    Calls Tryz.prog 109 #[.pointer (some ⟨r, 0, none⟩), .func (.func 110) #[.pointer (some ⟨r, 0, none⟩)] #[]] w (PostR r g w res) :=
  rdParams r g o cap F ts w res h hE (pParams_mono hp) fun w1 o1 cap1 ts1 hE1 h1 _ => param_any r g o1 cap1 ts1 w1 hE1 h1
theorem parB_any (r g o cap F : Nat) (ts : List Tk) (w : World) (R : PR (List Pm)) (hp : pParB F ts = some R) (hE : EndsT ts) (h : RdAt r g o cap ts w) :
    Calls Tryz.prog 111 #[.pointer (some ⟨r, 0, none⟩), .func (.func 110) #[.pointer (some ⟨r, 0, none⟩)] #[]] w (PostB r g w R) := by
  obtain ⟨t, us, rfl⟩ := hE.cons
  unfold pParB needP at hp
  simp only [hdT_cons, List.tail_cons] at hp
  by_cases h1 : isTk t [40] = true
  · have hE1 := hE.tail (isTk_kind h1)
    simp only [if_pos h1, thenP] at hp
    by_cases h2 : isTk (hdT us) [41] = true
    · simp only [if_pos h2, Option.some.injEq] at hp
      have e : R = bracketsP t us (.error 0) := by unfold bracketsP; rw [if_pos h1, if_pos h2]; exact hp.symm
      rw [e]
      exact rdBracketsP r g o cap _ t us w (.error 0) h hE (fun _ _ e => by cases e) fun _ h9 => absurd h2 (by rw [h9]; decide)
    · simp only [if_neg h2] at hp
      cases h3 : pParams F [] us with
      | none => rw [h3] at hp; cases hp
      | some r3 =>
        rw [h3] at hp
        have e : R = bracketsP t us r3 := by
          unfold bracketsP
          rw [if_pos h1, if_neg h2]
          rcases r3 with a | ⟨l, us3⟩
          · simp only [Option.some.injEq] at hp
            exact hp.symm
          · simp only at hp ⊢
            by_cases h4 : isTk (hdT us3) [41] = true
            · simp only [if_pos h4, Option.some.injEq] at hp ⊢
              exact hp.symm
            · simp only [if_neg h4, Option.some.injEq] at hp ⊢
              exact hp.symm
        rw [e]
        exact rdBracketsP r g o cap _ t us w r3 h hE (fun l us3 e => by subst e; exact pParams_ends h3 hE1) fun _ _ w1 o1 cap1 hR hK => params_any r g o1 cap1 F us w1 r3 h3 hE1 hR
  · simp only [if_neg h1, thenP, Option.some.injEq] at hp
    have e : R = bracketsP t us (.error 0) := by unfold bracketsP; rw [if_neg h1]; exact hp.symm
    rw [e]
    exact rdBracketsP r g o cap _ t us w (.error 0) h hE (fun _ _ e => by cases e) fun h9 => absurd h9 h1
theorem program_any (r g o cap F : Nat) (hrl : r ≠ 1) (ts : List Tk) (w : World) (res : PR Pg) (hp : pProg F [] [] ts = some res) (hE : EndsT ts) (h : RdAt r g o cap ts w) (hl : LevT w) :
    Calls Tryz.prog 26 #[.pointer (some ⟨r, 0, none⟩)] w (PostG r g w res) :=
  rdProgram r g o cap F ts w res h hE hp
    (fun w1 o1 cap1 ts1 r1 line hb hE1 hR _ => rdRecord_any r g o1 cap1 line F ts1 w1 r1 hR hE1 hb fun w2 o2 cap2 ts2 r2 hb2 hE2 hR2 _ => params_any r g o2 cap2 F ts2 w2 r2 hb2 hE2 hR2)
    (fun w1 o1 cap1 ts1 r1 line hb hE1 hR hK => rdFunc r g o1 cap1 line F ts1 w1 r1 hR hE1 hb (fun w2 o2 cap2 ts2 r2 hb2 hE2 hR2 _ => parB_any r g o2 cap2 F ts2 w2 r2 hb2 hE2 hR2) (fun w2 o2 cap2 ts2 hE2 hR2 _ => typeText_any r g o2 cap2 ts2 w2 hE2 hR2) (fun w2 o2 cap2 ts2 r2 hb2 hE2 hR2 hK2 => (readsS r g hrl F).block w2 o2 cap2 ts2 r2 hb2 hE2 hR2 (hl.kept (hK.trans hK2) hrl)))
end Go.Proofs.YtghhamgealkodaaGreatDoor
/- syntax: an expression is no deeper than it has tokens; the last token is the end. -/
namespace Go.Proofs.YtghhamgealkodaaGreatDoor
open Go.RowKit Go.Shelf

theorem needP_len {s : List UInt8} {ts us : List Tk} {y : Unit} (h : needP s ts = some (.ok (y, us))) : us.length + 1 = ts.length := by
  unfold needP at h
  split at h
  · rename_i hi
    simp only [Option.some.injEq, Except.ok.injEq, Prod.mk.injEq] at h
    rw [← h.2]; exact is_ne hi
  · simp at h
theorem nameP_len {s : List UInt8} {ts us : List Tk} (h : nameP ts = some (.ok (s, us))) : us.length + 1 = ts.length := by
  unfold nameP at h
  split at h
  · rename_i hi
    simp only [Option.some.injEq, Except.ok.injEq, Prod.mk.injEq] at h
    rw [← h.2]; exact hd_ne (by omega)
  · simp at h
theorem okP_eq {α : Type} {x y : α} {ts us : List Tk} (h : (some (.ok (x, ts)) : Option (PR α)) = some (.ok (y, us))) : x = y ∧ ts = us := by
  simpa using h

theorem parse_depth (f : Nat) :
    (∀ least ts x us, pBetween f least ts = some (.ok (x, us)) → depthE x + us.length ≤ ts.length) ∧ (∀ least e ts x us T, pMore f least e ts = some (.ok (x, us)) → depthE e + ts.length ≤ T → depthE x + us.length ≤ T) ∧
    (∀ ts x us, pUnary f ts = some (.ok (x, us)) → depthE x + us.length ≤ ts.length) ∧ (∀ e ts x us T, pBehind f e ts = some (.ok (x, us)) → depthE e + ts.length ≤ T → depthE x + us.length ≤ T) ∧ (∀ ts x us, pSingle f ts = some (.ok (x, us)) → depthE x + us.length ≤ ts.length) ∧
    (∀ pre ts l us T, pRow f pre ts = some (.ok (l, us)) → depthL pre + ts.length ≤ T → depthL l + us.length ≤ T) ∧ (∀ ts l us, pBrackets f ts = some (.ok (l, us)) → depthL l + us.length + 1 ≤ ts.length) := by
  induction f with
  | zero => refine ⟨?_, ?_, ?_, ?_, ?_, ?_, ?_⟩ <;> intros <;> simp_all [pBetween, pMore, pUnary, pBehind, pSingle, pRow, pBrackets]
  | succ f ih =>
    obtain ⟨i1, i2, i3, i4, i5, i6, i7⟩ := ih
    refine ⟨fun least ts x us h => ?_, fun least e ts x us T h hT => ?_, fun ts x us h => ?_, fun e ts x us T h hT => ?_, fun ts x us h => ?_, fun pre ts l us T h hT => ?_, fun ts l us h => ?_⟩
    · rw [pBetween] at h
      split at h
      · exact i3 _ _ _ h
      · obtain ⟨y, vs, h1, h2⟩ := thenP_ok h
        exact i2 _ _ _ _ _ _ h2 (i1 _ _ _ _ h1)
    · rw [pMore] at h
      split at h
      · rename_i hc
        obtain ⟨y, vs, h1, h2⟩ := thenP_ok h
        have a := i1 _ _ _ _ h1
        have b := hd_ne (ts := ts) (by omega)
        have d : 1 ≤ depthE y := by cases y; simp [depthE]
        refine i2 _ _ _ _ _ _ h2 ?_
        simp only [depthE, depthL]
        omega
      · obtain ⟨rfl, rfl⟩ := okP_eq h; exact hT
    · rw [pUnary] at h
      split at h
      · rename_i hc
        obtain ⟨y, vs, h1, h2⟩ := thenP_ok h
        have a := i3 _ _ _ h1
        have b := hd_ne (ts := ts) (by omega)
        obtain ⟨rfl, rfl⟩ := okP_eq h2
        simp only [depthE, depthL]
        omega
      · obtain ⟨y, vs, h1, h2⟩ := thenP_ok h
        exact i4 _ _ _ _ _ h2 (i5 _ _ _ h1)
    · rw [pBehind] at h
      split at h
      · rename_i hc
        obtain ⟨y, vs, h1, h2⟩ := thenP_ok h
        obtain ⟨z, vs', h3, h4⟩ := thenP_ok h2
        have a := i1 _ _ _ _ h1
        have b := is_ne hc
        have c := needP_len h3
        have d : 1 ≤ depthE y := by cases y; simp [depthE]
        refine i4 _ _ _ _ _ h4 ?_
        simp only [depthE, depthL]
        omega
      · split at h
        · rename_i hc
          obtain ⟨y, vs, h1, h2⟩ := thenP_ok h
          have b := is_ne hc
          have c := nameP_len h1
          refine i4 _ _ _ _ _ h2 ?_
          simp only [depthE, depthL]
          omega
        · obtain ⟨rfl, rfl⟩ := okP_eq h; exact hT
    · rw [pSingle] at h
      split at h
      · rename_i hc
        have b := hd_ne (ts := ts) (by omega)
        obtain ⟨rfl, rfl⟩ := okP_eq h
        simp only [depthE, depthL]; omega
      · split at h
        · rename_i hc
          have b := hd_ne (ts := ts) (by omega)
          obtain ⟨rfl, rfl⟩ := okP_eq h
          simp only [depthE, depthL]; omega
        · split at h
          · rename_i hc
            have b := hd_ne (ts := ts) (by omega)
            split at h
            · obtain ⟨y, vs, h1, h2⟩ := thenP_ok h
              have a := i7 _ _ _ h1
              obtain ⟨rfl, rfl⟩ := okP_eq h2
              simp only [depthE]; omega
            · obtain ⟨rfl, rfl⟩ := okP_eq h
              simp only [depthE, depthL]; omega
          · split at h
            · rename_i hc
              have b := is_ne hc
              obtain ⟨rfl, rfl⟩ := okP_eq h
              simp only [depthE, depthL]; omega
            · split at h
              · rename_i hc
                have b := is_ne hc
                obtain ⟨rfl, rfl⟩ := okP_eq h
                simp only [depthE, depthL]; omega
              · split at h
                · rename_i hc
                  have b := is_ne hc
                  obtain ⟨s, vs, h1, h2⟩ := thenP_ok h
                  obtain ⟨y, vs', h3, h4⟩ := thenP_ok h2
                  have a := i7 _ _ _ h3
                  have c := nameP_len h1
                  obtain ⟨rfl, rfl⟩ := okP_eq h4
                  simp only [depthE]; omega
                · split at h
                  · rename_i hc
                    have b := is_ne hc
                    obtain ⟨y, vs, h1, h2⟩ := thenP_ok h
                    obtain ⟨z, vs', h3, h4⟩ := thenP_ok h2
                    have a := i6 _ _ _ _ _ h1 (Nat.le_refl _)
                    have c := needP_len h3
                    obtain ⟨rfl, rfl⟩ := okP_eq h4
                    simp only [depthE, depthL] at a ⊢; omega
                  · obtain ⟨z, vs, h1, h2⟩ := thenP_ok h
                    obtain ⟨y, vs', h3, h4⟩ := thenP_ok h2
                    obtain ⟨z', vs'', h5, h6⟩ := thenP_ok h4
                    have a := i1 _ _ _ _ h3
                    have b := needP_len h1
                    have c := needP_len h5
                    obtain ⟨rfl, rfl⟩ := okP_eq h6
                    omega
    · rw [pRow] at h
      obtain ⟨y, vs, h1, h2⟩ := thenP_ok h
      have a := i1 _ _ _ _ h1
      split at h2
      · rename_i hc
        have b := is_ne hc
        refine i6 _ _ _ _ _ h2 ?_
        rw [depthL_append]; simp only [depthL]
        omega
      · obtain ⟨rfl, rfl⟩ := okP_eq h2
        rw [depthL_append]; simp only [depthL]
        omega
    · rw [pBrackets] at h
      obtain ⟨z, vs, h1, h2⟩ := thenP_ok h
      have b := needP_len h1
      split at h2
      · rename_i hc
        have c := is_ne hc
        obtain ⟨rfl, rfl⟩ := okP_eq h2
        simp only [depthL]; omega
      · obtain ⟨y, vs', h3, h4⟩ := thenP_ok h2
        obtain ⟨z', vs'', h5, h6⟩ := thenP_ok h4
        have a := i6 _ _ _ _ _ h3 (Nat.le_refl _)
        have c := needP_len h5
        obtain ⟨rfl, rfl⟩ := okP_eq h6
        simp only [depthL] at a; omega

theorem textF_kind : ∀ (f : Nat) (m : List UInt8) (a : Nat) (r : List UInt8), (textF f m a r).k ≠ 1
  | 0, _, _, _ => by simp [textF]
  | _ + 1, _, _, [] => by simp [textF]
  | f + 1, m, a, x :: r => by
    unfold textF
    split
    · simp
    · split
      · simp
      · split
        · simp
        · exact textF_kind f _ _ _
theorem tokT_name (l : List UInt8) (h : (tokT l).k = 1) : (tokT l).s.length ≤ 20 := by
  unfold tokT at h ⊢
  cases l with
  | nil => simp at h
  | cons x r =>
    simp only at h ⊢
    split at h
    · rename_i hc
      rw [if_pos hc]
      unfold nameR at h ⊢
      split at h
      · simp at h
      · rename_i h1
        rw [if_neg h1]
        split at h
        · simp at h
        · rename_i h2
          rw [if_neg h2]
          simp only
          omega
    · rename_i hc
      rw [if_neg hc]
      split at h
      · unfold numT at h
        split at h <;> simp at h
      · rename_i hd
        rw [if_neg hd]
        split at h
        · exact absurd h (textF_kind _ _ _ _)
        · unfold signT at h
          split at h <;> simp at h
theorem nextT_name (l : List UInt8) (line a : Nat) : NmT (tkT l line a) := fun h => by
  have := tokT_name _ (show (tokT (l.drop (a + gapN (l.drop a)))).k = 1 from h)
  have e : (tkT l line a).s = (tokT (l.drop (a + gapN (l.drop a)))).s := rfl
  rw [e]; omega
theorem scanS_ends (l : List UInt8) : ∀ (f line a : Nat), a ≤ l.length → l.length < a + f → (scanS l f line a).2.2 = 0 → EndsT (scanS l f line a).1 := by
  intro f
  induction f with
  | zero => intro line a ha hf; omega
  | succ f ih =>
    intro line a ha hf h
    rw [scanS] at h ⊢
    split at h
    · rename_i he; exact absurd h he
    · rename_i he
      rw [if_neg he]
      have he0 : (nextT l a).e = 0 := by simpa using he
      split at h
      · rename_i hk
        rw [if_pos hk]
        exact hk
      · rename_i hk
        rw [if_neg hk]
        split at h
        · rename_i h2; exact absurd h h2
        · rename_i h2
          rw [if_neg h2]
          have hm := nextT_move ha he0 hk
          have hr := ih (lineT l line a) (placeT l a + (nextT l a).sz) hm.2 (by omega) (by simpa using h2)
          obtain ⟨t, ts, hts⟩ := hr.cons
          simp only [hts] at hr ⊢
          exact ⟨hk, nextT_name l line a, hr⟩

theorem scanB_ends (l : List UInt8) (h : (scanB l).2.2 = 0) : EndsT (scanB l).1 := by
  unfold scanB at h ⊢
  split at h
  · simp at h
  · rename_i hl
    rw [if_neg hl]
    exact scanS_ends l _ _ _ (Nat.zero_le _) (by omega) h
end Go.Proofs.YtghhamgealkodaaGreatDoor
/- syntax: how deep statements and programs are. -/
namespace Go.Proofs.YtghhamgealkodaaGreatDoor
open Go.RowKit Go.Shelf

mutual
def depthS : St → Nat
  | .mk _ _ es b e _ => 1 + max (depthL es) (max (depthSs b) (depthSs e))
def depthSs : List St → Nat
  | [] => 0
  | x :: xs => max (depthS x) (depthSs xs)
end
theorem depthSs_append (a b : List St) : depthSs (a ++ b) = max (depthSs a) (depthSs b) := by
  induction a with
  | nil => simp [depthSs]
  | cons x xs ih => simp [depthSs, ih, Nat.max_assoc]
theorem depthSs_mem {l : List St} {x : St} (h : x ∈ l) : depthS x ≤ depthSs l := by
  induction l with
  | nil => cases h
  | cons y ys ih =>
    simp only [depthSs]
    rcases List.mem_cons.1 h with rfl | h
    · omega
    · have := ih h; omega
theorem flatN {sz : Nat} {us : List (List Value)} (hfive : ∀ c ∈ us, c.length = sz) {i j : Nat} {c : List Value} (hc : us[i]? = some c) (hj : j < sz) : us.flatten[i * sz + j]? = c[j]? := by
  induction us generalizing i with
  | nil => simp at hc
  | cons d ds ih =>
    have hd := hfive d (by simp)
    cases i with
    | zero =>
      simp only [List.getElem?_cons_zero, Option.some.injEq] at hc
      subst hc
      rw [List.flatten_cons, List.getElem?_append_left (by omega)]; simp
    | succ i =>
      have e : (i + 1) * sz = i * sz + sz := by rw [Nat.add_mul]; simp
      rw [List.flatten_cons, List.getElem?_append_right (by omega)]
      rw [show (i + 1) * sz + j - d.length = i * sz + j by omega]
      exact ih (fun c hc => hfive c (by simp [hc])) (by simpa using hc)

set_option maxRecDepth 100000 in
set_option maxHeartbeats 4000000 in
theorem greatestS_any (S : Nat → Prop) (w : World) (l : List St) (v : Value) (h : StsIn S w l v) (hd : depthSs l ≤ 4611686018427387904)
    (hone : ∀ x ∈ l, ∀ c w', Below w.heap.size w w' → StIn S w' x c → Calls Tryz.prog 66 #[c] w' fun e w'' => e = .returned (.int .i64 (depthS x)) ∧ Below w.heap.size w w'') :
    Calls Tryz.prog 65 #[v, .func (.func 66) #[] #[]] w fun e w' => e = .returned (.int .i64 (depthSs l)) ∧ Below w.heap.size w w' := by
  obtain ⟨d0, n, cap, rfl, hn⟩ : ∃ d0 n cap, v = .slice d0 n cap ∧ n = l.length := by
    obtain ⟨g, cap, us, ⟨rfl, rfl⟩ | ⟨rfl, _⟩, _⟩ := h
    · exact ⟨_, _, _, rfl, rfl⟩
    · exact ⟨_, _, _, rfl, rfl⟩
  have hcells : ∀ i x, l[i]? = some x → ∃ g a b e0 e1 e2 f0 f1 f2 k0 k1 k2 k, d0 = some ⟨g, 0, none⟩ ∧ g < w.heap.size ∧ i < n ∧ n ≤ cap ∧ cap ≤ maxLen ∧ StIn S w x (.agg #[.int .i64 a, .string b, .slice e0 e1 e2, .slice f0 f1 f2, .slice k0 k1 k2, .int .i64 k]) ∧
      w.cell? ⟨g, i * 6, none⟩ = some (.int .i64 a) ∧ w.cell? ⟨g, i * 6 + 1, none⟩ = some (.string b) ∧ w.cell? ⟨g, i * 6 + 2, none⟩ = some (.slice e0 e1 e2) ∧ w.cell? ⟨g, i * 6 + 3, none⟩ = some (.slice f0 f1 f2) ∧ w.cell? ⟨g, i * 6 + 4, none⟩ = some (.slice k0 k1 k2) ∧ w.cell? ⟨g, i * 6 + 5, none⟩ = some (.int .i64 k) := by
    intro i x hx
    obtain ⟨g, cap', us, ⟨rfl, _⟩ | ⟨hv, hne, hlen, hS, hg, hc, hm, hcell, hsix⟩, hk⟩ := h
    · simp at hx
    · cases hv
      have hi : i < l.length := (List.getElem?_eq_some_iff.1 hx).1
      obtain ⟨c, hc'⟩ : ∃ c, us[i]? = some c := ⟨us[i]'(by omega), List.getElem?_eq_getElem (by omega)⟩
      have hxx := hk i x c hx hc'
      obtain ⟨a, b, e0, e1, e2, f0, f1, f2, k0, k1, k2, k, hag⟩ := hxx.agg
      have hcl : c = [.int .i64 a, .string b, .slice e0 e1 e2, .slice f0 f1 f2, .slice k0 k1 k2, .int .i64 k] := by
        have := congrArg (fun v => match v with | .agg a => a.toList | _ => []) hag
        simpa using this
      subst hcl
      refine ⟨g, a, b, e0, e1, e2, f0, f1, f2, k0, k1, k2, k, rfl, hg, by omega, by omega, hm, hxx, ?_, ?_, ?_, ?_, ?_, ?_⟩
      · exact hcell _ _ (by have := flatN hsix hc' (j := 0) (by omega); simpa using this)
      · exact hcell _ _ (by have := flatN hsix hc' (j := 1) (by omega); simpa using this)
      · exact hcell _ _ (by have := flatN hsix hc' (j := 2) (by omega); simpa using this)
      · exact hcell _ _ (by have := flatN hsix hc' (j := 3) (by omega); simpa using this)
      · exact hcell _ _ (by have := flatN hsix hc' (j := 4) (by omega); simpa using this)
      · exact hcell _ _ (by have := flatN hsix hc' (j := 5) (by omega); simpa using this)
  have HC : Hid (∀ i x, l[i]? = some x → ∃ g a b e0 e1 e2 f0 f1 f2 k0 k1 k2 k, d0 = some ⟨g, 0, none⟩ ∧ g < w.heap.size ∧ i < n ∧ n ≤ cap ∧ cap ≤ maxLen ∧ StIn S w x (.agg #[.int .i64 a, .string b, .slice e0 e1 e2, .slice f0 f1 f2, .slice k0 k1 k2, .int .i64 k]) ∧
      w.cell? ⟨g, i * 6, none⟩ = some (.int .i64 a) ∧ w.cell? ⟨g, i * 6 + 1, none⟩ = some (.string b) ∧ w.cell? ⟨g, i * 6 + 2, none⟩ = some (.slice e0 e1 e2) ∧ w.cell? ⟨g, i * 6 + 3, none⟩ = some (.slice f0 f1 f2) ∧ w.cell? ⟨g, i * 6 + 4, none⟩ = some (.slice k0 k1 k2) ∧ w.cell? ⟨g, i * 6 + 5, none⟩ = some (.int .i64 k)) := hcells
  have HONE : Hid (∀ x ∈ l, ∀ c w', Below w.heap.size w w' → StIn S w' x c → Calls Tryz.prog 66 #[c] w' fun e w'' => e = .returned (.int .i64 (depthS x)) ∧ Below w.heap.size w w'') := hone
  have hlen : n ≤ 9223372036854775807 := by
    rcases Nat.eq_zero_or_pos n with h0 | h0
    · omega
    · obtain ⟨_, _, _, _, _, _, _, _, _, _, _, _, _, _, _, _, h1, h2, _⟩ := hcells 0 (l[0]'(by omega)) (List.getElem?_eq_getElem (by omega))
      unfold maxLen at h2
      omega
  have HN : Hid (n = l.length) := hn
  clear h hone hcells hn
  go_enter Tryz.func65, Tryz.ntmps65
  go_wp2_with fail
  go_loopw [5, 10] (fun m i wr => ∃ k : Nat, k ≤ n ∧ i = .int .i64 k ∧ m = .int .i64 (depthSs (l.take k)) ∧ Below w.heap.size w wr) (fun _ i _ => n - (intOf i).toNat)
  case atStart => exact ⟨0, Nat.zero_le _, rfl, rfl, Below.refl _ _⟩
  case round =>
    obtain ⟨k, hk, rfl, rfl, hbw⟩ := hrel
    by_cases hlt : k < n
    · obtain ⟨x, hx⟩ : ∃ x, l[k]? = some x := ⟨l[k]'(by rw [← HN.out]; exact hlt), List.getElem?_eq_getElem (by rw [← HN.out]; exact hlt)⟩
      obtain ⟨g, a, b, e0, e1, e2, f0, f1, f2, k0, k1, k2, j, rfl, hg, -, hnc, hcm, hxx, m0, m1, m2, m3, m4, m5⟩ := HC.out k x hx
      have n0 := (hbw.cell (p := ⟨g, k * 6, none⟩) hg).trans m0
      have n1 := (hbw.cell (p := ⟨g, k * 6 + 1, none⟩) hg).trans m1
      have n2 := (hbw.cell (p := ⟨g, k * 6 + 2, none⟩) hg).trans m2
      have n3 := (hbw.cell (p := ⟨g, k * 6 + 3, none⟩) hg).trans m3
      have n4 := (hbw.cell (p := ⟨g, k * 6 + 4, none⟩) hg).trans m4
      have n5 := (hbw.cell (p := ⟨g, k * 6 + 5, none⟩) hg).trans m5
      clear m0 m1 m2 m3 m4 m5
      have hlt' : (k : Int) < (n : Int) := by omega
      have hb4 : Below w.heap.size w (wr.alloc (.cells #[.int .i64 a, .string b, .slice e0 e1 e2, .slice f0 f1 f2, .slice k0 k1 k2, .int .i64 j] 117)) := hbw.alloc hbw.size _
      have hx4 := StIn.kept hxx hb4.size fun k' _ hlt => hb4.block k' hlt
      have c4 := HONE.out x (List.mem_of_getElem? hx) _ _ hb4 hx4
      have HTK : Hid (depthSs (l.take (k + 1)) = max (depthSs (l.take k)) (depthS x)) := show _ = _ by
        rw [List.take_add_one, hx, depthSs_append]; simp [depthSs]
      have hmx : depthSs (l.take (k + 1)) ≤ depthSs l := by
        have := depthSs_append (l.take (k + 1)) (l.drop (k + 1))
        rw [List.take_append_drop] at this
        omega
      have hd1 : depthS x ≤ 4611686018427387904 := by have := depthSs_mem (List.mem_of_getElem? hx); omega
      have hd2 : depthSs (l.take k) ≤ 4611686018427387904 := by have := HTK.out; omega
      clear hb4 hx4 hxx hbw HC HONE
      generalize depthSs (l.take k) = M at *
      generalize hD : depthS x = D at *
      go_wp2_with fail
      refine c4.mono ?_
      clear c4
      rintro e w5 ⟨rfl, hb5⟩
      have HB5 : Hid (Below w.heap.size w w5) := hb5
      clear hb5
      go_wp2
      refine ⟨⟨k + 1, by omega, by go_num, ?_, HB5.out⟩, by simp [intOf]; omega⟩
      rw [HTK.out]; congr 1; omega
    · have hkn : k = n := by omega
      have hlt' : ¬(k : Int) < (n : Int) := by omega
      have htk : l.take k = l := List.take_of_length_le (by have := HN.out; omega)
      have HB5 : Hid (Below w.heap.size w wr) := hbw
      clear hbw HC HONE
      rw [htk]
      clear htk
      go_wp2
      refine bodyPost_ret (v := .int .i64 (depthSs l)) (by simp [results, Tryz.results65, go_sem]) rfl ⟨rfl, HB5.out⟩

theorem StIn.rowsOf {S : Nat → Prop} {w : World} {x : St} {a : Int} {b : ByteArray} {ve vb vl : Value} {c : Int} (h : StIn S w x (.agg #[.int .i64 a, .string b, ve, vb, vl, .int .i64 c])) : ∃ k s es body els line, x = .mk k s es body els line ∧ a = (k : Int) ∧ b = strB s ∧ c = (line : Int) ∧ RowIn S w es ve ∧ StsIn S w body vb ∧ StsIn S w els vl := by
  cases h with
  | mk k s es body els line _ _ _ gb cb gl cl ub ul he hb hbk hl hlk => exact ⟨k, s, es, body, els, line, rfl, rfl, rfl, rfl, he, ⟨gb, cb, ub, hb, hbk⟩, ⟨gl, cl, ul, hl, hlk⟩⟩
theorem below_via {w w2 w' : World} (hb2 : Below w.heap.size w w2) (h2 : Below w2.heap.size w2 w') : Below w.heap.size w w' := hb2.trans (h2.mono hb2.size)

set_option maxRecDepth 100000 in
set_option maxHeartbeats 4000000 in
theorem stmtDepth_one (S : Nat → Prop) (w1 : World) (x : St) (v : Value) (hx : StIn S w1 x v) (hd : depthS x ≤ 4611686018427387904)
    (hg : ∀ l v' w2, (∀ y ∈ l, depthS y < depthS x) → depthSs l < depthS x → StsIn S w2 l v' → Calls Tryz.prog 65 #[v', .func (.func 66) #[] #[]] w2 fun e w' => e = .returned (.int .i64 (depthSs l)) ∧ Below w2.heap.size w2 w') :
    Calls Tryz.prog 66 #[v] w1 fun e w' => e = .returned (.int .i64 (depthS x)) ∧ Below w1.heap.size w1 w' := by
  obtain ⟨a, b, e0, e1, e2, b0, b1, b2, l0, l1, l2, c, rfl⟩ := hx.agg
  obtain ⟨k, s, es, body, els, line, rfl, rfl, rfl, rfl, hes, hbo, hel⟩ := hx.rowsOf
  have hD : depthS (.mk k s es body els line) = 1 + max (depthL es) (max (depthSs body) (depthSs els)) := by simp [depthS]
  obtain ⟨sB, hsB⟩ : ∃ sB, sB = strB s := ⟨_, rfl⟩
  rw [← hsB]
  obtain ⟨w2, hw2⟩ : ∃ w2, w2 = w1.alloc (.cells #[.int .i64 (k : Int), .string sB, .slice e0 e1 e2, .slice b0 b1 b2, .slice l0 l1 l2, .int .i64 (line : Int)] 117) := ⟨_, rfl⟩
  have hb12 : Below w1.heap.size w1 w2 := by rw [hw2]; exact (Below.refl _ w1).alloc (Nat.le_refl _) _
  have p2 : w2.heap[w1.heap.size]? = some (.cells #[.int .i64 (k : Int), .string sB, .slice e0 e1 e2, .slice b0 b1 b2, .slice l0 l1 l2, .int .i64 (line : Int)] 117 (0, 0)) := by rw [hw2]; exact World.alloc_heap_new _ _
  have hN : w1.heap.size < w2.heap.size := (Array.getElem?_eq_some_iff.1 p2).1
  obtain ⟨-, -, q2, q3, q4, -, -⟩ := cells6 p2
  have CE : Hid (∀ W, Below w2.heap.size w2 W → Calls Tryz.prog 78 #[.slice e0 e1 e2, .func (.func 38) #[] #[]] W fun e w' => e = .returned (.int .i64 (depthL es)) ∧ Hid (Below w2.heap.size w2 w')) := fun W hW => by
    have hb1W : Below w1.heap.size w1 W := below_via hb12 hW
    refine (greatest_any S W es _ (hes.kept hb1W.size fun k _ hlt => hb1W.block k hlt) (by omega) fun y hy c w' hb' hy' => exprDepth_any S (depthE y) W y c w' (Nat.le_refl _) (by have := depthL_mem hy; omega) hb' hy').mono fun e w' h => ⟨h.1, below_via hW h.2⟩
  have CG : ∀ (l : List St) (v' : Value), StsIn S w1 l v' → (∀ y ∈ l, depthS y < depthS (.mk k s es body els line)) → depthSs l < depthS (.mk k s es body els line) → ∀ W, Below w2.heap.size w2 W → Calls Tryz.prog 65 #[v', .func (.func 66) #[] #[]] W fun e w' => e = .returned (.int .i64 (depthSs l)) ∧ Hid (Below w2.heap.size w2 w') := fun l v' hl h1 h2 W hW => by
    have hb1W : Below w1.heap.size w1 W := below_via hb12 hW
    exact (hg l v' W h1 h2 (hl.kept hb1W.size fun k _ hlt => hb1W.block k hlt)).mono fun e w' h => ⟨h.1, below_via hW h.2⟩
  have CB : Hid (∀ W, Below w2.heap.size w2 W → Calls Tryz.prog 65 #[.slice b0 b1 b2, .func (.func 66) #[] #[]] W fun e w' => e = .returned (.int .i64 (depthSs body)) ∧ Hid (Below w2.heap.size w2 w')) := CG body _ hbo (fun y hy => by have := depthSs_mem hy; omega) (by omega)
  have CL : Hid (∀ W, Below w2.heap.size w2 W → Calls Tryz.prog 65 #[.slice l0 l1 l2, .func (.func 66) #[] #[]] W fun e w' => e = .returned (.int .i64 (depthSs els)) ∧ Hid (Below w2.heap.size w2 w')) := CG els _ hel (fun y hy => by have := depthSs_mem hy; omega) (by omega)
  rw [hD] at hd ⊢
  generalize depthL es = M1 at *
  generalize depthSs body = M2 at *
  generalize depthSs els = M3 at *
  have HB12 : Hid (Below w1.heap.size w1 w2) := hb12
  have hm1 : M1 ≤ 4611686018427387904 := by omega
  have hm2 : M2 ≤ 4611686018427387904 := by omega
  have hm3 : M3 ≤ 4611686018427387904 := by omega
  have hw2' := hw2.symm
  clear CG hg hx hes hbo hel hb12 p2 hw2 hD hd hsB
  go_enter Tryz.func66, Tryz.ntmps66
  go_wp2_with fail
  have z2 : ∀ c : ClsP (fun W => Below w2.heap.size w2 W), c.1.cell? ⟨w1.heap.size, 2, none⟩ = some (.slice e0 e1 e2) := fun c => (c.2.cell (p := ⟨w1.heap.size, 2, none⟩) hN).trans q2
  have z3 : ∀ c : ClsP (fun W => Below w2.heap.size w2 W), c.1.cell? ⟨w1.heap.size, 3, none⟩ = some (.slice b0 b1 b2) := fun c => (c.2.cell (p := ⟨w1.heap.size, 3, none⟩) hN).trans q3
  have z4 : ∀ c : ClsP (fun W => Below w2.heap.size w2 W), c.1.cell? ⟨w1.heap.size, 4, none⟩ = some (.slice l0 l1 l2) := fun c => (c.2.cell (p := ⟨w1.heap.size, 4, none⟩) hN).trans q4
  have HD2 : Hid (Below w2.heap.size w2 w2.drew) := (Below.refl _ _).drew
  refine mix_begin (n := 12) (S := fun w' => ∃ c : ClsP (fun W => Below w2.heap.size w2 W), w' = c.1) (by kernel_rfl) rfl rfl ?_
  refine mix_seg (fuel := 6) (fuel' := 12) (idx := [0, 1, 3, 4, 6, 7]) (by decide +kernel) rfl rfl rfl (fun _ _ _ _ _ h => h) ⟨⟨w2.drew, HD2.out⟩, rfl⟩ ?_
  show wpQuiet _ _ _ _ [_, _, _, _, _, _] _
  iterate 6 (go_big_quiet_step (exact rfl))
  refine wpQuiet_nil ?_
  refine mix_loud (fuel := 5) (fuel' := 6) (i := 2) rfl (by decide +kernel) rfl rfl (by rfl) ?_
  intro K hK
  go_simp
  refine (CE.out w2.drew HD2.out).mono ?_
  rintro e w3 ⟨rfl, HB3⟩
  (try go_simp)
  refine hK.out _ _ ⟨⟨w3, HB3.out⟩, rfl⟩ ?_
  clear hK K
  refine mix_loud (fuel := 4) (fuel' := 5) (i := 5) rfl (by decide +kernel) rfl rfl (by rfl) ?_
  intro K hK
  go_simp
  refine (CB.out w3 HB3.out).mono ?_
  rintro e w4 ⟨rfl, HB4⟩
  (try go_simp)
  refine hK.out _ _ ⟨⟨w4, HB4.out⟩, rfl⟩ ?_
  clear hK K
  refine mix_loud (fuel := 3) (fuel' := 4) (i := 8) rfl (by decide +kernel) rfl rfl (by rfl) ?_
  intro K hK
  go_simp
  refine (CL.out w4 HB4.out).mono ?_
  rintro e w5 ⟨rfl, HB5⟩
  (try go_simp)
  refine hK.out _ _ ⟨⟨w5, HB5.out⟩, rfl⟩ ?_
  clear hK K
  refine mix_loud (fuel := 2) (fuel' := 3) (i := 9) rfl (by decide +kernel) rfl rfl (by rfl) ?_
  intro K hK
  go_simp
  refine hK.out _ _ ⟨⟨w5, HB5.out⟩, rfl⟩ ?_
  clear hK K
  simp only [Act.put, List.setIfInBounds_toArray, List.set_cons_zero, List.set_cons_succ]
  refine mix_seg (fuel := 0) (fuel' := 2) (idx := [10, 11]) (by decide +kernel) rfl rfl rfl (fun _ _ _ _ _ h => h) ⟨⟨w5, HB5.out⟩, rfl⟩ ?_
  show wpQuiet _ _ _ _ [_, _] _
  iterate 2 (go_big_quiet_step (exact rfl))
  refine wpQuiet_nil ?_
  refine mix_done (by decide +kernel) ?_
  have hV : (1 + if (if M1 < M2 then (M2 : Int) else M1) < (M3 : Int) then (M3 : Int) else if M1 < M2 then (M2 : Int) else M1) = ((1 + max M1 (max M2 M3) : Nat) : Int) := by
    by_cases h1 : M1 < M2
    · simp only [if_pos h1]
      split <;> omega
    · simp only [if_neg h1]
      split <;> omega
  rw [hV]
  obtain ⟨V, hV2⟩ : ∃ V, V = 1 + max M1 (max M2 M3) := ⟨_, rfl⟩
  rw [← hV2]
  have HV2 : Hid (V = 1 + max M1 (max M2 M3)) := hV2
  have HBF : Hid (Below w1.heap.size w1 w5) := below_via HB12.out HB5.out
  clear hV hV2 z2 z3 z4 q2 q3 q4 hw2'
  go_wp2
  all_goals exact bodyPost_ret (v := .int .i64 (V : Int)) (by simp [results, Tryz.results66, go_sem]) rfl ⟨by rw [show (V : Int) = 1 + ((max M1 (max M2 M3) : Nat) : Int) by have := HV2.out; omega], HBF.out⟩

/-- How deep a statement in memory is. -/
theorem stmtDepth_any (S : Nat → Prop) : ∀ (d : Nat) (x : St) (v : Value) (w1 : World), depthS x ≤ d → d ≤ 4611686018427387904 → StIn S w1 x v →
    Calls Tryz.prog 66 #[v] w1 fun e w' => e = .returned (.int .i64 (depthS x)) ∧ Below w1.heap.size w1 w' := by
  intro d
  induction d with
  | zero => intro x v w1 h; cases x; simp [depthS] at h
  | succ d ih =>
    intro x v w1 hx hd hE
    refine stmtDepth_one S w1 x v hE (by omega) fun l v' w2 hl hs hrow => ?_
    exact greatestS_any S w2 l v' hrow (by omega) fun y hy c w' hb' hy' => (ih y c w' (by have := hl y hy; omega) (by omega) hy').mono fun e w'' h => ⟨h.1, below_via hb' h.2⟩
theorem greatestS_all (S : Nat → Prop) (w : World) (l : List St) (v : Value) (h : StsIn S w l v) (hd : depthSs l ≤ 4611686018427387904) :
    Calls Tryz.prog 65 #[v, .func (.func 66) #[] #[]] w fun e w' => e = .returned (.int .i64 (depthSs l)) ∧ Below w.heap.size w w' :=
  greatestS_any S w l v h hd fun y hy c w' hb' hy' => (stmtDepth_any S (depthS y) y c w' (Nat.le_refl _) (by have := depthSs_mem hy; omega) hy').mono fun e w'' h => ⟨h.1, below_via hb' h.2⟩

/-- How deep functions are. -/
def depthFs : List Fc → Nat
  | [] => 0
  | x :: xs => max (depthSs x.body) (depthFs xs)
theorem depthFs_append (a b : List Fc) : depthFs (a ++ b) = max (depthFs a) (depthFs b) := by
  induction a with
  | nil => simp [depthFs]
  | cons x xs ih => simp [depthFs, ih, Nat.max_assoc]
theorem depthFs_mem {l : List Fc} {x : Fc} (h : x ∈ l) : depthSs x.body ≤ depthFs l := by
  induction l with
  | nil => cases h
  | cons y ys ih =>
    simp only [depthFs]
    rcases List.mem_cons.1 h with rfl | h
    · omega
    · have := ih h; omega

set_option maxRecDepth 100000 in
set_option maxHeartbeats 4000000 in
theorem programDepth_any (S : Nat → Prop) (w : World) (p : Pg) (v : Value) (h : PgIn S w p v) (hd : depthFs p.funs ≤ 4611686018427387904) :
    Calls Tryz.prog 27 #[v] w fun e w' => e = .returned (.int .i64 (depthFs p.funs)) ∧ Below w.heap.size w w' := by
  obtain ⟨rs, l⟩ := p
  simp only at hd ⊢
  obtain ⟨vr, vf, rfl, hr0, h⟩ := h
  simp only at h hr0
  obtain ⟨rb, rc, rfl⟩ := hr0.slice
  obtain ⟨d0, n, cap, rfl, hn⟩ : ∃ d0 n cap, vf = .slice d0 n cap ∧ n = l.length := by
    obtain ⟨b, c, rfl⟩ := h.slice
    exact ⟨_, _, _, rfl, rfl⟩
  obtain ⟨rn, hrn⟩ : ∃ rn, rn = rs.length := ⟨_, rfl⟩
  rw [← hrn]
  have hcells : ∀ i x, l[i]? = some x → ∃ g a e0 e1 e2 b f0 f1 f2 k, d0 = some ⟨g, 0, none⟩ ∧ g < w.heap.size ∧ i < n ∧ n ≤ cap ∧ cap ≤ maxLen ∧ StsIn S w x.body (.slice f0 f1 f2) ∧
      w.cell? ⟨g, i * 5, none⟩ = some (.string a) ∧ w.cell? ⟨g, i * 5 + 1, none⟩ = some (.slice e0 e1 e2) ∧ w.cell? ⟨g, i * 5 + 2, none⟩ = some (.string b) ∧ w.cell? ⟨g, i * 5 + 3, none⟩ = some (.slice f0 f1 f2) ∧ w.cell? ⟨g, i * 5 + 4, none⟩ = some (.int .i64 k) := by
    intro i x hx
    rcases h with ⟨rfl, _⟩ | ⟨g, cap', us, hv, hne, hlen, hS, hg, hc, hm, hcell, hfive, hk⟩
    · simp at hx
    · cases hv
      have hi : i < l.length := (List.getElem?_eq_some_iff.1 hx).1
      obtain ⟨c, hc'⟩ : ∃ c, us[i]? = some c := ⟨us[i]'(by omega), List.getElem?_eq_getElem (by omega)⟩
      obtain ⟨vp, vb, rfl, hxp, hxb⟩ := hk i x c hx hc'
      obtain ⟨e0, e1, rfl⟩ := hxp.slice
      obtain ⟨f0, f1, f2, rfl⟩ := hxb.slice
      refine ⟨g, strB x.name, e0, x.params.length, e1, strB x.result, f0, f1, f2, (x.line : Int), rfl, hg, by omega, by omega, hm, hxb, ?_, ?_, ?_, ?_, ?_⟩
      · exact hcell _ _ (by have := flatN hfive hc' (j := 0) (by omega); simpa using this)
      · exact hcell _ _ (by have := flatN hfive hc' (j := 1) (by omega); simpa using this)
      · exact hcell _ _ (by have := flatN hfive hc' (j := 2) (by omega); simpa using this)
      · exact hcell _ _ (by have := flatN hfive hc' (j := 3) (by omega); simpa using this)
      · exact hcell _ _ (by have := flatN hfive hc' (j := 4) (by omega); simpa using this)
  have HC : Hid (∀ i x, l[i]? = some x → ∃ g a e0 e1 e2 b f0 f1 f2 k, d0 = some ⟨g, 0, none⟩ ∧ g < w.heap.size ∧ i < n ∧ n ≤ cap ∧ cap ≤ maxLen ∧ StsIn S w x.body (.slice f0 f1 f2) ∧
      w.cell? ⟨g, i * 5, none⟩ = some (.string a) ∧ w.cell? ⟨g, i * 5 + 1, none⟩ = some (.slice e0 e1 e2) ∧ w.cell? ⟨g, i * 5 + 2, none⟩ = some (.string b) ∧ w.cell? ⟨g, i * 5 + 3, none⟩ = some (.slice f0 f1 f2) ∧ w.cell? ⟨g, i * 5 + 4, none⟩ = some (.int .i64 k)) := hcells
  have hlen : n ≤ 9223372036854775807 := by
    rcases Nat.eq_zero_or_pos n with h0 | h0
    · omega
    · obtain ⟨_, _, _, _, _, _, _, _, _, _, _, _, _, h1, h2, _⟩ := hcells 0 (l[0]'(by omega)) (List.getElem?_eq_getElem (by omega))
      unfold maxLen at h2
      omega
  have HN : Hid (n = l.length) := hn
  obtain ⟨w1, hw1⟩ : ∃ w1, w1 = w.alloc (pgO (.slice rb rn rc) (.slice d0 n cap)) := ⟨_, rfl⟩
  have HB1 : Hid (Below w.heap.size w w1) := show Below _ _ _ by rw [hw1]; exact (Below.refl _ w).alloc (Nat.le_refl _) _
  have hw1' := hw1.symm
  have p1 : w1.heap[w.heap.size]? = some (pgO (.slice rb rn rc) (.slice d0 n cap)) := by rw [hw1]; exact World.alloc_heap_new _ _
  obtain ⟨-, y1, -⟩ := cells2 p1
  clear h hcells hn hr0 hrn hw1 p1
  go_enter Tryz.func27, Tryz.ntmps27
  go_wp2_with fail
  go_loopw [3, 9] (fun m i wr => ∃ k : Nat, k ≤ n ∧ i = .int .i64 k ∧ m = .int .i64 (depthFs (l.take k)) ∧ Below w.heap.size w wr) (fun _ i _ => n - (intOf i).toNat)
  case atStart => exact ⟨0, Nat.zero_le _, rfl, rfl, HB1.out⟩
  case round =>
    clear hw1' y1 HB1
    obtain ⟨k, hk, rfl, rfl, hbw⟩ := hrel
    by_cases hlt : k < n
    · obtain ⟨x, hx⟩ : ∃ x, l[k]? = some x := ⟨l[k]'(by rw [← HN.out]; exact hlt), List.getElem?_eq_getElem (by rw [← HN.out]; exact hlt)⟩
      obtain ⟨g, a, e0, e1, e2, b, f0, f1, f2, j, rfl, hg, -, hnc, hcm, hxx, m0, m1, m2, m3, m4⟩ := HC.out k x hx
      have n0 := (hbw.cell (p := ⟨g, k * 5, none⟩) hg).trans m0
      have n1 := (hbw.cell (p := ⟨g, k * 5 + 1, none⟩) hg).trans m1
      have n2 := (hbw.cell (p := ⟨g, k * 5 + 2, none⟩) hg).trans m2
      have n3 := (hbw.cell (p := ⟨g, k * 5 + 3, none⟩) hg).trans m3
      have n4 := (hbw.cell (p := ⟨g, k * 5 + 4, none⟩) hg).trans m4
      clear m0 m1 m2 m3 m4
      have hlt' : (k : Int) < (n : Int) := by omega
      have hb4 : Below w.heap.size w (wr.alloc (.cells #[.string a, .slice e0 e1 e2, .string b, .slice f0 f1 f2, .int .i64 j] 78)) := hbw.alloc hbw.size _
      have hx4 := hxx.kept hb4.size fun k' _ hlt => hb4.block k' hlt
      have HTK : Hid (depthFs (l.take (k + 1)) = max (depthFs (l.take k)) (depthSs x.body)) := show _ = _ by
        rw [List.take_add_one, hx, depthFs_append]; simp [depthFs]
      have hmx : depthFs (l.take (k + 1)) ≤ depthFs l := by
        have := depthFs_append (l.take (k + 1)) (l.drop (k + 1))
        rw [List.take_append_drop] at this
        omega
      have hd1 : depthSs x.body ≤ 4611686018427387904 := by have := depthFs_mem (List.mem_of_getElem? hx); omega
      have hd2 : depthFs (l.take k) ≤ 4611686018427387904 := by have := HTK.out; omega
      have c4 := greatestS_all S _ x.body _ hx4 hd1
      have HB4 : Hid (Below w.heap.size w (wr.alloc (.cells #[.string a, .slice e0 e1 e2, .string b, .slice f0 f1 f2, .int .i64 j] 78))) := hb4
      clear hb4 hx4 hxx hbw HC
      generalize depthFs (l.take k) = M at *
      generalize hD : depthSs x.body = D at *
      go_wp2_with fail
      refine c4.mono ?_
      clear c4
      rintro e w5 ⟨rfl, hb5⟩
      have HB5 : Hid (Below w.heap.size w w5) := below_via HB4.out hb5
      clear hb5
      go_wp2
      refine ⟨⟨k + 1, by omega, by go_num, ?_, HB5.out⟩, by simp [intOf]; omega⟩
      rw [HTK.out]; congr 1; omega
    · have hkn : k = n := by omega
      have hlt' : ¬(k : Int) < (n : Int) := by omega
      have htk : l.take k = l := List.take_of_length_le (by have := HN.out; omega)
      have HB5 : Hid (Below w.heap.size w wr) := hbw
      clear hbw HC
      rw [htk]
      clear htk
      go_wp2
      refine bodyPost_ret (v := .int .i64 (depthFs l)) (by simp [results, Tryz.results27, go_sem]) rfl ⟨rfl, HB5.out⟩
end Go.Proofs.YtghhamgealkodaaGreatDoor
/- syntax: statements and programs are no deeper than they have tokens. -/
namespace Go.Proofs.YtghhamgealkodaaGreatDoor
open Go.RowKit Go.Shelf

theorem stmt_depth (f : Nat) :
    (∀ ts x us, pStmt f ts = some (.ok (x, us)) → depthS x + us.length ≤ ts.length) ∧ (∀ ts l us, pBlock f ts = some (.ok (l, us)) → depthSs l + us.length + 1 ≤ ts.length) ∧ (∀ pre ts l us T, pStmts f pre ts = some (.ok (l, us)) → depthSs pre + ts.length ≤ T → depthSs l + us.length ≤ T) := by
  induction f with
  | zero => refine ⟨?_, ?_, ?_⟩ <;> intros <;> simp_all [pStmt, pBlock, pStmts]
  | succ f ih =>
    obtain ⟨i1, i2, i3⟩ := ih
    have b1 := (parse_depth f).1
    refine ⟨fun ts x us h => ?_, fun ts l us h => ?_, fun pre ts l us T h hT => ?_⟩
    · rw [pStmt] at h
      split at h
      · rename_i hc
        obtain ⟨_, _, h1, h⟩ := thenP_ok h
        obtain ⟨_, _, h2, h⟩ := thenP_ok h
        obtain ⟨_, _, h3, h⟩ := thenP_ok h
        obtain ⟨_, _, h4, h⟩ := thenP_ok h
        have l0 := is_ne hc
        have l1 := nameP_len h1
        have l2 := needP_len h2
        have l3 := b1 _ _ _ _ h3
        have l4 := needP_len h4
        obtain ⟨rfl, rfl⟩ := okP_eq h
        simp only [depthS, depthSs, depthL]; omega
      · split at h
        · rename_i hc
          obtain ⟨_, _, h1, h⟩ := thenP_ok h
          obtain ⟨_, _, h2, h⟩ := thenP_ok h
          have l0 := is_ne hc
          have l1 := b1 _ _ _ _ h1
          have l2 := i2 _ _ _ h2
          split at h
          · rename_i hc
            obtain ⟨_, _, h3, h⟩ := thenP_ok h
            have l3 := is_ne hc
            have l4 := i2 _ _ _ h3
            obtain ⟨rfl, rfl⟩ := okP_eq h
            simp only [depthS, depthL]; omega
          · obtain ⟨rfl, rfl⟩ := okP_eq h
            simp only [depthS, depthSs, depthL]; omega
        · split at h
          · rename_i hc
            obtain ⟨_, _, h1, h⟩ := thenP_ok h
            obtain ⟨_, _, h2, h⟩ := thenP_ok h
            have l0 := is_ne hc
            have l1 := b1 _ _ _ _ h1
            have l2 := i2 _ _ _ h2
            obtain ⟨rfl, rfl⟩ := okP_eq h
            simp only [depthS, depthSs, depthL]; omega
          · split at h
            · rename_i hc
              have l0 := is_ne hc
              split at h
              · rename_i hc2
                have l1 := is_ne hc2
                obtain ⟨rfl, rfl⟩ := okP_eq h
                simp only [depthS, depthSs, depthL]; omega
              · obtain ⟨_, _, h1, h⟩ := thenP_ok h
                obtain ⟨_, _, h2, h⟩ := thenP_ok h
                have l1 := b1 _ _ _ _ h1
                have l2 := needP_len h2
                obtain ⟨rfl, rfl⟩ := okP_eq h
                simp only [depthS, depthSs, depthL]; omega
            · obtain ⟨_, _, h1, h⟩ := thenP_ok h
              have l1 := b1 _ _ _ _ h1
              split at h
              · rename_i hc
                have l2 := is_ne hc
                split at h
                · obtain ⟨_, _, h2, h⟩ := thenP_ok h
                  obtain ⟨_, _, h3, h⟩ := thenP_ok h
                  have l3 := b1 _ _ _ _ h2
                  have l4 := needP_len h3
                  obtain ⟨rfl, rfl⟩ := okP_eq h
                  simp only [depthS, depthSs, depthL]; omega
                · simp at h
              · obtain ⟨_, _, h2, h⟩ := thenP_ok h
                have l2 := needP_len h2
                obtain ⟨rfl, rfl⟩ := okP_eq h
                simp only [depthS, depthSs, depthL]; omega
    · rw [pBlock] at h
      obtain ⟨_, us1, h1, h⟩ := thenP_ok h
      have l1 := needP_len h1
      have l2 := i3 _ _ _ _ us1.length h (by simp [depthSs])
      omega
    · rw [pStmts] at h
      split at h
      · rename_i hc
        have l0 := is_ne hc
        obtain ⟨rfl, rfl⟩ := okP_eq h
        omega
      · obtain ⟨y, us1, h1, h⟩ := thenP_ok h
        have l1 := i1 _ _ _ h1
        refine i3 _ _ _ _ T h ?_
        rw [depthSs_append]
        simp only [depthSs]; omega

theorem pParams_len {f : Nat} {ts us : List Tk} {l : List Pm} (h : pParams f [] ts = some (.ok (l, us))) (hE : EndsT ts) : us.length < ts.length := by
  have hpos := hE.pos
  obtain ⟨f', r', h1, h2⟩ := params_total ts.length ts (Nat.le_refl _) hE []
  have a : ∀ k, pParams (f + k) [] ts = some (.ok (l, us)) := by
    intro k
    induction k with
    | zero => exact h
    | succ k ih => exact pParams_mono ih
  have b := h1 f
  have a := a f'
  rw [Nat.add_comm] at a
  have e := Option.some.inj (a.symm.trans b)
  have := (h2 l us e.symm).1
  omega
theorem pParB_len {f : Nat} {ts us : List Tk} {l : List Pm} (h : pParB f ts = some (.ok (l, us))) (hE : EndsT ts) : us.length ≤ ts.length := by
  unfold pParB at h
  obtain ⟨_, us1, h1, h⟩ := thenP_ok h
  have l1 := needP_len h1
  have hE1 := needP_ends h1 hE
  split at h
  · rename_i hc
    have l2 := is_ne hc
    obtain ⟨rfl, rfl⟩ := okP_eq h
    omega
  · obtain ⟨_, us2, h2, h⟩ := thenP_ok h
    obtain ⟨_, us3, h3, h⟩ := thenP_ok h
    have l2 := pParams_len h2 hE1
    have l3 := needP_len h3
    obtain ⟨rfl, rfl⟩ := okP_eq h
    omega
theorem resP_len {ts us : List Tk} {s : List UInt8} (h : resP ts = some (.ok (s, us))) (hE : EndsT ts) : us.length ≤ ts.length := by
  unfold resP at h
  split at h
  · rename_i hc
    have l1 := is_ne hc
    have := (typeS_ends _ _ _ _ (Option.some.inj h) (ends_is hE hc)).2
    omega
  · obtain ⟨rfl, rfl⟩ := okP_eq h
    omega
theorem func_depth {f line : Nat} {ts us : List Tk} {x : Fc} (h : pFunc f line ts = some (.ok (x, us))) (hE : EndsT ts) : depthSs x.body + us.length ≤ ts.length := by
  unfold pFunc at h
  obtain ⟨_, us1, h1, h⟩ := thenP_ok h
  obtain ⟨_, us2, h2, h⟩ := thenP_ok h
  obtain ⟨_, us3, h3, h⟩ := thenP_ok h
  obtain ⟨b, us4, h4, h⟩ := thenP_ok h
  have hE1 := nameP_ends h1 hE
  have hE2 := pParB_ends h2 hE1
  have l1 := nameP_len h1
  have l2 := pParB_len h2 hE1
  have l3 := resP_len h3 hE2
  have l4 := (stmt_depth f).2.1 _ _ _ h4
  obtain ⟨rfl, rfl⟩ := okP_eq h
  simp only
  omega
theorem prog_depth (T : Nat) : ∀ (f : Nat) (rs : List Rc) (fs : List Fc) (ts us : List Tk) (p : Pg), pProg f rs fs ts = some (.ok (p, us)) → EndsT ts → depthFs fs + ts.length ≤ T → depthFs p.funs + us.length ≤ T
  | 0, _, _, _, _, _, h, _, _ => by simp [pProg] at h
  | f + 1, rs, fs, ts, us, p, h, hE, hT => by
    rw [pProg] at h
    split at h
    · obtain ⟨rfl, rfl⟩ := okP_eq h
      exact hT
    · split at h
      · rename_i hc
        have l0 := is_ne hc
        have hE0 := ends_is hE hc
        obtain ⟨x, us1, h1, h⟩ := thenP_ok h
        have l1 := pRecord_len h1 hE0
        exact prog_depth T f _ _ _ _ _ h (pRecord_ends h1 hE0) (by omega)
      · split at h
        · rename_i hc
          have l0 := is_ne hc
          have hE0 := ends_is hE hc
          obtain ⟨x, us1, h1, h⟩ := thenP_ok h
          have l1 := func_depth h1 hE0
          refine prog_depth T f _ _ _ _ _ h (pFunc_ends h1 hE0) ?_
          rw [depthFs_append]
          simp only [depthFs]
          omega
        · simp at h
end Go.Proofs.YtghhamgealkodaaGreatDoor
/- syntax: what read does with its reader, of a program. -/
namespace Go.Proofs.YtghhamgealkodaaGreatDoor
open Go.RowKit Go.Shelf

/-- A program's value in memory, from a block on. -/
abbrev PgAt (B : Nat) (w : World) (p : Pg) (v : Value) : Prop := PgIn (fun k => B ≤ k) w p v
theorem PgAt.kept {B : Nat} {w w' : World} {p : Pg} {v : Value} (h : PgAt B w p v) (hs : w.heap.size ≤ w'.heap.size) (hb : ∀ k, B ≤ k → k < w.heap.size → w'.heap[k]? = w.heap[k]?) : PgAt B w' p v := PgIn.kept h hs hb
theorem PgAt.mono {B B' : Nat} {w : World} {p : Pg} {v : Value} (h : PgAt B w p v) (hb : B' ≤ B) : PgAt B' w p v := PgIn.wide h fun k hk => by omega
/-- No program. -/
abbrev noPg : Pg := ⟨[], []⟩
theorem pgNil (B : Nat) (w : World) : PgAt B w noPg (.agg #[.slice none 0 0, .slice none 0 0]) := (PrgIn.nil B w).pg
/-- Two cells of a block are set. -/
abbrev set2 (w : World) (N : Nat) (a b : Value) : World := (w.setCell ⟨N, 0, none⟩ a).setCell ⟨N, 1, none⟩ b
theorem set2_cells {w : World} {N : Nat} {x0 x1 : Value} {ty : TypeId} (h : w.heap[N]? = some (.cells #[x0, x1] ty (0, 0))) (a b : Value) :
    (set2 w N a b).cell? ⟨N, 0, none⟩ = some a ∧ (set2 w N a b).cell? ⟨N, 1, none⟩ = some b := by
  obtain ⟨q0, q1, -⟩ := cells2 h
  exact ⟨(World.cell?_setCell_other _ _ _ _ (by simp)).trans (World.cell?_setCell_same _ _ _ q0), World.cell?_setCell_same _ _ _ ((World.cell?_setCell_other _ _ _ _ (by simp)).trans q1)⟩
theorem set2_keep (w : World) (N : Nat) (a b : Value) {k : Nat} (hk : k ≠ N) : (set2 w N a b).heap[k]? = w.heap[k]? := by
  rw [Below.heap_setCell _ _ _ _ (by simpa using hk), Below.heap_setCell _ _ _ _ (by simpa using hk)]
theorem set2_block {w : World} {N : Nat} {x0 x1 : Value} {ty : TypeId} (h : w.heap[N]? = some (.cells #[x0, x1] ty (0, 0))) (a b : Value) : (set2 w N a b).heap[N]? = some (.cells #[a, b] ty (0, 0)) :=
  setCell_block b (setCell_block a h)
theorem pProg_ends : ∀ (f : Nat) (rs : List Rc) (fs : List Fc) (ts us : List Tk) (p : Pg), pProg f rs fs ts = some (.ok (p, us)) → EndsT ts → EndsT us
  | 0, _, _, _, _, _, h, _ => by simp [pProg] at h
  | f + 1, rs, fs, ts, us, p, h, hE => by
    rw [pProg] at h
    split at h
    · obtain ⟨rfl, rfl⟩ := okP_eq h
      exact hE
    · split at h
      · rename_i hc
        obtain ⟨x, us1, h1, h⟩ := thenP_ok h
        exact pProg_ends f _ _ _ _ _ h (pRecord_ends h1 (ends_is hE hc))
      · split at h
        · rename_i hc
          obtain ⟨x, us1, h1, h⟩ := thenP_ok h
          exact pProg_ends f _ _ _ _ _ h (pFunc_ends h1 (ends_is hE hc))
        · simp at h

/-- The whole of it is a program; or the byte at which it can't go on. -/
def wholeG (res : PR Pg) : Except Nat Pg :=
  match res with
  | .error a => .error a
  | .ok (x, us) => if (hdT us).k = 0 then .ok x else .error (hdT us).at0

/-- What reading the whole leaves. -/
def PostWG (r B2 : Nat) (w : World) (res : Except Nat Pg) (e : Ending) (w' : World) : Prop :=
  Kept2 r B2 w w' ∧ match res with
    | .error a => e = gaveUp a
    | .ok x => e = .returned (.tuple #[]) ∧ ∃ (s0 : Option Addr) (s1 s2 : Nat) (d0 : Option Addr) (d1 d2 : Nat), w'.heap[B2]? = some (.cells #[.slice s0 s1 s2, .slice d0 d1 d2] 25 (0, 0)) ∧ PgAt w.heap.size w' x (.agg #[.slice s0 s1 s2, .slice d0 d1 d2])

set_option maxRecDepth 100000 in
set_option maxHeartbeats 4000000 in
theorem readDoP (r g o cap B0 B1 B2 f ty0 ty1 : Nat) (ts : List Tk) (w : World) (res : PR Pg) (h : RdAt r g o cap ts w) (hE : EndsT ts) (hl : LevT w) (hrl : r ≠ 1) (hp : pProg f [] [] ts = some res)
    (b0 : w.heap[B0]? = some (.cells #[.func (.func 26) #[] #[]] ty0 (0, 0))) (b1 : w.heap[B1]? = some (.cells #[.pointer (some ⟨r, 0, none⟩)] ty1 (0, 0))) (b2 : w.heap[B2]? = some pgZ) (h1 : B1 ≠ r) (h2 : B2 ≠ r) (h3 : B2 ≠ g) (h4 : B1 ≠ B2) :
    Calls Tryz.prog 58 #[.pointer (some ⟨B0, 0, none⟩), .pointer (some ⟨B1, 0, none⟩), .pointer (some ⟨B2, 0, none⟩)] w (PostWG r B2 w (wholeG res)) := by
  generalize hres : wholeG res = R
  obtain ⟨t0, ts0, rfl⟩ := hE.cons
  have ce := program_any r g o cap f hrl _ w res hp hE h hl
  have c0 : w.cell? ⟨B0, 0, none⟩ = some (.func (.func 26) #[] #[]) := by simp only [World.cell?, b0]; rfl
  have c1 : w.cell? ⟨B1, 0, none⟩ = some (.pointer (some ⟨r, 0, none⟩)) := by simp only [World.cell?, b1]; rfl
  have hB2 : B2 < w.heap.size := (Array.getElem?_eq_some_iff.1 b2).1
  have hB1 : B1 < w.heap.size := (Array.getElem?_eq_some_iff.1 b1).1
  go_enter Tryz.func58, Tryz.ntmps58
  go_wp2_with fail
  refine ce.mono ?_
  clear ce
  rintro e w1 ⟨hk1, hpost⟩
  rcases res with a | ⟨x, us⟩
  · obtain rfl := hpost
    obtain rfl : R = .error a := by rw [← hres]; rfl
    exact ⟨rfl, ⟨hk1.os, hk1.tape, hk1.output, hk1.size, fun k hk hr _ => hk1.block k hk hr⟩, rfl⟩
  · obtain ⟨v, o1, cap1, rfl, hx, hrd⟩ := hpost
    obtain ⟨s0, s1, s2, d0, d1, d2, rfl⟩ := hx.agg
    have hE1 := pProg_ends f _ _ _ _ _ hp hE
    obtain ⟨t1, ts1, rfl⟩ := hE1.cons
    have p1 := (hk1.block _ hB1 h1).trans b1
    have p2 := (hk1.block _ hB2 h2).trans b2
    obtain ⟨q0, q1, qf⟩ := cells2 p2
    obtain ⟨w2, hw2⟩ : ∃ w2, w2 = set2 w1 B2 (.slice s0 s1 s2) (.slice d0 d1 d2) := ⟨_, rfl⟩
    have hkeep : ∀ k, k ≠ B2 → w2.heap[k]? = w1.heap[k]? := fun k hk => by rw [hw2]; exact set2_keep _ _ _ _ hk
    have hrd2 : RdAt r g o1 cap1 (t1 :: ts1) w2 := hrd.keep (hkeep r (fun e => h2 e.symm)) (hkeep g (fun e => h3 e.symm))
    have hs2 : w1.heap.size ≤ w2.heap.size := by rw [hw2]; simp
    have hx2 : PgAt w.heap.size w2 x (.agg #[.slice s0 s1 s2, .slice d0 d1 d2]) := PgAt.kept hx hs2 fun k hB _ => hkeep k (by omega)
    have pB : w2.heap[B2]? = some (.cells #[.slice s0 s1 s2, .slice d0 d1 d2] 25 (0, 0)) := by rw [hw2]; exact set2_block p2 _ _
    have d1' : w2.cell? ⟨B1, 0, none⟩ = some (.pointer (some ⟨r, 0, none⟩)) := by
      have p3 := (hkeep B1 h4).trans p1
      simp only [World.cell?, p3]; rfl
    have HK2 : Hid (Kept2 r B2 w w2) := ⟨by rw [hw2]; exact hk1.os, by rw [hw2]; exact hk1.tape, by rw [hw2]; exact hk1.output, Nat.le_trans hk1.size hs2, fun k hk hr hb => (hkeep k hb).trans (hk1.block k hk hr)⟩
    have ce := rdEnd r g o1 cap1 t1 ts1 w2 hrd2
    have HX2 : Hid (PgAt w.heap.size w2 x (.agg #[.slice s0 s1 s2, .slice d0 d1 d2])) := hx2
    have HPB : Hid (w2.heap[B2]? = some (.cells #[.slice s0 s1 s2, .slice d0 d1 d2] 25 (0, 0))) := pB
    have hw2' := hw2.symm
    have hsz := hk1.size
    have hB2' : B2 < w2.heap.size := (Array.getElem?_eq_some_iff.1 pB).1
    clear hx2 pB hrd2 hkeep hx hrd p1 p2 hk1 hw2
    by_cases hk : t1.k = 0
    · simp only [if_pos hk] at ce
      obtain rfl : R = .ok x := by rw [← hres]; unfold wholeG; simp only [hdT_cons, if_pos hk]
      go_wp2_with fail
      refine ce.mono ?_
      clear ce
      rintro e w3 ⟨hk3, rfl⟩
      have hP : PostWG r B2 w (.ok x) (.returned (.tuple #[])) w3 := by
        refine ⟨⟨hk3.os.trans HK2.out.os, hk3.tape.trans HK2.out.tape, hk3.output.trans HK2.out.output, Nat.le_trans HK2.out.size hk3.size, fun k hk hr hb => (hk3.block k (Nat.lt_of_lt_of_le hk HK2.out.size) hr).trans (HK2.out.block k hk hr hb)⟩, rfl, s0, s1, s2, d0, d1, d2, (hk3.block _ hB2' h2).trans HPB.out, ?_⟩
        exact PgAt.kept HX2.out hk3.size fun k hB hlt => hk3.block k hlt (by have := h.lt.1; omega)
      have HP : Hid (PostWG r B2 w (.ok x) (.returned (.tuple #[])) w3) := hP
      clear hP hk3 HK2 HX2 HPB
      go_wp2
      exact bodyPost_ret (v := .tuple #[]) (by simp [results, Tryz.results58, go_sem]) rfl HP.out
    · simp only [if_neg hk] at ce
      obtain rfl : R = .error t1.at0 := by rw [← hres]; unfold wholeG; simp only [hdT_cons, if_neg hk]
      go_wp2_with fail
      refine ce.mono ?_
      clear ce
      rintro e w3 ⟨hk3, rfl⟩
      exact ⟨rfl, ⟨hk3.os.trans HK2.out.os, hk3.tape.trans HK2.out.tape, hk3.output.trans HK2.out.output, Nat.le_trans HK2.out.size hk3.size, fun k hk hr hb => (hk3.block k (Nat.lt_of_lt_of_le hk HK2.out.size) hr).trans (HK2.out.block k hk hr hb)⟩, rfl⟩
end Go.Proofs.YtghhamgealkodaaGreatDoor
