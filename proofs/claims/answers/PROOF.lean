import PyProof.Rows.All
import Wide.All
import OpenK.AllK
import Wide.FinOn
import Open.SpecLaws
import KE.OsGo
import HandS.ForSpec
import HandS.Comp
import HandS.Dict
import HandS.Iter
import HandS.Conv
import HandS.TupAny
import HandS.TupLen
import HandS.WordsDict
import HandS.SortInts
import HandS.Records
import HandS.Strs
import HandS.SetFor
import KE.DataMinMax
import KE.SortData
import KE.KDictWalk
import KE.GoesEnum
import HandS.Codes
import HandS.Walk
import HandS.WideBits
import PySem.Challenge.RW_caryard_s01_answers
/-! The specification's levels, told by walks: for any yard whose moves stay within lists of m numbers below 5. -/
namespace Cy
open Sy66

/-- a list of m numbers below 5 -/
def Un (m : Nat) (l : List Nat) : Prop := l.length = m ∧ ∀ x ∈ l, x < 5

theorem code_nil : code [] = 0 := rfl
theorem code_cons (a : Nat) (l : List Nat) : code (a :: l) = a + 5 * code l := rfl

theorem code_inj : ∀ {m : Nat} {a b : List Nat}, Un m a → Un m b → code a = code b → a = b
  | 0, a, b, ha, hb, _ => by
    rw [List.length_eq_zero_iff.mp ha.1, List.length_eq_zero_iff.mp hb.1]
  | m + 1, [], _, ha, _, _ => by cases ha.1
  | m + 1, _ :: _, [], _, hb, _ => by cases hb.1
  | m + 1, x :: a, y :: b, ha, hb, h => by
    rw [code_cons, code_cons] at h
    have hx := ha.2 x (List.mem_cons_self ..)
    have hy := hb.2 y (List.mem_cons_self ..)
    have e1 : x = y := by omega
    have e2 : code a = code b := by omega
    have ta : Un m a := ⟨by have := ha.1; simp at this; exact this, fun z hz => ha.2 z (List.mem_cons_of_mem _ hz)⟩
    have tb : Un m b := ⟨by have := hb.1; simp at this; exact this, fun z hz => hb.2 z (List.mem_cons_of_mem _ hz)⟩
    rw [e1, code_inj ta tb e2]

theorem code_lt : ∀ {m : Nat} {a : List Nat}, Un m a → code a < 5 ^ m
  | 0, a, ha => by rw [List.length_eq_zero_iff.mp ha.1]; decide
  | m + 1, [], ha => by cases ha.1
  | m + 1, x :: a, ha => by
    have ta : Un m a := ⟨by have := ha.1; simp at this; exact this, fun z hz => ha.2 z (List.mem_cons_of_mem _ hz)⟩
    have h := code_lt ta
    have hx := ha.2 x (List.mem_cons_self ..)
    rw [code_cons, Nat.pow_succ]
    omega

/-- a bit that is not set is set by adding its worth -/
theorem testBit_add_pow {s k : Nat} (h : s.testBit k = false) (j : Nat) :
    (s + 2 ^ k).testBit j = (s.testBit j || decide (j = k)) := by
  have e : s + 2 ^ k = s ||| 2 ^ k := by
    apply Nat.eq_of_testBit_eq
    intro i
    rw [Nat.testBit_or, Nat.testBit_two_pow]
    rcases Nat.lt_trichotomy i k with hi | hi | hi
    · rw [Nat.add_comm, Nat.testBit_two_pow_add_gt hi]
      have : ¬ k = i := by omega
      simp [this]
    · subst hi
      rw [Nat.add_comm, Nat.testBit_two_pow_add_eq, h]
      simp
    · obtain ⟨d, rfl⟩ : ∃ d, i = d + (k + 1) := ⟨i - (k + 1), by omega⟩
      have hk : ¬ k = d + (k + 1) := by omega
      simp only [hk, decide_false, Bool.or_false]
      rw [Nat.testBit_eq_decide_div_mod_eq] at h
      have h0 : s / 2 ^ k % 2 = 0 := by
        have := of_decide_eq_false h
        omega
      have e1 : (s + 2 ^ k) / 2 ^ (k + 1) = s / 2 ^ (k + 1) := by
        rw [Nat.pow_succ, ← Nat.div_div_eq_div_mul, ← Nat.div_div_eq_div_mul, Nat.add_div_right _ (Nat.two_pow_pos k)]
        omega
      rw [Nat.testBit_add, Nat.testBit_add s, e1]
  rw [e, Nat.testBit_or, Nat.testBit_two_pow]
  congr 1
  exact decide_eq_decide.mpr eq_comm

/-- what fresh does behind a start -/
def freshGo (l : List (List Nat)) (x : List (List Nat) × Nat) : List (List Nat) × Nat :=
  l.foldl (fun (x : List (List Nat) × Nat) (n : List Nat) => if x.2.testBit (code n) = true then x else (x.1 ++ [n], x.2 + 2 ^ code n)) x

theorem freshGo_nil (x) : freshGo [] x = x := rfl
theorem freshGo_old {a l x} (h : x.2.testBit (code a) = true) : freshGo (a :: l) x = freshGo l x := by
  show List.foldl _ (if x.2.testBit (code a) = true then x else _) l = _
  rw [if_pos h]; rfl
theorem freshGo_new {a l x} (h : x.2.testBit (code a) = false) : freshGo (a :: l) x = freshGo l (x.1 ++ [a], x.2 + 2 ^ code a) := by
  show List.foldl _ (if x.2.testBit (code a) = true then x else _) l = _
  rw [if_neg (by rw [h]; decide)]; rfl

/-- the bits behind fresh -/
theorem freshGo_bits : ∀ (l : List (List Nat)) (x : List (List Nat) × Nat) (j : Nat),
    (freshGo l x).2.testBit j = true ↔ (x.2.testBit j = true ∨ ∃ n ∈ l, code n = j)
  | [], x, j => by simp [freshGo_nil]
  | a :: l, x, j => by
    cases h : x.2.testBit (code a) with
    | true =>
      rw [freshGo_old h, freshGo_bits l x j]
      constructor
      · rintro (q | ⟨n, hn, e⟩)
        · exact .inl q
        · exact .inr ⟨n, List.mem_cons_of_mem _ hn, e⟩
      · rintro (q | ⟨n, hn, e⟩)
        · exact .inl q
        · rcases List.mem_cons.mp hn with rfl | hn
          · exact .inl (e ▸ h)
          · exact .inr ⟨n, hn, e⟩
    | false =>
      rw [freshGo_new h, freshGo_bits l _ j]
      show ((x.2 + 2 ^ code a).testBit j = true ∨ _) ↔ _
      rw [testBit_add_pow h]
      simp only [Bool.or_eq_true, decide_eq_true_eq]
      constructor
      · rintro ((q | e) | ⟨n, hn, e⟩)
        · exact .inl q
        · exact .inr ⟨a, List.mem_cons_self .., e.symm⟩
        · exact .inr ⟨n, List.mem_cons_of_mem _ hn, e⟩
      · rintro (q | ⟨n, hn, e⟩)
        · exact .inl (.inl q)
        · rcases List.mem_cons.mp hn with rfl | hn
          · exact .inl (.inr e.symm)
          · exact .inr ⟨n, hn, e⟩

/-- the list behind fresh -/
theorem freshGo_mem {m : Nat} : ∀ (l : List (List Nat)) (x : List (List Nat) × Nat), (∀ n ∈ l, Un m n) → (∀ n ∈ x.1, Un m n) →
    ∀ n, n ∈ (freshGo l x).1 ↔ (n ∈ x.1 ∨ (n ∈ l ∧ x.2.testBit (code n) = false))
  | [], x, _, _, n => by simp [freshGo_nil]
  | a :: l, x, hl, hx, n => by
    have hl' : ∀ n ∈ l, Un m n := fun n hn => hl n (List.mem_cons_of_mem _ hn)
    have ha : Un m a := hl a (List.mem_cons_self ..)
    cases h : x.2.testBit (code a) with
    | true =>
      rw [freshGo_old h, freshGo_mem l x hl' hx n]
      constructor
      · rintro (q | ⟨hn, e⟩)
        · exact .inl q
        · exact .inr ⟨List.mem_cons_of_mem _ hn, e⟩
      · rintro (q | ⟨hn, e⟩)
        · exact .inl q
        · rcases List.mem_cons.mp hn with rfl | hn
          · rw [h] at e; cases e
          · exact .inr ⟨hn, e⟩
    | false =>
      have hx' : ∀ n ∈ x.1 ++ [a], Un m n := by
        intro n hn
        rcases List.mem_append.mp hn with hn | hn
        · exact hx n hn
        · rw [List.mem_singleton.mp hn]; exact ha
      rw [freshGo_new h, freshGo_mem l _ hl' hx' n]
      show ((n ∈ x.1 ++ [a]) ∨ (n ∈ l ∧ (x.2 + 2 ^ code a).testBit (code n) = false)) ↔ _
      rw [testBit_add_pow h]
      rw [List.mem_append, List.mem_singleton, Bool.or_eq_false_iff, decide_eq_false_iff_not, List.mem_cons]
      constructor
      · rintro ((q | e) | ⟨hn, e, _⟩)
        · exact .inl q
        · subst e; exact .inr ⟨.inl rfl, h⟩
        · exact .inr ⟨.inr hn, e⟩
      · rintro (q | ⟨e | hn, e2⟩)
        · exact .inl (.inl q)
        · exact .inl (.inr e)
        · by_cases c : code n = code a
          · exact .inl (.inr (code_inj (hl' n hn) ha c))
          · exact .inr ⟨hn, e2, c⟩

/-- no list twice behind fresh -/
theorem freshGo_nodup {m : Nat} : ∀ (l : List (List Nat)) (x : List (List Nat) × Nat), (∀ n ∈ l, Un m n) → x.1.Nodup →
    (∀ n ∈ x.1, x.2.testBit (code n) = true) → (freshGo l x).1.Nodup
  | [], x, _, hx, _ => by rw [freshGo_nil]; exact hx
  | a :: l, x, hl, hx, hb => by
    have hl' : ∀ n ∈ l, Un m n := fun n hn => hl n (List.mem_cons_of_mem _ hn)
    cases h : x.2.testBit (code a) with
    | true => rw [freshGo_old h]; exact freshGo_nodup l x hl' hx hb
    | false =>
      rw [freshGo_new h]
      refine freshGo_nodup (m := m) l _ hl' ?_ ?_
      · show (x.1 ++ [a]).Nodup
        rw [List.nodup_append]
        refine ⟨hx, by simp, ?_⟩
        intro p hp q hq e
        rw [List.mem_singleton.mp hq] at e
        have := hb p hp
        rw [e, h] at this
        cases this
      · intro n hn
        show (x.2 + 2 ^ code a).testBit (code n) = true
        rw [testBit_add_pow h]
        rcases List.mem_append.mp hn with hn | hn
        · rw [hb n hn]; rfl
        · rw [List.mem_singleton.mp hn]; simp

theorem fresh_eq (l seen) : fresh l seen = freshGo l ([], seen) := rfl

/-! Walks -/
/-- what is come to by just so many moves -/
def Rk (nx : List Nat → List (List Nat)) (src : List Nat → Prop) : Nat → List Nat → Prop
  | 0, n => src n
  | k + 1, n => ∃ p, Rk nx src k p ∧ n ∈ nx p
/-- .. and by no fewer -/
def Dk (nx : List Nat → List (List Nat)) (src : List Nat → Prop) (k : Nat) (n : List Nat) : Prop :=
  Rk nx src k n ∧ ∀ j, j < k → ¬ Rk nx src j n

theorem Dk.unique {nx src j k n} (h : Dk nx src j n) (g : Dk nx src k n) : j = k := by
  rcases Nat.lt_trichotomy j k with q | q | q
  · exact (g.2 j q h.1).elim
  · exact q
  · exact (h.2 k q g.1).elim

theorem Rk.least {nx src} : ∀ {k n}, Rk nx src k n → ∃ j, j ≤ k ∧ Dk nx src j n := by
  intro k
  induction k using Nat.strongRecOn with
  | _ k ih =>
    intro n h
    by_cases c : ∃ j, j < k ∧ Rk nx src j n
    · obtain ⟨j, hj, hr⟩ := c
      obtain ⟨i, hi, hd⟩ := ih j hj hr
      exact ⟨i, by omega, hd⟩
    · exact ⟨k, Nat.le_refl _, h, fun j hj hr => c ⟨j, hj, hr⟩⟩

theorem Rk.un {nx src m} (hnx : ∀ p, Un m p → ∀ n ∈ nx p, Un m n) (hs : ∀ n, src n → Un m n) : ∀ {k n}, Rk nx src k n → Un m n
  | 0, n, h => hs n h
  | _ + 1, n, ⟨p, hp, hn⟩ => hnx p (Rk.un hnx hs hp) n hn

/-- who is behind k moves and no fewer has a forerunner behind k - 1 -/
theorem Dk.pred {nx src k n} (h : Dk nx src (k + 1) n) : ∃ p, Dk nx src k p ∧ n ∈ nx p := by
  obtain ⟨⟨p, hp, hn⟩, hm⟩ := h
  exact ⟨p, ⟨hp, fun j hj hr => hm (j + 1) (by omega) ⟨p, hr, hn⟩⟩, hn⟩

/-! The fuel -/
/-- how many bits below a bound are not set -/
def unset (b seen : Nat) : Nat := (List.range b).countP fun j => !seen.testBit j

theorem unset_le (b seen) : unset b seen ≤ b := by
  have := List.countP_le_length (p := fun j => !seen.testBit j) (l := List.range b)
  rw [List.length_range] at this
  exact this

theorem countP_lt {p q : Nat → Bool} : ∀ {l : List Nat} {a : Nat}, a ∈ l → (∀ x, q x = true → p x = true) → p a = true → q a = false →
    l.countP q < l.countP p
  | x :: l, a, ha, hqp, hp, hq => by
    have mono : ∀ l : List Nat, l.countP q ≤ l.countP p := fun l => List.countP_mono_left fun x _ h => hqp x h
    rw [List.countP_cons, List.countP_cons]
    rcases List.mem_cons.mp ha with rfl | ha
    · rw [hp, hq]
      have := mono l
      simp
      omega
    · have := countP_lt ha hqp hp hq
      have h2 : (if q x = true then 1 else 0) ≤ (if p x = true then 1 else 0) := by
        by_cases c : q x = true
        · rw [if_pos c, if_pos (hqp x c)]; exact Nat.le_refl _
        · rw [if_neg c]; exact Nat.zero_le _
      omega

theorem unset_lt {b s t a : Nat} (ha : a < b) (h : ∀ j, s.testBit j = true → t.testBit j = true) (hs : s.testBit a = false) (ht : t.testBit a = true) :
    unset b t < unset b s := by
  refine countP_lt (a := a) (List.mem_range.mpr ha) ?_ ?_ ?_
  · intro x hx
    cases c : s.testBit x with
    | false => rfl
    | true => rw [h x c] at hx; cases hx
  · rw [hs]; rfl
  · rw [ht]; rfl

/-! The levels -/
theorem levels_nil (s f seen) : levels s f [] seen = [] := by cases f <;> rfl
theorem levels_cons (s f now seen) (h : now ≠ []) : levels s (f + 1) now seen =
    now :: levels s f (fresh (now.flatMap (nexts s)) seen).1 (fresh (now.flatMap (nexts s)) seen).2 := by
  show (if now.isEmpty = true then [] else _) = _
  rw [if_neg (by simpa using h)]

/-- what holds of the levels from the d-th on -/
structure Lev (nx : List Nat → List (List Nat)) (src : List Nat → Prop) (d : Nat) (L : List (List (List Nat))) : Prop where
  mem : ∀ k n, n ∈ L.getD k [] ↔ Dk nx src (d + k) n
  nodup : ∀ l ∈ L, l.Nodup
  full : ∀ l ∈ L, l ≠ []

theorem levels_lev {s : St} {m : Nat} {src : List Nat → Prop} (hnx : ∀ p, Un m p → ∀ n ∈ nexts s p, Un m n) (hsrc : ∀ n, src n → Un m n) :
    ∀ (f d : Nat) (now : List (List Nat)) (seen : Nat),
    (∀ n, n ∈ now ↔ Dk (nexts s) src d n) → now.Nodup →
    (∀ n, Un m n → (seen.testBit (code n) = true ↔ ∃ j, j ≤ d ∧ Rk (nexts s) src j n)) →
    (now = [] ∨ unset (5 ^ m) seen < f) →
    Lev (nexts s) src d (levels s f now seen) := by
  intro f
  induction f with
  | zero =>
    intro d now seen hnow _ _ hf
    have e : now = [] := by rcases hf with h | h; exact h; omega
    subst e
    rw [levels_nil]
    refine ⟨fun k n => ?_, fun l hl => (by cases hl), fun l hl => (by cases hl)⟩
    constructor
    · intro h; simp at h
    · intro h
      exfalso
      have : ∀ k n, ¬ Dk (nexts s) src (d + k) n := by
        intro k
        induction k with
        | zero => intro n hn; have := (hnow n).mpr hn; cases this
        | succ k ih => intro n hn; obtain ⟨p, hp, _⟩ := Dk.pred hn; exact ih p hp
      exact this k n h
  | succ f ih =>
    intro d now seen hnow hnd hseen hf
    by_cases e : now = []
    · subst e
      rw [levels_nil]
      refine ⟨fun k n => ?_, fun l hl => (by cases hl), fun l hl => (by cases hl)⟩
      constructor
      · intro h; simp at h
      · intro h
        exfalso
        have : ∀ k n, ¬ Dk (nexts s) src (d + k) n := by
          intro k
          induction k with
          | zero => intro n hn; have := (hnow n).mpr hn; cases this
          | succ k ih => intro n hn; obtain ⟨p, hp, _⟩ := Dk.pred hn; exact ih p hp
        exact this k n h
    · rw [levels_cons s f now seen e]
      have hunow : ∀ n ∈ now, Un m n := fun n hn => Rk.un hnx hsrc ((hnow n).mp hn).1
      have huflat : ∀ n ∈ now.flatMap (nexts s), Un m n := by
        intro n hn
        obtain ⟨p, hp, hn⟩ := List.mem_flatMap.mp hn
        exact hnx p (hunow p hp) n hn
      have hmem : ∀ n, n ∈ (fresh (now.flatMap (nexts s)) seen).1 ↔ Dk (nexts s) src (d + 1) n := by
        intro n
        rw [fresh_eq, freshGo_mem (m := m) _ _ huflat (by intro n hn; cases hn)]
        show (n ∈ [] ∨ (n ∈ now.flatMap (nexts s) ∧ seen.testBit (code n) = false)) ↔ _
        constructor
        · rintro (h | ⟨h, hb⟩)
          · cases h
          · have hu := huflat n h
            obtain ⟨p, hp, hn⟩ := List.mem_flatMap.mp h
            refine ⟨⟨p, ((hnow p).mp hp).1, hn⟩, fun j hj hr => ?_⟩
            have := (hseen n hu).mpr ⟨j, by omega, hr⟩
            rw [hb] at this
            cases this
        · intro h
          obtain ⟨p, hp, hn⟩ := Dk.pred h
          have hpn := (hnow p).mpr hp
          have hf : n ∈ now.flatMap (nexts s) := List.mem_flatMap.mpr ⟨p, hpn, hn⟩
          refine .inr ⟨hf, ?_⟩
          cases c : seen.testBit (code n) with
          | false => rfl
          | true =>
            obtain ⟨j, hj, hr⟩ := (hseen n (huflat n hf)).mp c
            exact (h.2 j (by omega) hr).elim
      have hnd' : (fresh (now.flatMap (nexts s)) seen).1.Nodup := by
        rw [fresh_eq]
        exact freshGo_nodup (m := m) _ _ huflat List.nodup_nil (by intro n hn; cases hn)
      have hbits : ∀ j, (fresh (now.flatMap (nexts s)) seen).2.testBit j = true ↔ (seen.testBit j = true ∨ ∃ n ∈ now.flatMap (nexts s), code n = j) := by
        intro j
        rw [fresh_eq, freshGo_bits]
      have hseen' : ∀ n, Un m n → ((fresh (now.flatMap (nexts s)) seen).2.testBit (code n) = true ↔ ∃ j, j ≤ d + 1 ∧ Rk (nexts s) src j n) := by
        intro n hu
        rw [hbits]
        constructor
        · rintro (h | ⟨p, hp, e⟩)
          · obtain ⟨j, hj, hr⟩ := (hseen n hu).mp h
            exact ⟨j, by omega, hr⟩
          · have e2 := code_inj (huflat p hp) hu e
            subst e2
            obtain ⟨q, hq, hn⟩ := List.mem_flatMap.mp hp
            exact ⟨d + 1, Nat.le_refl _, q, ((hnow q).mp hq).1, hn⟩
        · rintro ⟨j, hj, hr⟩
          by_cases c : ∃ i, i ≤ d ∧ Rk (nexts s) src i n
          · exact .inl ((hseen n hu).mpr c)
          · have ej : j = d + 1 := by
              rcases Nat.lt_or_ge d j with q | q
              · omega
              · exact (c ⟨j, q, hr⟩).elim
            subst ej
            have hd : Dk (nexts s) src (d + 1) n := ⟨hr, fun i hi hri => c ⟨i, by omega, hri⟩⟩
            obtain ⟨p, hp, hn⟩ := Dk.pred hd
            exact .inr ⟨n, List.mem_flatMap.mpr ⟨p, (hnow p).mpr hp, hn⟩, rfl⟩
      have hfuel : (fresh (now.flatMap (nexts s)) seen).1 = [] ∨ unset (5 ^ m) (fresh (now.flatMap (nexts s)) seen).2 < f := by
        by_cases c : (fresh (now.flatMap (nexts s)) seen).1 = []
        · exact .inl c
        · refine .inr ?_
          obtain ⟨n, hn⟩ := List.exists_mem_of_ne_nil _ c
          have hd := (hmem n).mp hn
          have hu : Un m n := Rk.un hnx hsrc hd.1
          have hlt : unset (5 ^ m) (fresh (now.flatMap (nexts s)) seen).2 < unset (5 ^ m) seen := by
            refine unset_lt (code_lt hu) (fun j hj => (hbits j).mpr (.inl hj)) ?_ ((hseen' n hu).mpr ⟨d + 1, Nat.le_refl _, hd.1⟩)
            cases c : seen.testBit (code n) with
            | false => rfl
            | true =>
              obtain ⟨j, hj, hr⟩ := (hseen n hu).mp c
              exact (hd.2 j (by omega) hr).elim
          rcases hf with h | h
          · exact (e h).elim
          · omega
      have r := ih (d + 1) _ _ hmem hnd' hseen' hfuel
      refine ⟨fun k n => ?_, fun l hl => ?_, fun l hl => ?_⟩
      · cases k with
        | zero => exact hnow n
        | succ k =>
          have := r.mem k n
          rw [show d + 1 + k = d + (k + 1) by omega] at this
          exact this
      · rcases List.mem_cons.mp hl with rfl | hl
        · exact hnd
        · exact r.nodup l hl
      · rcases List.mem_cons.mp hl with rfl | hl
        · exact e
        · exact r.full l hl

/-- **the levels from some** -/
theorem from_lev {s : St} {m : Nat} (hm : m ≤ 5) {l : List (List Nat)} (hnx : ∀ p, Un m p → ∀ n ∈ nexts s p, Un m n) (hl : ∀ n ∈ l, Un m n) :
    Lev (nexts s) (fun n => n ∈ l) 0 (from_ s l) := by
  show Lev _ _ 0 (levels s 3200 (fresh l 0).1 (fresh l 0).2)
  have hmem : ∀ n, n ∈ (fresh l 0).1 ↔ n ∈ l := by
    intro n
    rw [fresh_eq, freshGo_mem (m := m) _ _ hl (by intro n hn; cases hn)]
    show (n ∈ [] ∨ (n ∈ l ∧ Nat.testBit 0 (code n) = false)) ↔ _
    rw [Nat.zero_testBit]
    simp
  refine levels_lev hnx hl 3200 0 _ _ ?_ ?_ ?_ ?_
  · intro n
    rw [hmem]
    exact ⟨fun h => ⟨h, fun j hj => by omega⟩, fun h => h.1⟩
  · rw [fresh_eq]
    exact freshGo_nodup (m := m) _ _ hl List.nodup_nil (by intro n hn; cases hn)
  · intro n hu
    rw [fresh_eq, freshGo_bits]
    show (Nat.testBit 0 (code n) = true ∨ _) ↔ _
    rw [Nat.zero_testBit]
    constructor
    · rintro (h | ⟨p, hp, e⟩)
      · cases h
      · exact ⟨0, Nat.le_refl _, code_inj (hl p hp) hu e ▸ hp⟩
    · rintro ⟨j, hj, hr⟩
      have : j = 0 := by omega
      subst this
      exact .inr ⟨n, hr, rfl⟩
  · right
    have h1 := unset_le (5 ^ m) (fresh l 0).2
    have h2 : 5 ^ m ≤ 5 ^ 5 := Nat.pow_le_pow_right (by decide) hm
    have h3 : (5 : Nat) ^ 5 = 3125 := by decide
    omega
end Cy

/-! Moves and arrangements of the specification. -/
namespace Cy
open Sy66

/-- the cells of car k at place o -/
def cells (s : St) (k o : Nat) : List Nat := cellsOf s (carOf s k) o

/-- cars as they are told: at least 2 long, their line in the yard; a yard of 1 to 5 rows and columns; at most 5 cars -/
structure Yd (s : St) : Prop where
  rows : 1 ≤ s.rows ∧ s.rows ≤ 5
  cols : 1 ≤ s.cols ∧ s.cols ≤ 5
  cars : s.cars.length ≤ 5
  long : ∀ c ∈ s.cars, 2 ≤ c.long ∧ c.long ≤ 5
  line : ∀ c ∈ s.cars, c.line < (if c.upright = true then s.cols else s.rows)
  fits : ∀ c ∈ s.cars, c.long ≤ lineLong s c

theorem meet_iff {a b : List Nat} : meet a b = true ↔ ∃ x, x ∈ a ∧ x ∈ b := by
  unfold meet
  rw [List.any_eq_true]
  constructor
  · rintro ⟨x, hx, h⟩; exact ⟨x, hx, List.contains_iff_mem.mp h⟩
  · rintro ⟨x, hx, h⟩; exact ⟨x, hx, List.contains_iff_mem.mpr h⟩

theorem meet_false {a b : List Nat} : meet a b = false ↔ ∀ x, x ∈ a → x ∉ b := by
  cases h : meet a b with
  | false =>
    refine ⟨fun _ x hx hy => ?_, fun _ => rfl⟩
    have := meet_iff.mpr ⟨x, hx, hy⟩
    rw [h] at this; cases this
  | true =>
    obtain ⟨x, hx, hy⟩ := meet_iff.mp h
    exact ⟨fun h => (by cases h), fun g => (g x hx hy).elim⟩

theorem meet_comm (a b : List Nat) : meet a b = meet b a := by
  cases h : meet b a with
  | false => exact meet_false.mpr fun x hx hy => meet_false.mp h x hy hx
  | true => obtain ⟨x, hx, hy⟩ := meet_iff.mp h; exact meet_iff.mpr ⟨x, hy, hx⟩

/-- the cell of a line's q-th place -/
def spot (s : St) (c : Car) (q : Nat) : Nat := if c.upright = true then q * s.cols + c.line else c.line * s.cols + q

theorem mem_cellsOf {s : St} {c : Car} {o x : Nat} : x ∈ cellsOf s c o ↔ ∃ q, o ≤ q ∧ q < o + c.long ∧ x = spot s c q := by
  unfold cellsOf spot
  rw [List.mem_map]
  constructor
  · rintro ⟨i, hi, e⟩
    refine ⟨o + i, by omega, by have := List.mem_range.mp hi; omega, ?_⟩
    by_cases h : c.upright = true
    · rw [if_pos h] at e ⊢; exact e.symm
    · rw [if_neg h] at e ⊢; rw [← e]; omega
  · rintro ⟨q, h1, h2, e⟩
    refine ⟨q - o, List.mem_range.mpr (by omega), ?_⟩
    by_cases h : c.upright = true
    · rw [if_pos h] at e ⊢; rw [e, Nat.add_sub_cancel' h1]
    · rw [if_neg h] at e ⊢; rw [e]; omega

/-- legal, told -/
theorem legal_iff {s : St} {l : List Nat} : legal s l = true ↔
    (∀ i, i < l.length → l.getD i 0 + (carOf s i).long ≤ lineLong s (carOf s i)) ∧
    (∀ i j, i < l.length → j < i → meet (cells s i (l.getD i 0)) (cells s j (l.getD j 0)) = false) := by
  unfold legal cells
  rw [List.all_eq_true]
  constructor
  · intro h
    refine ⟨fun i hi => ?_, fun i j hi hj => ?_⟩
    · have := h i (List.mem_range.mpr hi)
      rw [Bool.and_eq_true] at this
      exact of_decide_eq_true this.1
    · have := h i (List.mem_range.mpr hi)
      rw [Bool.and_eq_true, List.all_eq_true] at this
      have := this.2 j (List.mem_range.mpr hj)
      simpa using this
  · rintro ⟨h1, h2⟩ i hi
    have hi := List.mem_range.mp hi
    rw [Bool.and_eq_true, List.all_eq_true]
    refine ⟨decide_eq_true (h1 i hi), fun j hj => ?_⟩
    rw [h2 i j hi (List.mem_range.mp hj)]
    rfl

theorem legal_ne {s : St} {l : List Nat} (h : legal s l = true) {i j : Nat} (hi : i < l.length) (hj : j < l.length) (hne : i ≠ j) :
    meet (cells s i (l.getD i 0)) (cells s j (l.getD j 0)) = false := by
  rcases Nat.lt_or_gt_of_ne hne with q | q
  · rw [meet_comm]; exact (legal_iff.mp h).2 j i hj q
  · exact (legal_iff.mp h).2 i j hi q

/-- **a move, place by place**: all the places from here to there are in the yard and free of the others -/
def Way (s : St) (l : List Nat) (k o : Nat) : Prop :=
  k < l.length ∧ o ≠ l.getD k 0 ∧ o + (carOf s k).long ≤ lineLong s (carOf s k) ∧
  ∀ q, min (l.getD k 0) o ≤ q → q ≤ max (l.getD k 0) o → ∀ j, j < l.length → j ≠ k → meet (cells s k q) (cells s j (l.getD j 0)) = false

theorem way_cells {s : St} {c : Car} (hc : 1 ≤ c.long) {lo hi x : Nat} (h : lo ≤ hi) :
    x ∈ cellsOf s ⟨c.upright, c.line, c.long + (hi - lo)⟩ lo ↔ ∃ q, lo ≤ q ∧ q ≤ hi ∧ x ∈ cellsOf s c q := by
  rw [mem_cellsOf]
  show (∃ q, lo ≤ q ∧ q < lo + (c.long + (hi - lo)) ∧ x = spot s c q) ↔ _
  constructor
  · rintro ⟨q, h1, h2, e⟩
    by_cases g : q ≤ hi
    · exact ⟨q, h1, g, mem_cellsOf.mpr ⟨q, Nat.le_refl _, by omega, e⟩⟩
    · exact ⟨hi, h, Nat.le_refl _, mem_cellsOf.mpr ⟨q, by omega, by omega, e⟩⟩
  · rintro ⟨p, h1, h2, hx⟩
    obtain ⟨q, h3, h4, e⟩ := mem_cellsOf.mp hx
    exact ⟨q, by omega, by omega, e⟩

theorem moved_iff {s : St} {l : List Nat} {k o : Nat} (hc : 1 ≤ (carOf s k).long) {u : List Nat} :
    moved s l k o = some u ↔ (Way s l k o ∧ u = l.set k o) := by
  unfold moved
  show (if l.length ≤ k ∨ o = l.getD k 0 ∨ lineLong s (carOf s k) < o + (carOf s k).long then none
    else if (List.range l.length).any (fun (j : Nat) => j != k && meet (cellsOf s ⟨(carOf s k).upright, (carOf s k).line, (carOf s k).long + (max (l.getD k 0) o - min (l.getD k 0) o)⟩ (min (l.getD k 0) o)) (cellsOf s (carOf s j) (l.getD j 0))) = true then none
    else some (l.set k o)) = some u ↔ _
  have hmm : min (l.getD k 0) o ≤ max (l.getD k 0) o := by omega
  by_cases h1 : l.length ≤ k ∨ o = l.getD k 0 ∨ lineLong s (carOf s k) < o + (carOf s k).long
  · rw [if_pos h1]
    refine ⟨fun h => (by cases h), fun h => ?_⟩
    obtain ⟨⟨a, b, c, _⟩, _⟩ := h
    omega
  · rw [if_neg h1]
    by_cases h2 : (List.range l.length).any (fun (j : Nat) => j != k && meet (cellsOf s ⟨(carOf s k).upright, (carOf s k).line, (carOf s k).long + (max (l.getD k 0) o - min (l.getD k 0) o)⟩ (min (l.getD k 0) o)) (cellsOf s (carOf s j) (l.getD j 0))) = true
    · rw [if_pos h2]
      refine ⟨fun h => (by cases h), fun h => ?_⟩
      obtain ⟨⟨_, _, _, hw⟩, _⟩ := h
      obtain ⟨j, hj, g⟩ := List.any_eq_true.mp h2
      rw [Bool.and_eq_true] at g
      obtain ⟨x, hx, hy⟩ := meet_iff.mp g.2
      obtain ⟨q, q1, q2, hq⟩ := (way_cells hc hmm).mp hx
      have := hw q q1 q2 j (List.mem_range.mp hj) (by simpa using g.1)
      exact (meet_false.mp this x hq hy).elim
    · rw [if_neg h2]
      constructor
      · intro h
        refine ⟨⟨by omega, by omega, by omega, ?_⟩, (Option.some.inj h).symm⟩
        intro q q1 q2 j hj hjk
        refine meet_false.mpr fun x hx hy => h2 ?_
        refine List.any_eq_true.mpr ⟨j, List.mem_range.mpr hj, ?_⟩
        rw [Bool.and_eq_true]
        refine ⟨by simpa using hjk, meet_iff.mpr ⟨x, (way_cells hc hmm).mpr ⟨q, q1, q2, hx⟩, hy⟩⟩
      · rintro ⟨_, e⟩
        rw [e]

theorem getD_set {l : List Nat} {k j o : Nat} : (l.set k o).getD j 0 = if j = k ∧ k < l.length then o else l.getD j 0 := by
  rw [List.getD_eq_getElem?_getD, List.getD_eq_getElem?_getD, List.getElem?_set]
  by_cases h : k = j
  · subst h
    by_cases g : k < l.length
    · simp [g]
    · simp [g]
  · have h' : ¬ j = k := fun e => h e.symm
    simp [h, h']

/-- a move can be made back -/
theorem Way.back {s : St} {l : List Nat} {k o : Nat} (h : Way s l k o) (hl : l.getD k 0 + (carOf s k).long ≤ lineLong s (carOf s k)) :
    Way s (l.set k o) k (l.getD k 0) ∧ (l.set k o).set k (l.getD k 0) = l := by
  obtain ⟨h1, h2, h3, h4⟩ := h
  have e : (l.set k o).getD k 0 = o := by rw [getD_set, if_pos ⟨rfl, h1⟩]
  refine ⟨⟨by rw [List.length_set]; exact h1, by rw [e]; omega, hl, ?_⟩, ?_⟩
  · rw [e, List.length_set]
    intro q q1 q2 j hj hjk
    rw [getD_set, if_neg (fun c => hjk c.1)]
    exact h4 q (by omega) (by omega) j hj hjk
  · rw [List.set_set]
    apply List.ext_getElem?
    intro i
    rw [List.getElem?_set]
    by_cases g : k = i
    · subst g
      rw [if_pos rfl, if_pos h1, List.getD_eq_getElem?_getD, List.getElem?_eq_getElem h1]
      rfl
    · rw [if_neg g]

/-- behind a move the arrangement is one still -/
theorem Way.legal {s : St} {l : List Nat} {k o : Nat} (h : Way s l k o) (hl : legal s l = true) : Sy66.legal s (l.set k o) = true := by
  obtain ⟨h1, h2, h3, h4⟩ := h
  rw [legal_iff]
  rw [List.length_set]
  have L := legal_iff.mp hl
  refine ⟨fun i hi => ?_, fun i j hi hj => ?_⟩
  · rw [getD_set]
    by_cases c : i = k
    · subst c; rw [if_pos ⟨rfl, h1⟩]; exact h3
    · rw [if_neg (fun z => c z.1)]; exact L.1 i hi
  · rw [getD_set, getD_set]
    have ho := h4 o (by omega) (by omega)
    by_cases c : i = k
    · subst c
      rw [if_pos ⟨rfl, h1⟩, if_neg (fun z => by omega)]
      exact ho j (by omega) (by omega)
    · rw [if_neg (fun z => c z.1)]
      by_cases d : j = k
      · subst d
        rw [if_pos ⟨rfl, h1⟩, meet_comm]
        exact ho i hi c
      · rw [if_neg (fun z => d z.1)]
        exact L.2 i j hi hj

theorem carOf_mem {s : St} {k : Nat} (h : k < s.cars.length) : carOf s k ∈ s.cars := by
  unfold carOf
  rw [List.getD_eq_getElem?_getD, List.getElem?_eq_getElem h]
  exact List.getElem_mem h

theorem carOf_long {s : St} (hs : Yd s) (k : Nat) : 1 ≤ (carOf s k).long := by
  by_cases h : k < s.cars.length
  · have := (hs.long _ (carOf_mem h)).1
    omega
  · unfold carOf
    rw [List.getD_eq_getElem?_getD, List.getElem?_eq_none (by omega)]
    exact Nat.le_refl 1

theorem lineLong_le {s : St} (hs : Yd s) (c : Car) : lineLong s c ≤ 5 := by
  unfold lineLong
  split
  · exact hs.rows.2
  · exact hs.cols.2

theorem place_lt {s : St} (hs : Yd s) {k o : Nat} (h : o + (carOf s k).long ≤ lineLong s (carOf s k)) : o < 5 := by
  have := carOf_long hs k
  have := lineLong_le hs (carOf s k)
  omega

/-- next to an arrangement -/
theorem mem_nexts {s : St} (hs : Yd s) {l u : List Nat} : u ∈ nexts s l ↔ ∃ k o, Way s l k o ∧ u = l.set k o := by
  unfold nexts moves
  rw [List.mem_filterMap]
  constructor
  · rintro ⟨⟨k, o⟩, _, h⟩
    exact ⟨k, o, (moved_iff (carOf_long hs k)).mp h⟩
  · rintro ⟨k, o, h, e⟩
    refine ⟨(k, o), ?_, (moved_iff (carOf_long hs k)).mpr ⟨h, e⟩⟩
    rw [List.mem_flatMap]
    refine ⟨k, List.mem_range.mpr h.1, ?_⟩
    rw [List.mem_map]
    exact ⟨o, List.mem_range.mpr (place_lt hs h.2.2.1), rfl⟩

theorem nexts_un {s : St} (hs : Yd s) {m : Nat} (p : List Nat) (hp : Un m p) (n : List Nat) (hn : n ∈ nexts s p) : Un m n := by
  obtain ⟨k, o, h, e⟩ := (mem_nexts hs).mp hn
  subst e
  refine ⟨by rw [List.length_set]; exact hp.1, fun x hx => ?_⟩
  rcases List.mem_or_eq_of_mem_set hx with hx | hx
  · exact hp.2 x hx
  · rw [hx]; exact place_lt hs h.2.2.1

theorem legal_un {s : St} (hs : Yd s) {l : List Nat} (h : legal s l = true) : Un l.length l := by
  refine ⟨rfl, fun x hx => ?_⟩
  obtain ⟨i, hi, e⟩ := List.mem_iff_getElem.mp hx
  have := (legal_iff.mp h).1 i hi
  rw [List.getD_eq_getElem?_getD, List.getElem?_eq_getElem hi] at this
  have e2 : (some l[i]).getD 0 = x := e
  rw [e2] at this
  exact place_lt hs this

theorem nexts_legal {s : St} (hs : Yd s) {l u : List Nat} (h : legal s l = true) (hu : u ∈ nexts s l) : legal s u = true := by
  obtain ⟨k, o, w, e⟩ := (mem_nexts hs).mp hu
  subst e
  exact w.legal h

theorem nexts_length {s : St} (hs : Yd s) {l u : List Nat} (hu : u ∈ nexts s l) : u.length = l.length := by
  obtain ⟨k, o, w, e⟩ := (mem_nexts hs).mp hu
  subst e
  rw [List.length_set]

theorem nexts_back {s : St} (hs : Yd s) {l u : List Nat} (h : legal s l = true) (hu : u ∈ nexts s l) : l ∈ nexts s u := by
  obtain ⟨k, o, w, e⟩ := (mem_nexts hs).mp hu
  subst e
  have b := w.back ((legal_iff.mp h).1 k w.1)
  exact (mem_nexts hs).mpr ⟨k, l.getD k 0, b.1, b.2.symm⟩

/-- from one arrangement: walks keep to arrangements -/
theorem Rk.legal {s : St} (hs : Yd s) {src : List Nat → Prop} (h : ∀ n, src n → Sy66.legal s n = true) : ∀ {k n}, Rk (nexts s) src k n → Sy66.legal s n = true
  | 0, n, r => h n r
  | _ + 1, _, ⟨_, hp, hn⟩ => nexts_legal hs (Rk.legal hs h hp) hn

theorem Rk.length {s : St} (hs : Yd s) {m : Nat} {src : List Nat → Prop} (h : ∀ n, src n → n.length = m) : ∀ {k n}, Rk (nexts s) src k n → n.length = m
  | 0, n, r => h n r
  | _ + 1, _, ⟨_, hp, hn⟩ => (nexts_length hs hn).trans (Rk.length hs h hp)

/-- a walk from a to b -/
def Wk (s : St) (k : Nat) (a b : List Nat) : Prop := Rk (nexts s) (fun n => n = a) k b

theorem Wk.front {s : St} : ∀ {k a b c}, b ∈ nexts s a → Wk s k b c → Wk s (k + 1) a c
  | 0, a, b, c, h, w => by
    have : c = b := w
    subst this
    exact ⟨a, rfl, h⟩
  | k + 1, a, b, c, h, ⟨p, hp, hc⟩ => ⟨p, Wk.front h hp, hc⟩

theorem Wk.back {s : St} (hs : Yd s) : ∀ {k a b}, legal s a = true → Wk s k a b → Wk s k b a
  | 0, a, b, _, w => Eq.symm (show b = a from w)
  | k + 1, a, b, ha, ⟨p, hp, hb⟩ => by
    have hpl : legal s p = true := Rk.legal hs (fun n e => by rw [e]; exact ha) hp
    exact Wk.front (nexts_back hs hpl hb) (Wk.back hs ha hp)

theorem Wk.trans {s : St} {i a b} (h : Wk s i a b) : ∀ {j c}, Wk s j b c → Wk s (i + j) a c
  | 0, c, w => by
    have : c = b := w
    subst this
    exact h
  | j + 1, c, ⟨p, hp, hc⟩ => ⟨p, Wk.trans h hp, hc⟩

theorem Rk_src {nx src k n} : Rk nx src k n ↔ ∃ a, src a ∧ Rk nx (fun m => m = a) k n := by
  induction k generalizing n with
  | zero => exact ⟨fun h => ⟨n, h, rfl⟩, fun ⟨a, h, e⟩ => by have : n = a := e; subst this; exact h⟩
  | succ k ih =>
    constructor
    · rintro ⟨p, hp, hn⟩
      obtain ⟨a, ha, h⟩ := ih.mp hp
      exact ⟨a, ha, p, h, hn⟩
    · rintro ⟨a, ha, p, hp, hn⟩
      exact ⟨p, ih.mpr ⟨a, ha, hp⟩, hn⟩
end Cy

/-! What the specification answers, told by walks. -/
namespace Cy
open Sy66

/-- a state that calls can lead to -/
structure Ok (s : St) : Prop where
  yd : Yd s
  len : s.at_.length = s.cars.length
  legal : Sy66.legal s s.at_ = true
  keys : (s.wants.map (·.1)).Nodup
  want : ∀ x ∈ s.wants, x.1 < s.cars.length ∧ x.2 + (carOf s x.1).long ≤ lineLong s (carOf s x.1)

theorem Ok.un {s : St} (h : Ok s) : Un s.cars.length s.at_ := h.len ▸ legal_un h.yd h.legal

/-- it can come about -/
def Can (s : St) (n : List Nat) : Prop := ∃ k, Wk s k s.at_ n

theorem Can.self {s : St} : Can s s.at_ := ⟨0, rfl⟩
theorem Can.legal {s : St} (hs : Ok s) {n : List Nat} (h : Can s n) : Sy66.legal s n = true := by
  obtain ⟨k, w⟩ := h
  exact Rk.legal hs.yd (fun n e => by rw [e]; exact hs.legal) w
theorem Can.length {s : St} (hs : Ok s) {n : List Nat} (h : Can s n) : n.length = s.cars.length := by
  obtain ⟨k, w⟩ := h
  exact Rk.length hs.yd (fun n e => by rw [e]; exact hs.len) w
theorem Can.un {s : St} (hs : Ok s) {n : List Nat} (h : Can s n) : Un s.cars.length n := by
  have := legal_un hs.yd (h.legal hs)
  rw [h.length hs] at this
  exact this
theorem Can.next {s : St} {n u : List Nat} (h : Can s n) (hu : u ∈ nexts s n) : Can s u := by
  obtain ⟨k, w⟩ := h
  exact ⟨k + 1, n, w, hu⟩
theorem Can.walk {s : St} {n u : List Nat} {k : Nat} (h : Can s n) (w : Wk s k n u) : Can s u := by
  obtain ⟨j, v⟩ := h
  exact ⟨j + k, Wk.trans v w⟩

theorem Ok.nx {s : St} (hs : Ok s) : ∀ p, Un s.cars.length p → ∀ n ∈ nexts s p, Un s.cars.length n := fun p hp n hn => nexts_un hs.yd p hp n hn

/-! levels as one list -/
theorem Lev.mem_flat {nx src L} (h : Lev nx src 0 L) (n : List Nat) : n ∈ L.flatMap (fun l => l) ↔ ∃ k, Rk nx src k n := by
  rw [List.mem_flatMap]
  constructor
  · rintro ⟨l, hl, hn⟩
    obtain ⟨k, hk, e⟩ := List.mem_iff_getElem.mp hl
    have := (h.mem k n).mp (by rw [List.getD_eq_getElem?_getD, List.getElem?_eq_getElem hk, e]; exact hn)
    exact ⟨0 + k, this.1⟩
  · rintro ⟨k, r⟩
    obtain ⟨j, _, hd⟩ := r.least
    have hm := (h.mem j n).mpr (by rw [Nat.zero_add]; exact hd)
    rw [List.getD_eq_getElem?_getD] at hm
    cases e : L[j]? with
    | none => rw [e] at hm; cases hm
    | some l =>
      rw [e] at hm
      exact ⟨l, List.mem_of_getElem? e, hm⟩

theorem Lev.tail {nx src d a L} (h : Lev nx src d (a :: L)) : Lev nx src (d + 1) L := by
  refine ⟨fun k n => ?_, fun l hl => h.nodup l (List.mem_cons_of_mem _ hl), fun l hl => h.full l (List.mem_cons_of_mem _ hl)⟩
  have := h.mem (k + 1) n
  rw [show d + (k + 1) = d + 1 + k by omega] at this
  exact this

theorem Lev.flat_nodup {nx src} : ∀ {L d}, Lev nx src d L → (L.flatMap (fun l => l)).Nodup
  | [], _, _ => List.nodup_nil
  | a :: L, d, h => by
    show (a ++ L.flatMap (fun l => l)).Nodup
    rw [List.nodup_append]
    refine ⟨h.nodup a (List.mem_cons_self ..), Lev.flat_nodup h.tail, ?_⟩
    intro p hp q hq e
    subst e
    have h0 := (h.mem 0 p).mp hp
    obtain ⟨l, hl, hn⟩ := List.mem_flatMap.mp hq
    obtain ⟨k, hk, e⟩ := List.mem_iff_getElem.mp hl
    have h1 := (h.tail.mem k p).mp (by rw [List.getD_eq_getElem?_getD, List.getElem?_eq_getElem hk, e]; exact hn)
    have := h0.unique h1
    omega

theorem Lev.distance {nx src L} (h : Lev nx src 0 L) {n : List Nat} {k : Nat} : distance L n = some k ↔ Dk nx src k n := by
  unfold Sy66.distance
  rw [List.findIdx?_eq_some_iff_getElem]
  constructor
  · rintro ⟨hk, hc, _⟩
    have := (h.mem k n).mp (by rw [List.getD_eq_getElem?_getD, List.getElem?_eq_getElem hk]; exact List.contains_iff_mem.mp hc)
    rw [Nat.zero_add] at this
    exact this
  · intro hd
    have hm := (h.mem k n).mpr (by rw [Nat.zero_add]; exact hd)
    rw [List.getD_eq_getElem?_getD] at hm
    cases e : L[k]? with
    | none => rw [e] at hm; cases hm
    | some l =>
      rw [e] at hm
      obtain ⟨hk, el⟩ := List.getElem?_eq_some_iff.mp e
      refine ⟨hk, by rw [el]; exact List.contains_iff_mem.mpr hm, fun j hj => ?_⟩
      intro hc
      have := (h.mem j n).mp (by rw [List.getD_eq_getElem?_getD, List.getElem?_eq_getElem (by omega)]; exact List.contains_iff_mem.mp hc)
      rw [Nat.zero_add] at this
      have := this.unique hd
      omega

theorem Lev.distance_none {nx src L} (h : Lev nx src 0 L) {n : List Nat} : Sy66.distance L n = none ↔ ∀ k, ¬ Rk nx src k n := by
  constructor
  · intro e k r
    obtain ⟨j, _, hd⟩ := r.least
    rw [h.distance.mpr hd] at e
    cases e
  · intro hr
    cases e : Sy66.distance L n with
    | none => rfl
    | some k => exact (hr k (h.distance.mp e).1).elim

theorem Lev.length_lt {nx src L} (h : Lev nx src 0 L) {k : Nat} : k < L.length ↔ ∃ n, Dk nx src k n := by
  constructor
  · intro hk
    obtain ⟨n, hn⟩ := List.exists_mem_of_ne_nil _ (h.full L[k] (List.getElem_mem hk))
    refine ⟨n, ?_⟩
    have := (h.mem k n).mp (by rw [List.getD_eq_getElem?_getD, List.getElem?_eq_getElem hk]; exact hn)
    rw [Nat.zero_add] at this
    exact this
  · rintro ⟨n, hd⟩
    have hm := (h.mem k n).mpr (by rw [Nat.zero_add]; exact hd)
    rw [List.getD_eq_getElem?_getD] at hm
    cases e : L[k]? with
    | none => rw [e] at hm; cases hm
    | some l => exact (List.getElem?_eq_some_iff.mp e).1

/-! reach, ends -/
theorem from_at {s : St} (hs : Ok s) : Lev (nexts s) (fun n => n ∈ [s.at_]) 0 (from_ s [s.at_]) :=
  from_lev hs.yd.cars hs.nx (fun n hn => by rw [List.mem_singleton.mp hn]; exact hs.un)

theorem mem_reach {s : St} (hs : Ok s) {n : List Nat} : n ∈ reach s ↔ Can s n := by
  unfold reach Can Wk
  rw [(from_at hs).mem_flat]
  have : (fun n => n ∈ [s.at_]) = (fun n => n = s.at_) := funext fun n => propext List.mem_singleton
  rw [this]

theorem reach_nodup {s : St} (hs : Ok s) : (reach s).Nodup := (from_at hs).flat_nodup

theorem from_ends {s : St} (hs : Ok s) : Lev (nexts s) (fun n => n ∈ (reach s).filter (done s)) 0 (ends s) :=
  from_lev hs.yd.cars hs.nx (fun n hn => ((mem_reach hs).mp (List.mem_filter.mp hn).1).un hs)

/-- so many moves are needed from there, and no fewer do -/
def Need (s : St) (k : Nat) (n : List Nat) : Prop :=
  (∃ g, done s g = true ∧ Wk s k n g) ∧ ∀ j, j < k → ¬ ∃ g, done s g = true ∧ Wk s j n g

theorem Need.unique {s j k n} (h : Need s j n) (g : Need s k n) : j = k := by
  rcases Nat.lt_trichotomy j k with q | q | q
  · exact (g.2 j q h.1).elim
  · exact q
  · exact (h.2 k q g.1).elim

theorem Need.least {s : St} : ∀ {k n g}, done s g = true → Wk s k n g → ∃ j, j ≤ k ∧ Need s j n := by
  intro k
  induction k using Nat.strongRecOn with
  | _ k ih =>
    intro n g hg w
    by_cases c : ∃ j, j < k ∧ ∃ g, done s g = true ∧ Wk s j n g
    · obtain ⟨j, hj, g', hg', w'⟩ := c
      obtain ⟨i, hi, hd⟩ := ih j hj hg' w'
      exact ⟨i, by omega, hd⟩
    · exact ⟨k, Nat.le_refl _, ⟨g, hg, w⟩, fun j hj hr => c ⟨j, hj, hr⟩⟩

theorem ends_rk {s : St} (hs : Ok s) {n : List Nat} {k : Nat} :
    Rk (nexts s) (fun n => n ∈ (reach s).filter (done s)) k n ↔ (Can s n ∧ ∃ g, done s g = true ∧ Wk s k n g) := by
  rw [Rk_src]
  constructor
  · rintro ⟨a, ha, w⟩
    obtain ⟨h1, h2⟩ := List.mem_filter.mp ha
    have ca := (mem_reach hs).mp h1
    exact ⟨ca.walk w, a, h2, Wk.back hs.yd (ca.legal hs) w⟩
  · rintro ⟨cn, g, hg, w⟩
    exact ⟨g, List.mem_filter.mpr ⟨(mem_reach hs).mpr (cn.walk w), hg⟩, Wk.back hs.yd (cn.legal hs) w⟩

theorem ends_dk {s : St} (hs : Ok s) {n : List Nat} {k : Nat} :
    Dk (nexts s) (fun n => n ∈ (reach s).filter (done s)) k n ↔ (Can s n ∧ Need s k n) := by
  unfold Dk Need
  constructor
  · rintro ⟨h1, h2⟩
    obtain ⟨cn, r⟩ := (ends_rk hs).mp h1
    exact ⟨cn, r, fun j hj e => h2 j hj ((ends_rk hs).mpr ⟨cn, e⟩)⟩
  · rintro ⟨cn, r, h2⟩
    exact ⟨(ends_rk hs).mpr ⟨cn, r⟩, fun j hj e => h2 j hj ((ends_rk hs).mp e).2⟩

/-- **the distance** of what can come about -/
theorem dist_some {s : St} (hs : Ok s) {n : List Nat} (cn : Can s n) {k : Nat} : distance (ends s) n = some k ↔ Need s k n := by
  rw [(from_ends hs).distance, ends_dk hs]
  exact ⟨fun h => h.2, fun h => ⟨cn, h⟩⟩

theorem dist_none {s : St} (hs : Ok s) {n : List Nat} (cn : Can s n) : distance (ends s) n = none ↔ ∀ g, Can s g → done s g = false := by
  rw [(from_ends hs).distance_none]
  constructor
  · intro h g cg
    cases e : done s g with
    | false => rfl
    | true =>
      obtain ⟨i, wi⟩ := cn
      obtain ⟨j, wj⟩ := cg
      have wb := Wk.back hs.yd hs.legal wi
      exact (h (i + j) ((ends_rk hs).mpr ⟨⟨i, wi⟩, g, e, Wk.trans wb wj⟩)).elim
  · intro h k r
    obtain ⟨_, g, hg, w⟩ := (ends_rk hs).mp r
    rw [h g (cn.walk w)] at hg
    cases hg

/-- from whatever can come about, one wanted can be come to, if any can -/
theorem need_all {s : St} (hs : Ok s) {g : List Nat} (cg : Can s g) (hg : done s g = true) {n : List Nat} (cn : Can s n) : ∃ k, Need s k n := by
  obtain ⟨i, wi⟩ := cn
  obtain ⟨j, wj⟩ := cg
  have wb := Wk.back hs.yd hs.legal wi
  obtain ⟨k, _, h⟩ := Need.least hg (Wk.trans wb wj)
  exact ⟨k, h⟩

/-- the farthest -/
theorem hardest_none {s : St} (hs : Ok s) : (ends s).getLast? = none ↔ ∀ g, Can s g → done s g = false := by
  rw [List.getLast?_eq_none_iff]
  constructor
  · intro e
    apply (dist_none hs Can.self).mp
    rw [e]; rfl
  · intro h
    have := (dist_none hs Can.self).mpr h
    cases e : ends s with
    | nil => rfl
    | cons a L =>
      exfalso
      obtain ⟨n, hd⟩ := (from_ends hs).length_lt.mp (show 0 < (ends s).length by rw [e]; exact Nat.succ_pos _)
      obtain ⟨cn, ⟨g, hg, w⟩, _⟩ := (ends_dk hs).mp hd
      rw [h g (cn.walk w)] at hg
      cases hg

theorem hardest_some {s : St} (hs : Ok s) {l : List (List Nat)} (h : (ends s).getLast? = some l) :
    (∀ n, n ∈ l ↔ (Can s n ∧ Need s ((ends s).length - 1) n)) ∧ l.Nodup ∧ l ≠ [] ∧
    ∀ n, Can s n → ∃ k, k ≤ (ends s).length - 1 ∧ Need s k n := by
  have hne : ends s ≠ [] := fun e => by rw [e] at h; cases h
  have hpos : 0 < (ends s).length := List.length_pos_iff.mpr hne
  have hl : (ends s)[(ends s).length - 1]? = some l := by rw [← List.getLast?_eq_getElem?]; exact h
  have hmem := List.mem_of_getElem? hl
  refine ⟨fun n => ?_, (from_ends hs).nodup l hmem, (from_ends hs).full l hmem, fun n cn => ?_⟩
  · have := (from_ends hs).mem ((ends s).length - 1) n
    rw [List.getD_eq_getElem?_getD, hl, Nat.zero_add, ends_dk hs] at this
    exact this
  · obtain ⟨p, hd⟩ := (from_ends hs).length_lt.mp hpos
    obtain ⟨cp, ⟨g, hg, w⟩, _⟩ := (ends_dk hs).mp hd
    obtain ⟨k, hk⟩ := need_all hs (cp.walk w) hg cn
    refine ⟨k, ?_, hk⟩
    have := (from_ends hs).length_lt.mpr ⟨n, (ends_dk hs).mpr ⟨cn, hk⟩⟩
    omega

/-! needs and moves -/
theorem Need.zero {s n} : Need s 0 n ↔ done s n = true := by
  constructor
  · rintro ⟨⟨g, hg, w⟩, _⟩
    have : g = n := w
    rw [← this]; exact hg
  · intro h
    exact ⟨⟨n, h, rfl⟩, fun j hj => by omega⟩

theorem Wk.split {s : St} : ∀ {k a c}, Wk s (k + 1) a c → ∃ b, b ∈ nexts s a ∧ Wk s k b c
  | 0, a, c, ⟨p, hp, hc⟩ => by
    have : p = a := hp
    subst this
    exact ⟨c, hc, rfl⟩
  | k + 1, a, c, ⟨p, hp, hc⟩ => by
    obtain ⟨b, hb, w⟩ := Wk.split hp
    exact ⟨b, hb, p, w, hc⟩

theorem Need.succ {s k n} (h : Need s (k + 1) n) : ∃ u, u ∈ nexts s n ∧ Need s k u := by
  obtain ⟨⟨g, hg, w⟩, hm⟩ := h
  obtain ⟨u, hu, wu⟩ := Wk.split w
  exact ⟨u, hu, ⟨g, hg, wu⟩, fun j hj ⟨g', hg', w'⟩ => hm (j + 1) (by omega) ⟨g', hg', Wk.front hu w'⟩⟩

/-- a neighbour needs one move fewer at the least -/
theorem Need.near {s k j n u} (h : Need s k n) (hu : u ∈ nexts s n) (g : Need s j u) : k ≤ j + 1 := by
  obtain ⟨⟨e, he, w⟩, _⟩ := g
  rcases Nat.lt_or_ge (j + 1) k with q | q
  · exact (h.2 (j + 1) q ⟨e, he, Wk.front hu w⟩).elim
  · exact q

theorem plan_zero (s : St) (l : List (List (List Nat))) (n : List Nat) : Sy66.plan s l 0 n = [] := rfl

/-- **the plan's first move**: the first of all that come nearer -/
theorem plan_succ {s : St} (hs : Ok s) {k : Nat} {n : List Nat} (cn : Can s n) (h : Need s (k + 1) n) :
    ∃ x, (moves n).find? (fun (x : Nat × Nat) => (moved s n x.1 x.2).any fun (u : List Nat) => distance (ends s) u == some k) = some x ∧
      ∃ u, moved s n x.1 x.2 = some u ∧ u ∈ nexts s n ∧ Need s k u ∧ Sy66.plan s (ends s) (k + 1) n = x :: Sy66.plan s (ends s) k u := by
  cases e : (moves n).find? (fun (x : Nat × Nat) => (moved s n x.1 x.2).any fun (u : List Nat) => distance (ends s) u == some k) with
  | none =>
    exfalso
    obtain ⟨u, hu, nu⟩ := h.succ
    obtain ⟨kk, o, w, eu⟩ := (mem_nexts hs.yd).mp hu
    have hm := (moved_iff (carOf_long hs.yd kk)).mpr ⟨w, eu⟩
    have hx : (kk, o) ∈ moves n := by
      unfold moves
      rw [List.mem_flatMap]
      refine ⟨kk, List.mem_range.mpr w.1, ?_⟩
      rw [List.mem_map]
      exact ⟨o, List.mem_range.mpr (place_lt hs.yd w.2.2.1), rfl⟩
    have := List.find?_eq_none.mp e (kk, o) hx
    apply this
    show (moved s n kk o).any _ = true
    rw [hm]
    show (distance (ends s) u == some k) = true
    rw [(dist_some hs (cn.next hu)).mpr nu]
    simp
  | some x =>
    refine ⟨x, rfl, ?_⟩
    have hp := List.find?_some e
    cases em : moved s n x.1 x.2 with
    | none => rw [em] at hp; cases hp
    | some u =>
      rw [em] at hp
      have hp' : (distance (ends s) u == some k) = true := hp
      have hd : distance (ends s) u = some k := by simpa using hp'
      have hw := (moved_iff (carOf_long hs.yd x.1)).mp em
      have hu : u ∈ nexts s n := (mem_nexts hs.yd).mpr ⟨x.1, x.2, hw.1, hw.2⟩
      refine ⟨u, rfl, hu, (dist_some hs (cn.next hu)).mp hd, ?_⟩
      show (match (moves n).find? (fun (x : Nat × Nat) => (moved s n x.1 x.2).any fun (u : List Nat) => distance (ends s) u == some k) with
        | none => []
        | some x => x :: Sy66.plan s (ends s) k ((moved s n x.1 x.2).getD n)) = _
      rw [e]
      show x :: Sy66.plan s (ends s) k ((moved s n x.1 x.2).getD n) = _
      rw [em]
      rfl

/-! the first of some -/
theorem before_irrefl : ∀ l, before l l = false
  | [] => rfl
  | a :: l => by
    show (decide (a < a) || (a == a && before l l)) = false
    rw [before_irrefl l]; simp

theorem before_cons {a b l r} : before (a :: l) (b :: r) = true ↔ (a < b ∨ (a = b ∧ before l r = true)) := by
  show (decide (a < b) || (a == b && before l r)) = true ↔ _
  simp

theorem before_trans : ∀ {a b c : List Nat}, before a b = true → before b c = true → before a c = true
  | x :: a, y :: b, z :: c, h, g => by
    rw [before_cons] at h g ⊢
    rcases h with h | ⟨rfl, h⟩ <;> rcases g with g | ⟨rfl, g⟩
    · exact .inl (by omega)
    · exact .inl h
    · exact .inl g
    · exact .inr ⟨rfl, before_trans h g⟩
  | [], _, _, h, _ => by cases h
  | _ :: _, [], _, h, _ => by cases h
  | _ :: _, _ :: _, [], _, g => by cases g

theorem before_total : ∀ {a b : List Nat}, a.length = b.length → a = b ∨ before a b = true ∨ before b a = true
  | [], [], _ => .inl rfl
  | [], _ :: _, h => by cases h
  | _ :: _, [], h => by cases h
  | x :: a, y :: b, h => by
    rw [before_cons, before_cons]
    rcases Nat.lt_trichotomy x y with q | rfl | q
    · exact .inr (.inl (.inl q))
    · rcases before_total (a := a) (b := b) (by simpa using h) with e | e | e
      · exact .inl (by rw [e])
      · exact .inr (.inl (.inr ⟨rfl, e⟩))
      · exact .inr (.inr (.inr ⟨rfl, e⟩))
    · exact .inr (.inr (.inl q))

theorem first_go : ∀ (l : List (List Nat)) (a : List Nat) (m : Nat), a.length = m → (∀ x ∈ l, x.length = m) →
    let r := l.foldl (fun (m x : List Nat) => if before x m = true then x else m) a
    (r = a ∨ r ∈ l) ∧ (r = a ∨ before r a = true) ∧ ∀ x ∈ l, x = r ∨ before r x = true
  | [], a, m, _, _ => ⟨.inl rfl, .inl rfl, fun x hx => by cases hx⟩
  | y :: l, a, m, ha, hl => by
    have hy := hl y (List.mem_cons_self ..)
    have hl' : ∀ x ∈ l, x.length = m := fun x hx => hl x (List.mem_cons_of_mem _ hx)
    rw [List.foldl_cons]
    by_cases c : before y a = true
    · rw [if_pos c]
      obtain ⟨h1, h2, h3⟩ := first_go l y m hy hl'
      refine ⟨.inr ?_, .inr ?_, fun x hx => ?_⟩
      · rcases h1 with h | h
        · rw [h]; exact List.mem_cons_self ..
        · exact List.mem_cons_of_mem _ h
      · rcases h2 with h | h
        · rw [h]; exact c
        · exact before_trans h c
      · rcases List.mem_cons.mp hx with rfl | hx
        · rcases h2 with h | h
          · exact .inl h.symm
          · exact .inr h
        · exact h3 x hx
    · rw [if_neg c]
      obtain ⟨h1, h2, h3⟩ := first_go l a m ha hl'
      refine ⟨?_, h2, fun x hx => ?_⟩
      · rcases h1 with h | h
        · exact .inl h
        · exact .inr (List.mem_cons_of_mem _ h)
      · rcases List.mem_cons.mp hx with rfl | hx
        · rcases before_total (ha.trans hy.symm) with e | e | e
          · rcases h2 with h | h
            · exact .inl (by rw [h]; exact e.symm)
            · exact .inr (by rw [← e]; exact h)
          · rcases h2 with h | h
            · exact .inr (by rw [h]; exact e)
            · exact .inr (before_trans h e)
          · exact (c e).elim
        · exact h3 x hx

/-- **the first of some of one length**: one of them, ahead of all others -/
theorem first_spec {l : List (List Nat)} {m : Nat} (hne : l ≠ []) (hl : ∀ x ∈ l, x.length = m) :
    first l ∈ l ∧ ∀ x ∈ l, x = first l ∨ before (first l) x = true := by
  cases l with
  | nil => exact (hne rfl).elim
  | cons a l =>
    have := first_go l a m (hl a (List.mem_cons_self ..)) (fun x hx => hl x (List.mem_cons_of_mem _ hx))
    obtain ⟨h1, h2, h3⟩ := this
    refine ⟨?_, fun x hx => ?_⟩
    · rcases h1 with h | h
      · show List.foldl _ a l ∈ a :: l
        rw [h]; exact List.mem_cons_self ..
      · exact List.mem_cons_of_mem _ h
    · rcases List.mem_cons.mp hx with rfl | hx
      · rcases h2 with h | h
        · exact .inl h.symm
        · exact .inr h
      · exact h3 x hx

theorem first_unique {l : List (List Nat)} {m : Nat} (hne : l ≠ []) (hl : ∀ x ∈ l, x.length = m) {r : List Nat} (hr : r ∈ l)
    (h : ∀ x ∈ l, x = r ∨ before r x = true) : first l = r := by
  obtain ⟨f1, f2⟩ := first_spec hne hl
  rcases h _ f1 with e | e
  · exact e
  · rcases f2 r hr with e2 | e2
    · exact e2.symm
    · have := before_trans e e2
      rw [before_irrefl] at this
      cases this

/-! places -/
theorem mem_insert {n x : Nat} : ∀ {l : List Nat}, x ∈ insert n l ↔ (x = n ∨ x ∈ l)
  | [] => by show x ∈ [n] ↔ _; simp
  | m :: l => by
    show x ∈ (if n < m then n :: m :: l else if n = m then m :: l else m :: insert n l) ↔ _
    by_cases h : n < m
    · rw [if_pos h]; simp
    · rw [if_neg h]
      by_cases e : n = m
      · rw [if_pos e]; subst e; simp
      · rw [if_neg e, List.mem_cons, mem_insert (l := l), List.mem_cons]
        constructor
        · rintro (h | h | h)
          · exact .inr (.inl h)
          · exact .inl h
          · exact .inr (.inr h)
        · rintro (h | h | h)
          · exact .inr (.inl h)
          · exact .inl h
          · exact .inr (.inr h)

theorem insert_sorted {n : Nat} : ∀ {l : List Nat}, l.Pairwise (· < ·) → (insert n l).Pairwise (· < ·)
  | [], _ => by show [n].Pairwise _; simp
  | m :: l, h => by
    show (if n < m then n :: m :: l else if n = m then m :: l else m :: insert n l).Pairwise _
    have h' := List.pairwise_cons.mp h
    by_cases c : n < m
    · rw [if_pos c]
      refine List.pairwise_cons.mpr ⟨fun x hx => ?_, h⟩
      rcases List.mem_cons.mp hx with rfl | hx
      · exact c
      · have := h'.1 x hx; omega
    · rw [if_neg c]
      by_cases e : n = m
      · rw [if_pos e]; exact h
      · rw [if_neg e]
        refine List.pairwise_cons.mpr ⟨fun x hx => ?_, insert_sorted h'.2⟩
        rcases mem_insert.mp hx with rfl | hx
        · omega
        · exact h'.1 x hx

theorem inserts_spec : ∀ (l a : List Nat), a.Pairwise (· < ·) →
    (l.foldl (fun (m : List Nat) (r : Nat) => insert r m) a).Pairwise (· < ·) ∧
    ∀ x, x ∈ l.foldl (fun (m : List Nat) (r : Nat) => insert r m) a ↔ (x ∈ l ∨ x ∈ a)
  | [], a, h => ⟨h, fun x => by simp⟩
  | b :: l, a, h => by
    obtain ⟨h1, h2⟩ := inserts_spec l (insert b a) (insert_sorted h)
    refine ⟨h1, fun x => ?_⟩
    have := h2 x
    rw [mem_insert] at this
    show x ∈ List.foldl _ (insert b a) l ↔ _
    rw [this, List.mem_cons]
    constructor
    · rintro (h | h | h)
      · exact .inl (.inr h)
      · exact .inl (.inl h)
      · exact .inr h
    · rintro ((h | h) | h)
      · exact .inr (.inl h)
      · exact .inl h
      · exact .inr (.inr h)

theorem sorted_unique : ∀ {l r : List Nat}, l.Pairwise (· < ·) → r.Pairwise (· < ·) → (∀ x, x ∈ l ↔ x ∈ r) → l = r
  | [], [], _, _, _ => rfl
  | [], b :: r, _, _, h => by have := (h b).mpr (List.mem_cons_self ..); cases this
  | a :: l, [], _, _, h => by have := (h a).mp (List.mem_cons_self ..); cases this
  | a :: l, b :: r, hl, hr, h => by
    have hl' := List.pairwise_cons.mp hl
    have hr' := List.pairwise_cons.mp hr
    have e : a = b := by
      rcases List.mem_cons.mp ((h a).mp (List.mem_cons_self ..)) with e | e
      · exact e
      · rcases List.mem_cons.mp ((h b).mpr (List.mem_cons_self ..)) with e2 | e2
        · exact e2.symm
        · have := hr'.1 a e; have := hl'.1 b e2; omega
    subst e
    congr 1
    refine sorted_unique hl'.2 hr'.2 fun x => ?_
    constructor
    · intro hx
      rcases List.mem_cons.mp ((h x).mp (List.mem_cons_of_mem _ hx)) with e | e
      · subst e; have := hl'.1 x hx; omega
      · exact e
    · intro hx
      rcases List.mem_cons.mp ((h x).mpr (List.mem_cons_of_mem _ hx)) with e | e
      · subst e; have := hr'.1 x hx; omega
      · exact e

/-- **what places answers**: rising, and just the places of what can come about -/
theorem places_unique {s : St} (hs : Ok s) {k : Nat} {r : List Nat} (hr : r.Pairwise (· < ·)) (h : ∀ x, x ∈ r ↔ ∃ n, Can s n ∧ n.getD k 0 = x) :
    ((reach s).map fun (n : List Nat) => n.getD k 0).foldl (fun (m : List Nat) (r : Nat) => insert r m) [] = r := by
  obtain ⟨h1, h2⟩ := inserts_spec ((reach s).map fun (n : List Nat) => n.getD k 0) [] List.Pairwise.nil
  refine sorted_unique h1 hr fun x => ?_
  rw [h2, h, List.mem_map]
  constructor
  · rintro (⟨n, hn, e⟩ | hx)
    · exact ⟨n, (mem_reach hs).mp hn, e⟩
    · cases hx
  · rintro ⟨n, hn, e⟩
    exact .inl ⟨n, (mem_reach hs).mpr hn, e⟩

/-! all arrangements -/
theorem mem_every : ∀ {m : Nat} {l : List Nat}, l ∈ every m ↔ Un m l
  | 0, l => by
    show l ∈ [[]] ↔ _
    rw [List.mem_singleton]
    constructor
    · intro e; subst e; exact ⟨rfl, fun x hx => by cases hx⟩
    · intro h; exact List.length_eq_zero_iff.mp h.1
  | m + 1, l => by
    show l ∈ (List.range 5).flatMap (fun (r : Nat) => (every m).map fun (l : List Nat) => r :: l) ↔ _
    rw [List.mem_flatMap]
    constructor
    · rintro ⟨r, hr, h⟩
      obtain ⟨t, ht, e⟩ := List.mem_map.mp h
      subst e
      have := mem_every.mp ht
      refine ⟨by rw [List.length_cons, this.1], fun x hx => ?_⟩
      rcases List.mem_cons.mp hx with rfl | hx
      · exact List.mem_range.mp hr
      · exact this.2 x hx
    · intro h
      cases l with
      | nil => cases h.1
      | cons a t =>
        refine ⟨a, List.mem_range.mpr (h.2 a (List.mem_cons_self ..)), List.mem_map.mpr ⟨t, mem_every.mpr ⟨?_, fun x hx => h.2 x (List.mem_cons_of_mem _ hx)⟩, rfl⟩⟩
        have := h.1
        rw [List.length_cons] at this
        omega

theorem nodup_map {A B : Type} {f : A → B} (hf : ∀ a b, f a = f b → a = b) : ∀ {l : List A}, l.Nodup → (l.map f).Nodup
  | [], _ => List.nodup_nil
  | a :: l, h => by
    rw [List.nodup_cons] at h
    rw [List.map_cons, List.nodup_cons]
    refine ⟨fun hm => ?_, nodup_map hf h.2⟩
    obtain ⟨b, hb, e⟩ := List.mem_map.mp hm
    exact h.1 (hf _ _ e ▸ hb)

theorem nodup_flat {A B : Type} {f : A → List B} : ∀ {l : List A}, l.Nodup → (∀ a ∈ l, (f a).Nodup) →
    (∀ a ∈ l, ∀ b ∈ l, ∀ x, x ∈ f a → x ∈ f b → a = b) → (l.flatMap f).Nodup
  | [], _, _, _ => List.nodup_nil
  | a :: l, h, h1, h2 => by
    rw [List.nodup_cons] at h
    show (f a ++ l.flatMap f).Nodup
    rw [List.nodup_append]
    refine ⟨h1 a (List.mem_cons_self ..), nodup_flat h.2 (fun b hb => h1 b (List.mem_cons_of_mem _ hb)) (fun b hb c hc => h2 b (List.mem_cons_of_mem _ hb) c (List.mem_cons_of_mem _ hc)), ?_⟩
    intro p hp q hq e
    subst e
    obtain ⟨b, hb, hx⟩ := List.mem_flatMap.mp hq
    exact h.1 (h2 a (List.mem_cons_self ..) b (List.mem_cons_of_mem _ hb) p hp hx ▸ hb)

theorem every_nodup : ∀ m, (every m).Nodup
  | 0 => by show [[]].Nodup; simp
  | m + 1 => by
    show ((List.range 5).flatMap (fun (r : Nat) => (every m).map fun (l : List Nat) => r :: l)).Nodup
    refine nodup_flat List.nodup_range (fun a _ => nodup_map (fun x y e => (List.cons.inj e).2) (every_nodup m)) ?_
    intro a _ b _ x hx hy
    obtain ⟨t, _, e⟩ := List.mem_map.mp hx
    obtain ⟨u, _, e2⟩ := List.mem_map.mp hy
    exact (List.cons.inj (e.trans e2.symm)).1

theorem mem_arrangements {s : St} (hs : Yd s) {l : List Nat} : l ∈ arrangements s ↔ (l.length = s.at_.length ∧ legal s l = true) := by
  unfold arrangements
  rw [List.mem_filter, mem_every]
  constructor
  · rintro ⟨h, g⟩; exact ⟨h.1, g⟩
  · rintro ⟨h, g⟩
    have := legal_un hs g
    rw [h] at this
    exact ⟨this, g⟩

theorem arrangements_nodup (s : St) : (arrangements s).Nodup := (every_nodup _).filter _

/-- two lists without a list twice and with the same members are of one length -/
theorem length_eq {A : Type} [DecidableEq A] {l r : List A} (hl : l.Nodup) (hr : r.Nodup) (h : ∀ x, x ∈ l ↔ x ∈ r) : l.length = r.length :=
  ((List.perm_ext_iff_of_nodup hl hr).mpr h).length_eq
end Cy

/-! The specification's states and calls, and how the one list of numbers is read. -/
namespace Cy
open Sy66

theorem ok_new {r c : Nat} (hr : 1 ≤ r ∧ r ≤ 5) (hc : 1 ≤ c ∧ c ≤ 5) : Ok { init with rows := r, cols := c } := by
  refine ⟨⟨hr, hc, Nat.zero_le _, ?_, ?_, ?_⟩, rfl, rfl, List.nodup_nil, ?_⟩
  · intro c hc; cases hc
  · intro c hc; cases hc
  · intro c hc; cases hc
  · intro c hc; cases hc

theorem ok_init : Ok init := ok_new (r := 1) (c := 1) (by decide) (by decide)

/-- the yard with a car more -/
def addCar (s : St) (x : Car) (o : Nat) : St := { s with cars := s.cars ++ [x], at_ := s.at_ ++ [o] }

theorem carOf_add {s : St} {x : Car} {o k : Nat} (h : k < s.cars.length) : carOf (addCar s x o) k = carOf s k := by
  show (s.cars ++ [x]).getD k _ = s.cars.getD k _
  rw [List.getD_eq_getElem?_getD, List.getD_eq_getElem?_getD, List.getElem?_append_left h]

theorem carOf_last {s : St} {x : Car} {o : Nat} : carOf (addCar s x o) s.cars.length = x := by
  show (s.cars ++ [x]).getD _ _ = _
  rw [List.getD_eq_getElem?_getD, List.getElem?_append_right (Nat.le_refl _)]
  simp

/-- what a car is asked -/
def CarFits (s : St) (u k o n : Nat) : Prop := u ≤ 1 ∧ 2 ≤ n ∧ n ≤ 5 ∧ k < (if u = 1 then s.cols else s.rows) ∧ o + n ≤ lineLong s ⟨u == 1, k, n⟩

theorem ok_add {s : St} (hs : Ok s) {u k o n : Nat} (hf : CarFits s u k o n) (h5 : s.cars.length < 5)
    (hl : legal (addCar s ⟨u == 1, k, n⟩ o) (s.at_ ++ [o]) = true) : Ok (addCar s ⟨u == 1, k, n⟩ o) := by
  obtain ⟨f1, f2, f3, f4, f5⟩ := hf
  have hline : ∀ c, lineLong (addCar s ⟨u == 1, k, n⟩ o) c = lineLong s c := fun c => rfl
  refine ⟨⟨hs.yd.rows, hs.yd.cols, ?_, ?_, ?_, ?_⟩, ?_, hl, hs.keys, ?_⟩
  · show (s.cars ++ [_]).length ≤ 5
    rw [List.length_append]; exact h5
  · intro c hc
    rcases List.mem_append.mp hc with hc | hc
    · exact hs.yd.long c hc
    · rw [List.mem_singleton.mp hc]; exact ⟨f2, f3⟩
  · intro c hc
    rcases List.mem_append.mp hc with hc | hc
    · exact hs.yd.line c hc
    · rw [List.mem_singleton.mp hc]
      show k < (if (u == 1) = true then s.cols else s.rows)
      simpa using f4
  · intro c hc
    rcases List.mem_append.mp hc with hc | hc
    · exact hs.yd.fits c hc
    · rw [List.mem_singleton.mp hc]
      show n ≤ lineLong s _
      omega
  · show (s.at_ ++ [o]).length = (s.cars ++ [_]).length
    rw [List.length_append, List.length_append, hs.len]; rfl
  · intro x hx
    have hw := hs.want x hx
    refine ⟨?_, ?_⟩
    · show x.1 < (s.cars ++ [_]).length
      rw [List.length_append]; omega
    · rw [carOf_add hw.1]; exact hw.2

/-- the cars' state but for the arrangement -/
theorem ok_at {s : St} (hs : Ok s) {l : List Nat} {m : Nat} (hl : legal s l = true) (hlen : l.length = s.cars.length) : Ok { s with at_ := l, made := m } :=
  ⟨⟨hs.yd.rows, hs.yd.cols, hs.yd.cars, hs.yd.long, hs.yd.line, hs.yd.fits⟩, hlen, hl, hs.keys, hs.want⟩

theorem ok_wants {s : St} (hs : Ok s) {w : List (Nat × Nat)} (h1 : (w.map (·.1)).Nodup)
    (h2 : ∀ x ∈ w, x.1 < s.cars.length ∧ x.2 + (carOf s x.1).long ≤ lineLong s (carOf s x.1)) : Ok { s with wants := w } :=
  ⟨⟨hs.yd.rows, hs.yd.cols, hs.yd.cars, hs.yd.long, hs.yd.line, hs.yd.fits⟩, hs.len, hs.legal, h1, h2⟩

theorem keys_filter {w : List (Nat × Nat)} (h : (w.map (·.1)).Nodup) (p : Nat × Nat → Bool) : ((w.filter p).map (·.1)).Nodup :=
  h.sublist ((List.filter_sublist).map _)

theorem keys_put {w : List (Nat × Nat)} (h : (w.map (·.1)).Nodup) (k o : Nat) : ((w.filter (fun (x : Nat × Nat) => x.1 != k) ++ [(k, o)]).map (·.1)).Nodup := by
  rw [List.map_append, List.nodup_append]
  refine ⟨keys_filter h _, by simp, ?_⟩
  intro a ha b hb e
  have hb' : b = k := by simpa using hb
  obtain ⟨x, hx, ex⟩ := List.mem_map.mp ha
  have := (List.mem_filter.mp hx).2
  rw [ex, e, hb'] at this
  simp at this

theorem moved_ok {s : St} (hs : Ok s) {k o : Nat} {l : List Nat} (h : moved s s.at_ k o = some l) : legal s l = true ∧ l.length = s.cars.length := by
  obtain ⟨w, e⟩ := (moved_iff (carOf_long hs.yd k)).mp h
  subst e
  exact ⟨w.legal hs.legal, by rw [List.length_set]; exact hs.len⟩

theorem ok_want {s : St} (hs : Ok s) {k o : Nat} (h1 : k < s.cars.length) (h2 : o + (carOf s k).long ≤ lineLong s (carOf s k)) :
    Ok { s with wants := s.wants.filter (fun (x : Nat × Nat) => x.1 != k) ++ [(k, o)] } := by
  refine ok_wants hs (keys_put hs.keys k o) ?_
  intro x hx
  rcases List.mem_append.mp hx with hx | hx
  · exact hs.want x (List.mem_filter.mp hx).1
  · rw [List.mem_singleton.mp hx]; exact ⟨h1, h2⟩

theorem ok_free {s : St} (hs : Ok s) (k : Nat) : Ok { s with wants := s.wants.filter (fun (x : Nat × Nat) => x.1 != k) } :=
  ok_wants hs (keys_filter hs.keys _) (fun x hx => hs.want x (List.mem_filter.mp hx).1)

/-- **every call keeps it** -/
theorem ok_step {s : St} (hs : Ok s) (c : Sy66.Call) : Ok (Sy66.step s c).1 := by
  cases c with
  | begins r c =>
    show Ok (if r < 1 ∨ 5 < r ∨ c < 1 ∨ 5 < c then (s, ok (-1)) else ({ init with rows := r, cols := c }, ok (r * c : Nat))).1
    split
    · exact hs
    · exact ok_new (by omega) (by omega)
  | car u k o n =>
    show Ok (if 1 < u ∨ n < 2 ∨ 5 < n ∨ (if u = 1 then s.cols else s.rows) ≤ k ∨ lineLong s ⟨u == 1, k, n⟩ < o + n then (s, ok (-1)) else if 5 ≤ s.cars.length then (s, ok (-5)) else
      if legal (addCar s ⟨u == 1, k, n⟩ o) (s.at_ ++ [o]) = false then (s, ok (-6)) else (addCar s ⟨u == 1, k, n⟩ o, ok (s.cars.length : Nat))).1
    by_cases h1 : 1 < u ∨ n < 2 ∨ 5 < n ∨ (if u = 1 then s.cols else s.rows) ≤ k ∨ lineLong s ⟨u == 1, k, n⟩ < o + n
    · rw [if_pos h1]; exact hs
    · rw [if_neg h1]
      by_cases h2 : 5 ≤ s.cars.length
      · rw [if_pos h2]; exact hs
      · rw [if_neg h2]
        by_cases h3 : legal (addCar s ⟨u == 1, k, n⟩ o) (s.at_ ++ [o]) = false
        · rw [if_pos h3]; exact hs
        · rw [if_neg h3]
          refine ok_add hs ⟨by omega, by omega, by omega, ?_, by omega⟩ (by omega) (by simpa using h3)
          omega
  | move k o =>
    show Ok (if s.cars.length ≤ k then (s, ok (-2)) else (match moved s s.at_ k o with
      | none => (s, ok (-6))
      | some l => ({ s with at_ := l, made := s.made + 1 }, ⟨((s.made + 1 : Nat) : Int), [Sy66.ints l]⟩))).1
    split
    · exact hs
    · cases e : moved s s.at_ k o with
      | none => exact hs
      | some l =>
        have := moved_ok hs e
        exact ok_at hs this.1 this.2
  | want k o =>
    show Ok (if s.cars.length ≤ k then (s, ok (-2)) else if lineLong s (carOf s k) < o + (carOf s k).long then (s, ok (-1)) else
      ({ s with wants := s.wants.filter (fun (x : Nat × Nat) => x.1 != k) ++ [(k, o)] }, ok ((s.wants.filter (fun (x : Nat × Nat) => x.1 != k) ++ [(k, o)]).length : Nat))).1
    split
    · exact hs
    · split
      · exact hs
      · rename_i h1 h2
        exact ok_want hs (by omega) (by omega)
  | free k =>
    show Ok (if s.cars.length ≤ k then (s, ok (-2)) else
      ({ s with wants := s.wants.filter (fun (x : Nat × Nat) => x.1 != k) }, ok ((s.wants.filter (fun (x : Nat × Nat) => x.1 != k)).length : Nat))).1
    split
    · exact hs
    · exact ok_free hs k
  | fewest => exact hs
  | plan => exact hs
  | reach => exact hs
  | places k => exact hs
  | hardest => exact hs
  | state => exact hs

/-! The list of numbers, call by call -/
/-- a number that may be handed over -/
def Num (z : Int) : Prop := 0 ≤ z ∧ z ≤ 4294967295

theorem natIn_num {z : Int} (h : Num z) (l : List Int) : Sy66Neutral.natIn (z :: l) = some (z.toNat, l) := by
  show (if 0 ≤ z ∧ z < 2 ^ 32 then some (z.toNat, l) else none) = _
  rw [if_pos ⟨h.1, by have := h.2; have e : (2 : Int) ^ 32 = 4294967296 := by decide
                      omega⟩]

/-- what one call does, told by the call's own numbers -/
def stepN (s : St) (c : List Int) : St × List Int := Sy66Neutral.step s c

theorem callOf0 {a b : Int} (ha : Num a) (hb : Num b) : Sy66Neutral.callOf [0, a, b] = some (.begins a.toNat b.toNat) := by
  show (Sy66Neutral.all_ (Sy66Neutral.some_ 2 [a, b])).map _ = _
  simp [Sy66Neutral.some_, Sy66Neutral.many_, natIn_num ha, natIn_num hb, Sy66Neutral.all_, Sy66Neutral.g]
theorem callOf1 {a b c d : Int} (ha : Num a) (hb : Num b) (hc : Num c) (hd : Num d) : Sy66Neutral.callOf [1, a, b, c, d] = some (.car a.toNat b.toNat c.toNat d.toNat) := by
  show (Sy66Neutral.all_ (Sy66Neutral.some_ 4 [a, b, c, d])).map _ = _
  simp [Sy66Neutral.some_, Sy66Neutral.many_, natIn_num ha, natIn_num hb, natIn_num hc, natIn_num hd, Sy66Neutral.all_, Sy66Neutral.g]
theorem callOf2 {a b : Int} (ha : Num a) (hb : Num b) : Sy66Neutral.callOf [2, a, b] = some (.move a.toNat b.toNat) := by
  show (Sy66Neutral.all_ (Sy66Neutral.some_ 2 [a, b])).map _ = _
  simp [Sy66Neutral.some_, Sy66Neutral.many_, natIn_num ha, natIn_num hb, Sy66Neutral.all_, Sy66Neutral.g]
theorem callOf3 {a b : Int} (ha : Num a) (hb : Num b) : Sy66Neutral.callOf [3, a, b] = some (.want a.toNat b.toNat) := by
  show (Sy66Neutral.all_ (Sy66Neutral.some_ 2 [a, b])).map _ = _
  simp [Sy66Neutral.some_, Sy66Neutral.many_, natIn_num ha, natIn_num hb, Sy66Neutral.all_, Sy66Neutral.g]
theorem callOf4 {a : Int} (ha : Num a) : Sy66Neutral.callOf [4, a] = some (.free a.toNat) := by
  show (Sy66Neutral.all_ (Sy66Neutral.some_ 1 [a])).map _ = _
  simp [Sy66Neutral.some_, Sy66Neutral.many_, natIn_num ha, Sy66Neutral.all_, Sy66Neutral.g]
theorem callOf5 : Sy66Neutral.callOf [5] = some .fewest := rfl
theorem callOf6 : Sy66Neutral.callOf [6] = some .plan := rfl
theorem callOf7 : Sy66Neutral.callOf [7] = some .reach := rfl
theorem callOf8 {a : Int} (ha : Num a) : Sy66Neutral.callOf [8, a] = some (.places a.toNat) := by
  show (Sy66Neutral.all_ (Sy66Neutral.some_ 1 [a])).map _ = _
  simp [Sy66Neutral.some_, Sy66Neutral.many_, natIn_num ha, Sy66Neutral.all_, Sy66Neutral.g]
theorem callOf9 : Sy66Neutral.callOf [9] = some .hardest := rfl
theorem callOf10 : Sy66Neutral.callOf [10] = some .state := rfl

/-- a call in form: its number, and so many numbers behind it -/
inductive Form : List Int → Prop
  | c0 {a b} : Num a → Num b → Form [0, a, b]
  | c1 {a b c d} : Num a → Num b → Num c → Num d → Form [1, a, b, c, d]
  | c2 {a b} : Num a → Num b → Form [2, a, b]
  | c3 {a b} : Num a → Num b → Form [3, a, b]
  | c4 {a} : Num a → Form [4, a]
  | c5 : Form [5]
  | c6 : Form [6]
  | c7 : Form [7]
  | c8 {a} : Num a → Form [8, a]
  | c9 : Form [9]
  | c10 : Form [10]

/-- how many numbers stand behind a call's own -/
def arity (p : Int) : Nat := if p = 1 then 4 else if p = 0 ∨ p = 2 ∨ p = 3 then 2 else if p = 4 ∨ p = 8 then 1 else 0

theorem shape_some {p : Int} {n k : Nat} (h : PySy66.shape p = some (n, k)) : k = 0 ∧ n = arity p ∧ 0 ≤ p ∧ p ≤ 10 := by
  unfold PySy66.shape at h
  unfold arity
  repeat' (split at h; · subst_vars; cases h; simp)
  cases h

theorem flat_call {p : Int} {r : List Int} {c : List (List Int)} {t : List Int} (h : PyFlat.call PySy66.shape (p :: r) = some (c, t)) :
    arity p ≤ r.length ∧ c = [p :: r.take (arity p)] ∧ t = r.drop (arity p) ∧ 0 ≤ p ∧ p ≤ 10 := by
  unfold PyFlat.call at h
  cases e : PySy66.shape p with
  | none => simp only [e] at h; cases h
  | some nk =>
    obtain ⟨n, k⟩ := nk
    obtain ⟨rfl, rfl, h0, h1⟩ := shape_some e
    simp only [e] at h
    split at h
    · cases h
    · rename_i hl
      simp only [PyFlat.rows] at h
      cases h
      exact ⟨by omega, rfl, rfl, h0, h1⟩

theorem flat_cons {f : Nat} {p : Int} {r : List Int} {cs : List (List (List Int))} (h : PyFlat.calls PySy66.shape f (p :: r) = some cs) :
    ∃ g ds, f = g + 1 ∧ arity p ≤ r.length ∧ 0 ≤ p ∧ p ≤ 10 ∧ cs = [p :: r.take (arity p)] :: ds ∧ PyFlat.calls PySy66.shape g (r.drop (arity p)) = some ds := by
  cases f with
  | zero => simp only [PyFlat.calls] at h; cases h
  | succ g =>
    simp only [PyFlat.calls] at h
    cases e : PyFlat.call PySy66.shape (p :: r) with
    | none => simp only [e] at h; cases h
    | some ct =>
      obtain ⟨c, t⟩ := ct
      simp only [e] at h
      obtain ⟨h1, rfl, rfl, h2, h3⟩ := flat_call e
      cases e2 : PyFlat.calls PySy66.shape g (r.drop (arity p)) with
      | none => simp only [e2] at h; cases h
      | some ds =>
        simp only [e2] at h
        cases h
        exact ⟨g, ds, rfl, h1, h2, h3, rfl, e2⟩

theorem int_cases {p : Int} (h0 : 0 ≤ p) (h1 : p ≤ 10) : p = 0 ∨ p = 1 ∨ p = 2 ∨ p = 3 ∨ p = 4 ∨ p = 5 ∨ p = 6 ∨ p = 7 ∨ p = 8 ∨ p = 9 ∨ p = 10 := by omega

theorem take1 {r : List Int} (h : 1 ≤ r.length) : ∃ a, r.take 1 = [a] := by
  cases r with
  | nil => cases h
  | cons a r => exact ⟨a, by simp⟩
theorem take2 {r : List Int} (h : 2 ≤ r.length) : ∃ a b, r.take 2 = [a, b] := by
  match r, h with
  | a :: b :: r, _ => exact ⟨a, b, by simp⟩
theorem take4 {r : List Int} (h : 4 ≤ r.length) : ∃ a b c d, r.take 4 = [a, b, c, d] := by
  match r, h with
  | a :: b :: c :: d :: r, _ => exact ⟨a, b, c, d, by simp⟩

theorem form_of {p : Int} {r : List Int} (h0 : 0 ≤ p) (h1 : p ≤ 10) (hl : arity p ≤ r.length) (hn : ∀ x ∈ r.take (arity p), Num x) : Form (p :: r.take (arity p)) := by
  rcases int_cases h0 h1 with rfl | rfl | rfl | rfl | rfl | rfl | rfl | rfl | rfl | rfl | rfl
  · obtain ⟨a, b, e⟩ := take2 (r := r) hl
    have e' : r.take (arity 0) = [a, b] := e
    rw [e'] at hn ⊢
    exact .c0 (hn a (by simp)) (hn b (by simp))
  · obtain ⟨a, b, c, d, e⟩ := take4 (r := r) hl
    have e' : r.take (arity 1) = [a, b, c, d] := e
    rw [e'] at hn ⊢
    exact .c1 (hn a (by simp)) (hn b (by simp)) (hn c (by simp)) (hn d (by simp))
  · obtain ⟨a, b, e⟩ := take2 (r := r) hl
    have e' : r.take (arity 2) = [a, b] := e
    rw [e'] at hn ⊢
    exact .c2 (hn a (by simp)) (hn b (by simp))
  · obtain ⟨a, b, e⟩ := take2 (r := r) hl
    have e' : r.take (arity 3) = [a, b] := e
    rw [e'] at hn ⊢
    exact .c3 (hn a (by simp)) (hn b (by simp))
  · obtain ⟨a, e⟩ := take1 (r := r) hl
    have e' : r.take (arity 4) = [a] := e
    rw [e'] at hn ⊢
    exact .c4 (hn a (by simp))
  · exact .c5
  · exact .c6
  · exact .c7
  · obtain ⟨a, e⟩ := take1 (r := r) hl
    have e' : r.take (arity 8) = [a] := e
    rw [e'] at hn ⊢
    exact .c8 (hn a (by simp))
  · exact .c9
  · exact .c10

theorem whole_form {c : List Int} (h : Form c) : PySy66.whole [c] = [c] := by cases h <;> rfl

theorem stepN_some {s : St} {c : List Int} {x : Sy66.Call} (h : Sy66Neutral.callOf c = some x) : stepN s c = ((Sy66.step s x).1, Sy66Neutral.out (Sy66.step s x).2) := by
  unfold stepN Sy66Neutral.step
  rw [h]

theorem form_call {c : List Int} (h : Form c) : ∃ x, Sy66Neutral.callOf c = some x := by
  cases h with
  | c0 a b => exact ⟨_, callOf0 a b⟩
  | c1 a b c d => exact ⟨_, callOf1 a b c d⟩
  | c2 a b => exact ⟨_, callOf2 a b⟩
  | c3 a b => exact ⟨_, callOf3 a b⟩
  | c4 a => exact ⟨_, callOf4 a⟩
  | c5 => exact ⟨_, callOf5⟩
  | c6 => exact ⟨_, callOf6⟩
  | c7 => exact ⟨_, callOf7⟩
  | c8 a => exact ⟨_, callOf8 a⟩
  | c9 => exact ⟨_, callOf9⟩
  | c10 => exact ⟨_, callOf10⟩

theorem ok_stepN {s : St} (hs : Ok s) {c : List Int} (h : Form c) : Ok (stepN s c).1 := by
  obtain ⟨x, e⟩ := form_call h
  rw [stepN_some e]
  exact ok_step hs x

/-- what is still to be answered: the rest is read as calls -/
def Rest (f : Nat) (r : List Int) (cs : List (List (List Int))) : Prop := PyFlat.calls PySy66.shape f r = some cs

/-- the answers of the rest, from a state -/
def due (s : St) (cs : List (List (List Int))) : List Int :=
  PyFlat.told (PyFlat.played (fun s c => Sy66Neutral.step s (c.headD [])) s (cs.map PySy66.whole))

theorem due_nil (s : St) : due s [] = [] := rfl
theorem due_cons {s : St} {c : List Int} (h : Form c) (cs : List (List (List Int))) :
    due s ([c] :: cs) = ((stepN s c).2.length : Int) :: (stepN s c).2 ++ due (stepN s c).1 cs := by
  unfold due
  rw [List.map_cons, whole_form h]
  rfl

/-- **the rest, opened**: a rest that is not empty begins with a call in form -/
theorem rest_cons {f : Nat} {p : Int} {r : List Int} {cs : List (List (List Int))} (h : Rest f (p :: r) cs) (hn : ∀ x ∈ r, Num x) :
    ∃ g ds, 0 ≤ p ∧ p ≤ 10 ∧ arity p ≤ r.length ∧ Form (p :: r.take (arity p)) ∧ cs = [p :: r.take (arity p)] :: ds ∧ Rest g (r.drop (arity p)) ds := by
  obtain ⟨g, ds, _, h1, h2, h3, h4, h5⟩ := flat_cons h
  exact ⟨g, ds, h2, h3, h1, form_of h2 h3 h1 (fun x hx => hn x (List.mem_of_mem_take hx)), h4, h5⟩

theorem rest_nil {f : Nat} {cs : List (List (List Int))} (h : Rest f [] cs) : cs = [] := by
  unfold Rest at h
  cases f <;> · simp only [PyFlat.calls] at h; cases h; rfl

/-- **what is asked of a list, and what is due** -/
theorem asked_due {l : List Int} (h : PySy66.answers_asked l = true) :
    ∃ cs, Rest l.length l cs ∧ cs ≠ [] ∧ cs.length ≤ 80 ∧ PySy66.answers l = due Sy66.init cs ∧ (due Sy66.init cs).length ≤ 10000000 := by
  unfold PySy66.answers_asked at h
  cases e : PyFlat.calls PySy66.shape l.length l with
  | none => simp only [e] at h; cases h
  | some raw =>
    simp only [e] at h
    have ea : PySy66.answers l = due Sy66.init raw := by
      unfold PySy66.answers PySy66.calls
      simp only [e]
      rfl
    simp only [Bool.and_eq_true] at h
    obtain ⟨⟨⟨⟨h1, h2⟩, _⟩, _⟩, h5⟩ := h
    refine ⟨raw, e, ?_, of_decide_eq_true h2, ea, ?_⟩
    · intro c; rw [c] at h1; cases h1
    · rw [← ea]; exact of_decide_eq_true h5
end Cy

set_option Elab.async false
set_option maxRecDepth 100000
set_option maxHeartbeats 2000000
/-! Rules of the program's own that the layer has not. -/
namespace Cr
open PySem PySem.Spec PyProof.Rows L2

/-! ### a dict whose keys are tuples, as a test -/
theorem truthH {prog : Program} {w : World} {Kx : Type} [DecidableEq Kx] {knd : HeapKind prog w Kx} {A : Around} {E : Value → Shared → Prop} {s : Shared} {d : Addr} {xs : List (Kx × Addr × Value)} {Q : Bool → Shared → Prop}
    (lo : (d == sysModules) = false) (hD : s.heap.DictOfH knd d xs) (few : (xs.length : Int) < 2 ^ 63) (h : Q (!xs.isEmpty) { s with toks := s.toks + 1 + 1 }) : wpAny (model prog w) A (truthy (.ref d)) Q E s := by
  have e0 : ((xs.length : Int) != 0) = !xs.isEmpty := by
    cases xs with
    | nil => rfl
    | cons a r => simp; omega
  have len : wpAny (model prog w) A (runValue (.builtin "len" ⟨[.ref d], []⟩)) (fun r s' => r = .int xs.length (s.toks + 1) ∧ Q (!xs.isEmpty) s') E s := by
    refine wpAny_runValue (codeAny_builtin entry_len ?_)
    rw [Around.under_plainId plain_len _]
    refine wpAny_mono (wpAny_len_body_dictH (Q := fun r s' => r = .int xs.length (s.toks + 1) ∧ Q (!xs.isEmpty) s') lo hD few ⟨rfl, h⟩) (fun fin s' q => ?_) (fun _ _ x => x)
    obtain ⟨r, rfl, q⟩ := q
    exact q
  unfold truthy
  refine wpAny_bind (wpAny_callSpecial?_none (name := Str.ofString "__bool__") hD.typeIs noBool_dict ?_)
  refine wpAny_bind (wpAny_specialOf (name := Str.ofString "__len__") hD.typeIs F.slot_dict_len.lookup ?_)
  refine wpAny_bind (wpAny_mono len (fun r s' q => ?_) fun _ _ x => x)
  obtain ⟨rfl, q⟩ := q
  exact wpAny_pure (e0 ▸ q)
theorem tru_dT {X : Cx} : TruR X (fun x H Q => ∃ p kvs, x = .ref p ∧ Rd H p (.dT kvs) ∧ Q (!kvs.isEmpty) H) := by
  intro pins s σ H x v Q I rx h
  obtain ⟨p, kvs, rfl, hp, q⟩ := h
  cases rx
  obtain ⟨z, lo, xs, rel, dd⟩ := dt_rd I.hok hp
  have hl : kvs.length = xs.length := Paired.length rel
  have he : kvs.isEmpty = xs.isEmpty := by cases rel <;> rfl
  refine truthH lo dd (by rw [sizeLine_eq] at z; omega) ?_
  rw [← he]
  exact ⟨H, I.tok _, q⟩
theorem pt_dT {X : Cx} {a : Expr} {ta : TE} (ha : PE X a ta) (he : ∀ whole, isTrue a X.env whole = (do let v ← whole; standAt a.pos; holding [v] (truthy v)) := by intro _; rfl) :
    PT X a (fun σ H Q => ta σ H fun x H' => ∃ p kvs, x = .ref p ∧ Rd H' p (.dT kvs) ∧ Q (!kvs.isEmpty) H') := pt_truthR ha tru_dT he

/-! ### max(d.values()), d with tuples for keys and whole numbers for values -/
def tMaxVals (td : TE) : TE := fun σ H Q => td σ H fun x H1 => ∃ a kvs is, x = V.ref a ∧ H1 a = some (.dT kvs) ∧ kvs.map (·.2) = is.map V.int ∧ is ≠ [] ∧ ∀ m, m ∈ is → (∀ j ∈ is, j ≤ m) → Q (.int m) H1
theorem pe_maxVals {X : Cx} {o : Expr} {p pos apos mpos : Pos} {td : TE} (hc : X.calm = true) (hg : Gl X "max") (hm : X.mg "max" = none) (hd : PE X o td) (base : attributeBase o "values" X.env (eval o X.env) = eval o X.env := by rfl) (line : (apos.endLine == mpos.line) = true := by rfl)
    (hse : starEach [Expr.Call (.Attribute o "values" apos) [] [] mpos] X.env = [(false, eval (Expr.Call (.Attribute o "values" apos) [] [] mpos) X.env)] := by rfl) :
    PE X (.Call (.Name "max" p) [.Call (.Attribute o "values" apos) [] [] mpos] [] pos) (tMaxVals td) := by
  refine ⟨fun pins s σ H Q I h => ?_⟩
  refine wpAny_Call_Name_kw (ld_blt I hg hm (u := .builtin "max") (by decide +kernel) ?_ (by decide +kernel) (by decide +kernel))
  rw [hse]
  refine PySem.callWith_builtin1 (wpAny_Call_method0_late base line (thn (hd.run pins s σ H _ I h) fun v s1 ⟨x, H1, I1, r1, a, kvs, is, ex, ha, hv, hne, q⟩ => ?_))
  subst ex
  obtain rfl : v = Value.ref a := r1
  obtain ⟨_, lo, xs, rel, dof⟩ := dt_of I1.hok ha
  obtain ⟨es, ep, raw, size, row⟩ := dof.raw
  have raw0 := raw
  obtain ⟨ob, ho, ex, hdat⟩ := raw0
  refine ⟨"dict", "dict.values", F.plainAttrs_dict, F.slot_dict_values, F.type_dict_values, ⟨ob, ho, ex.1⟩, fun b e => ?_, Calls.callWith_builtin rfl (PySem.evalArgs_none ?_)⟩
  · cases e
    exact ⟨ob, ho, ex.2.1⟩
  refine call_meetsIn F.slot_dict_values ⟨ob, ho, ex.1⟩ F.entry_dict_values (F.args_dict_values_1 _) (meets_dict_values_raw a lo) ⟨⟨es, ep, raw⟩, ?_⟩
  have up : ∀ b u, s1.heap.get? b = some u → (s1.heap.push { cls := .type "dict_values", data := .fields #[.ref a] }).get? b = some u := fun b u e => Heap.get?_push_of_some _ e
  have raw2 : (s1.heap.push { cls := .type "dict_values", data := .fields #[.ref a] }).DictRaw a es ep := raw.at fun u e => up a u e
  have many : es.size = is.length := by
    have e1 := congrArg List.length hv
    rw [List.length_map, List.length_map] at e1
    rw [size, ← e1]
    exact (Paired.length rel).symm
  have pos : 0 < es.size := by
    rw [many]
    exact List.length_pos_iff.mpr hne
  have tell : ∀ (i : Nat) (v : Value), (∃ y, xs[i]? = some y ∧ v = y.2.2) → ∃ t, v = Value.int (is.getD i 0) t := fun i v ⟨y, hy, ev⟩ => by
    have hi : i < kvs.length := by
      have e1 := (List.getElem?_eq_some_iff.mp hy).1
      have e2 : kvs.length = xs.length := Paired.length rel
      omega
    obtain ⟨b, hb, _, _, rb⟩ := paired_get rel (List.getElem?_eq_getElem hi)
    rw [hy] at hb
    cases hb
    have e1 : (kvs.map (·.2))[i]? = some (kvs[i]).2 := by rw [List.getElem?_map, List.getElem?_eq_getElem hi]; rfl
    rw [hv, List.getElem?_map] at e1
    obtain ⟨j, hj, e2⟩ := Option.map_eq_some_iff.mp e1
    rw [← e2] at rb
    obtain ⟨t, e3⟩ := rb
    refine ⟨t, ?_⟩
    rw [ev, e3, List.getD_eq_getElem?_getD, hj]
    rfl
  refine call_max_walk (wpAny_pyIter_values_raw (v := s1.heap.objs.size) (d := a) ⟨_, Heap.get?_push_size _ rfl, rfl, rfl⟩ raw2 ?_)
  have below : a < s1.heap.objs.size := Heap.lt_size ho
  have one : (s1.heap.push { cls := .type "dict_values", data := .fields #[.ref a] }).objs.size = s1.heap.objs.size + 1 := Heap.size_push _ _
  refine ⟨_, _, _, _, _, _, _, rfl, Walks.valuesH (xs := xs) (A := X.A.in1) (I.ok.hd hc) (s1.heap.push { cls := .type "dict_values", data := .fields #[.ref a] }).objs.size a (by rw [one]; exact Nat.ne_of_lt (Nat.lt_succ_of_lt below)) es ep (fun i hi => ?_),
    ⟨⟨_, Heap.get?_push_size _ rfl, rfl, rfl⟩, raw2.at fun u e => Heap.get?_push_of_some _ e⟩, fun b hb => ?_, pos, CmpOf.ints_gt (fun i => is.getD i 0) tell, fun v h' tk hP hk => ?_⟩
  · obtain ⟨y, k1, k2, k3, _⟩ := row i hi
    exact ⟨y, k1, k2, k3⟩
  · show b < ((s1.heap.push _).push _).objs.size
    rw [Heap.size_push, one]
    rw [one] at hb
    rcases List.mem_cons.mp hb with e | hb
    · rw [e]; exact Nat.lt_succ_self _
    · rw [List.mem_singleton.mp hb]; exact Nat.lt_succ_of_lt (Nat.lt_succ_of_lt below)
  · obtain ⟨t, rfl⟩ := tell _ v hP
    obtain ⟨b1, b2⟩ := argBest_gt (fun i => is.getD i 0) (es.size - 1)
    refine ⟨.int _, H1, I1.kept (t' := tk) fun b u e => hk b u (fun hmem => ?_) (Heap.get?_push_of_some _ (up b u e)), ⟨t, rfl⟩, q _ ?_ fun j hj => ?_⟩
    · have e1 := List.mem_singleton.mp hmem
      have e2 := Heap.lt_size e
      rw [one] at e1
      rw [e1] at e2
      exact absurd e2 (Nat.not_lt.mpr (Nat.le_succ _))
    · have hb : argBest (fun i j => decide (is.getD i 0 > is.getD j 0)) (es.size - 1) < is.length := by omega
      rw [List.getD_eq_getElem?_getD, List.getElem?_eq_getElem hb]
      exact List.getElem_mem hb
    · obtain ⟨n, hn, rfl⟩ := List.mem_iff_getElem.mp hj
      have := b2 n (by omega)
      rw [List.getD_eq_getElem?_getD, List.getElem?_eq_getElem hn] at this
      exact this

/-! ### min of a list of tuples of whole numbers, all of one length -/
/-- a list of small numbers as a tuple's data -/
def dat (n : List Nat) : PyData := .tuple (n.map fun x : Nat => .int (x : Int))
def nums (n : List Nat) : List V := n.map fun x : Nat => V.int (x : Int)
theorem dat_lt : ∀ {a b : List Nat}, a.length = b.length → W.dataLt (dat a) (dat b) = Sy66.before a b
  | [], [], _ => by
    unfold dat
    rw [W.dataLt_tuple]
    exact lex_irrefl _
  | x :: a, y :: b, h => by
    have ih := dat_lt (a := a) (b := b) (by simpa using h)
    unfold dat at ih ⊢
    rw [W.dataLt_tuple] at ih ⊢
    rw [List.map_cons, List.map_cons, W.dataLt_cons (by simp [W.alike])]
    show _ = (decide (x < y) || (x == y && Sy66.before a b))
    rw [ih, W.dataLt_int]
    have e : PyData.eqv (.int (x : Int)) (.int (y : Int)) = (x == y) := by
      by_cases c : x = y
      · subst c
        simp [PyData.eqv]
      · have c' : ¬ (x : Int) = (y : Int) := fun z => c (Int.ofNat.inj z)
        simp only [PyData.eqv]
        rw [beq_eq_false_iff_ne.mpr c, beq_eq_false_iff_ne.mpr c']
    rw [e]
    by_cases c : x = y
    · subst c
      simp
    · simp [c]
theorem alike_dat {a b : List Nat} : W.alike (dat a) (dat b) = true := by
  unfold dat W.alike
  induction a generalizing b with
  | nil => simp [W.alikeAll]
  | cons x a ih =>
    cases b with
    | nil => simp [W.alikeAll]
    | cons y b => simp only [List.map_cons, W.alikeAll, W.alike, Bool.true_and]; exact ih
theorem depth_ints (n : List Nat) : PyData.depthAll (n.map fun x : Nat => .int (x : Int)) = 0 := by
  induction n with
  | nil => rfl
  | cons x r ih => simp [PyData.depthAll, PyData.depth, ih]
theorem depth_dats : ∀ ns : List (List Nat), PyData.depthAll (ns.map dat) ≤ 1
  | [] => by simp [PyData.depthAll]
  | n :: r => by
    have ih := depth_dats r
    simp only [List.map_cons, PyData.depthAll, dat, PyData.depth, depth_ints]
    omega
theorem dp_ints {K : W.Frag} {H : Hp} : ∀ n : List Nat, DpAll K H (nums n) (n.map fun x : Nat => .int (x : Int))
  | [] => .nil
  | x :: r => .cons (.int _) (dp_ints r)
theorem dp_dats {K : W.Frag} {H : Hp} {vs : List V} {ns : List (List Nat)} (h : Paired (fun v n => ∃ q, v = V.ref q ∧ H q = some (.tup (nums n))) vs ns) : DpAll K H vs (ns.map dat) := by
  induction h with
  | nil => exact .nil
  | cons r _ ih =>
    obtain ⟨q, rfl, hq⟩ := r
    exact .cons (.tup (SqT.of hq) (dp_ints _)) ih
def rMinT (K : W.Frag) : List V → Hp → VK → Prop := fun vs H Q => ∃ (a : Addr) (xs : List V) (ns : List (List Nat)) (m : Nat), vs = [V.ref a] ∧ SqL K H a xs ∧
  Paired (fun v n => ∃ q, v = V.ref q ∧ H q = some (.tup (nums n))) xs ns ∧ (∀ n ∈ ns, n.length = m) ∧ ns ≠ [] ∧ ∀ (i : Nat) (v : V), xs[i]? = some v → ns[i]? = some (Sy66.first ns) → Q v H
theorem first_at : ∀ (x : List Nat) (xs : List (List Nat)) (k : Nat), k ≤ xs.length → argBest (fun i j => Sy66.before ((x :: xs).getD i []) ((x :: xs).getD j [])) k ≤ k ∧
    (x :: xs).getD (argBest (fun i j => Sy66.before ((x :: xs).getD i []) ((x :: xs).getD j [])) k) [] = (xs.take k).foldl (fun m y => if Sy66.before y m = true then y else m) x := fun x xs k hk =>
  W.argBest_fold Sy66.before [] x xs k hk
theorem cr_minT {X : Cx} (hc : X.calm = true) (hu : X.A.units + 64 < cLine) : CallR X (.builtin "min") (rMinT X.K) := by
  intro pins s σ H vs us Q I r h
  obtain ⟨a, xs, ns, m, rfl, hs, hp, hl, hne, q⟩ := h
  obtain ⟨its, rv, pl, _⟩ := I.list hs
  rw [Vals.ref1 r]
  obtain ⟨as, reads⟩ := Dp.readsAll I _ _ _ (dp_dats hp) rv
  have n1 : its.toArray.size = ns.length := by
    have e1 := rv.length
    have e2 : xs.length = ns.length := Paired.length hp
    rw [List.size_toArray]
    omega
  have pos : 0 < ns.length := List.length_pos_iff.mpr hne
  have al : W.AlikeAll (ns.map dat) := by
    refine ⟨fun x hx y hy => ?_, fun x hx => ?_⟩
    · obtain ⟨n, _, rfl⟩ := List.mem_map.mp hx
      obtain ⟨k, _, rfl⟩ := List.mem_map.mp hy
      exact alike_dat
    · obtain ⟨n, _, rfl⟩ := List.mem_map.mp hx
      exact fun z => by cases z
  have at' : ∀ i v, its.toArray[i]? = some v → ∃ hi : i < ns.length, (ns.map dat).getD i .none = dat ns[i] ∧ ns.getD i [] = ns[i] := fun i v e => by
    have hi : i < ns.length := by
      rw [← n1]
      exact (Array.getElem?_eq_some_iff.mp e).1
    refine ⟨hi, ?_, ?_⟩
    · rw [List.getD_eq_getElem?_getD, List.getElem?_map, List.getElem?_eq_getElem hi]
      rfl
    · rw [List.getD_eq_getElem?_getD, List.getElem?_eq_getElem hi]
      rfl
  refine call_min_walkH (W.iter_listW (A := X.A.in1) (I.ok.hd hc) pl.isList fun s2 e Wk st hfp hw hk => ?_)
  have cmp := W.cmpIn_lt (prog := X.prog) (w := X.w) (A := X.A.in1) (s := s) (by simpa using reads) al (by
    have := depth_dats ns
    show X.A.units + 1 + _ < cLine
    omega)
  refine ⟨_, _, _, _, _, _, _, s.heap, (fun i j => Sy66.before (ns.getD i []) (ns.getD j [])), rfl, Wk, st, hfp, by omega, hw, hk, fun i j vi vj s3 Q' E' keep hi hj hq => ?_, fun v s3 hP mv => ?_⟩
  · obtain ⟨i1, i2, i3⟩ := at' i vi hi
    obtain ⟨j1, j2, j3⟩ := at' j vj hj
    refine cmp i j vi vj s3 Q' E' keep hi hj ?_
    show Q' (Value.bool (W.dataLt ((ns.map dat).getD i PyData.none) ((ns.map dat).getD j PyData.none))) s3
    rw [i2, j2, dat_lt ((hl _ (List.getElem_mem i1)).trans (hl _ (List.getElem_mem j1)).symm), ← i3, ← j3]
    exact hq
  · obtain ⟨h', tk, rfl, old⟩ := W.moved_old e rfl mv
    cases ns with
    | nil => exact absurd rfl hne
    | cons n r =>
      obtain ⟨k1, k2⟩ := first_at n r r.length (Nat.le_refl _)
      have e1 : its.toArray.size - 1 = r.length := by rw [n1]; simp
      rw [e1] at hP
      rw [List.take_length] at k2
      obtain ⟨hi, _, _⟩ := at' _ v hP
      have hx : argBest (fun i j => Sy66.before ((n :: r).getD i []) ((n :: r).getD j [])) r.length < xs.length := by
        have e2 : xs.length = (n :: r).length := Paired.length hp
        rw [e2]
        exact hi
      obtain ⟨u, hu1, hu2⟩ := rv.get (List.getElem?_eq_getElem hx)
      have hv : its[argBest (fun i j => Sy66.before ((n :: r).getD i []) ((n :: r).getD j [])) r.length]? = some v := by simpa using hP
      rw [hu1] at hv
      cases hv
      refine ⟨_, H, I.kept (t' := tk) old, hu2, q _ _ (List.getElem?_eq_getElem hx) ?_⟩
      rw [List.getElem?_eq_getElem hi]
      rw [List.getD_eq_getElem?_getD, List.getElem?_eq_getElem hi] at k2
      exact congrArg some k2

/-! ### a dict walked by its keys and locked from where the walk begins -/
def iKeysL (td : TE) : TI := fun σ H R => td σ H fun x H1 => ∃ d kvs, x = .ref d ∧ H1 d = some (.dT kvs) ∧ ∀ od, R (Itkt d od kvs) (upd H1 d (.frz od (.dT kvs)))
theorem pi_keysL {X : Cx} {tg e : Expr} {td : TE} (he : PE X e td) : PI X tg e (iKeysL td) := by
  refine ⟨fun pins s σ H R I h => ?_⟩
  refine thn (he.run pins s σ H _ I h) fun u s1 ⟨x, H1, I1, rx, d, kvs, ex, hd, q⟩ => ?_
  subst ex
  cases rx
  obtain ⟨od, I2⟩ := I1.lock hd True.intro
  obtain ⟨hs, hgd, hx, es, ep, hdt, hsz, ent⟩ := I2.frzT upd_same
  refine iter_keys hs hgd hx hdt (pi_one (tk := s1.toks) I2 _ (turn_keysT _ hdt) ⟨_, Heap.get?_push_size _ rfl, rfl, ?_⟩ (q od))
  rw [hsz]
  rfl
/-- .. and let go where the expression ends -/
def tOpen (t : TE) : TE := fun σ H Q => t σ H fun v H' => ∃ d od u, H' d = some (.frz od u) ∧ (∀ o' u', H d ≠ some (.frz o' u')) ∧ Q v (upd H' d u)
theorem pe_open {X : Cx} {e : Expr} {t : TE} (h : PE X e t) : PE X e (tOpen t) := by
  refine ⟨fun pins s σ H Q I hw => ?_⟩
  refine thn (h.run pins s σ H _ I hw) fun v s1 ⟨x, H1, I2, r, d, od, u, e2, nf, q⟩ => ?_
  exact ⟨x, _, I2.unlock e2 (fun o' u' z => nf o' u' (I.base.frzs d o' u' z)), r, q⟩
end Cr

set_option Elab.async false
set_option maxRecDepth 100000
set_option maxHeartbeats 3200000
/-! Rules of the program's own, further: enumerate of a tuple; set of a list of whole numbers, in order. -/
namespace PySem
open Sem (wp)
/-- enumerate(v) begins, where iter(v) is one new object -/
theorem cy_enum_new {v : Value} {o : Obj} {G : Heap → Prop} (B : Begins v o G) : Meets (Builtin.«enumerate.__new__» ⟨[.type "enumerate", v], []⟩)
    (fun _ R s => G s.heap ∧ R (.ok (.ret (.ref (s.heap.push o).objs.size))) { s with heap := (s.heap.push o).push { cls := .type "enumerate", data := .fields #[.none, .bool false, .ref s.heap.objs.size, rawInt 0, .none, .none] } }) :=
  .of_wp fun prog w A R s x => by
    obtain ⟨hp, g, d, tk, os⟩ := s
    obtain ⟨g1, fin⟩ := x
    have sub0 := sub_enumerate
    have q1 : ∀ {A' : Around} {E : Value → Shared → Prop} {Q : Value → Shared → Prop}, Q (.ref hp.objs.size) ⟨hp.push o, g, d, tk, os⟩ → wpAny (model prog w) A' (pyIter v) Q E ⟨hp, g, d, tk, os⟩ := fun q =>
      B.iter prog w _ _ ⟨hp, g, d, tk, os⟩ _ g1 q
    wp_walk using q1
    refine wpAny_stack_any fun st => wpAny_pure ?_
    split
    · rename_i c _ _ _ _ _
      cases (c == Value.type "enumerate") <;> (wp_walk using q1; exact ⟨_, rfl, fin⟩)
    · wp_walk using q1
      exact ⟨_, rfl, fin⟩
theorem cy_enum_begins {prog : Program} {w : World} {A : Around} {E : Value → Shared → Prop} {s : Shared} {v : Value} {o : Obj} {G : Heap → Prop} {Q : Value → Shared → Prop} (B : Begins v o G) (g1 : G s.heap)
    (h : ∀ h', IsEnum h' (s.heap.objs.size + 1) s.heap.objs.size 0 .none → h'.get? s.heap.objs.size = some o → (∀ b u, s.heap.get? b = some u → h'.get? b = some u) → Q (.ref (s.heap.objs.size + 1)) { s with heap := h' }) :
    wpAny (model prog w) A (call (.type "enumerate") [v]) Q E s := by
  refine callType_new F.called_enumerate (by decide) (F.typeCall_enumerate_1 _) (F.newCall_enumerate_1 _) (fun obj => F.args_object_init_2 obj _) F.entry_enumerate_new (cy_enum_new B) ⟨g1, ?_⟩
  have one : (s.heap.push o).objs.size = s.heap.objs.size + 1 := Heap.size_push ..
  show _ ∧ _
  rw [one]
  have he : IsEnum ((s.heap.push o).push { cls := .type "enumerate", data := .fields #[.none, .bool false, .ref s.heap.objs.size, rawInt 0, .none, .none] }) (s.heap.objs.size + 1) s.heap.objs.size 0 .none := by
    have e := Heap.get?_push_size (s.heap.push o) (o := { cls := .type "enumerate", data := .fields #[.none, .bool false, .ref s.heap.objs.size, rawInt 0, .none, .none] }) rfl
    rw [one] at e
    exact e
  exact ⟨⟨_, he, rfl⟩, h _ he (Heap.get?_push_of_some _ (Heap.get?_push_size _ B.free)) fun b u x => Heap.get?_push_of_some _ (Heap.get?_push_of_some _ x)⟩
end PySem
namespace Cr
open PySem PySem.Spec PyProof.Rows L2

/-! ### for i, x in enumerate(t), t a tuple that is tracked -/
def Itet (a : Addr) (xs : List V) : It :=
  ⟨fun i H => H a = some (.tup xs) ∧ i < xs.length, fun i H v H' => ∃ T x, v = .ref T ∧ H T = none ∧ H' = upd H T (.tup [.int (i : Nat), x]) ∧ xs[i]? = some x, fun i H => H a = some (.tup xs) ∧ i = xs.length⟩
theorem turn_enumT {P : Program} {w : World} {K : PySem.W.Frag} {elts : List Expr} {kk : Nat} {tpos : Pos} (a e it : Addr) (xs : List V) :
    Turn P w K (.Tuple elts kk tpos) (Itet a xs) [e, it] e (fun i h => (∃ old, IsEnum h e it ((i : Nat) : Int) old) ∧ h.IsTupleIter it a i ∧ e ≠ it) where
  mem := by simp
  obj := fun i h st b hb => by
    obtain ⟨⟨old, he⟩, ⟨o, ho, _, hd⟩, _⟩ := st
    rcases List.mem_cons.mp hb with z | z
    · rw [z]
      exact ⟨_, he, fun v q => nomatch q⟩
    · rw [List.mem_singleton.mp z]
      exact ⟨o, ho, fun v q => by rw [hd] at q; cases q⟩
  keep := fun i h h' st k => ⟨st.1.elim fun old he => ⟨old, k e (by simp) _ he⟩, st.2.1.at fun o q => k it (by simp) o q, st.2.2⟩
  item := by
    intro X hP hw hK hc i pins s σ H E I hf st hg
    subst hP hw hK
    obtain ⟨⟨old, he⟩, hit, hne⟩ := st
    obtain ⟨hq, hi⟩ := hg
    obtain ⟨its, rv, tp, _⟩ := I.tuple (SqT.of hq)
    have hl := rv.length
    have ea : a ≠ e := fun z => by rw [z, (hf e (by simp)).1] at hq; cases hq
    have ia : a ≠ it := fun z => by rw [z, (hf it (by simp)).1] at hq; cases hq
    refine wpAny_pyNext_enum_itemD (Draws.tuple (prog := X.prog) (w := X.w) (A := X.A.in1) (I.ok.hd hc) it a ia its.toArray) he ⟨hit, tp⟩ (by rw [List.size_toArray, ← hl]; exact hi) hne (fun z => ?_) fun x h' tk hx ho st' hT hsz hk => ?_
    · rcases List.mem_cons.mp z with z | z
      · exact hne z
      · exact ea (List.mem_singleton.mp z).symm
    · have hel : e < s.heap.objs.size := Heap.lt_size he
      have hil : it < s.heap.objs.size := hit.elim fun _ q => Heap.lt_size q.1
      obtain ⟨u, hu, ru⟩ := rv.get (List.getElem?_eq_getElem hi)
      have hxu : its[i]? = some x := by simpa using hx
      rw [hxu] at hu
      cases hu
      refine ⟨_, rfl, wpAny_letOwnedTupleGo_enum (s := { s with heap := h', toks := tk + 1 }) ho fun h2 he2 sb => ?_⟩
      have hT2 : h2.get? s.heap.objs.size = some { cls := .type "tuple", data := .seq #[.int i tk, x] } := (sb.2 _ (Nat.ne_of_gt hel)).trans hT
      have new : ObjOk X.prog X.w (upd H s.heap.objs.size (.tup [.int (i : Nat), xs[i]])) h2 s.heap.objs.size (.tup [.int (i : Nat), xs[i]]) :=
        ⟨by show 2 ≤ sizeLine; decide, [.int i tk, x], .cons ⟨_, rfl⟩ (.cons ru .nil), ⟨_, hT2, rfl, _, rfl⟩⟩
      have I1 : Inv X pins σ (upd H s.heap.objs.size (.tup [.int (i : Nat), xs[i]])) { s with heap := h2, toks := tk + 1 } :=
        I.turnedNew (ch := [e, it]) (fun b ob hb q => (sb.2 b (fun z => hb (by simp [z]))).trans (hk b ob (fun z => hb (by simp [z])) (fun z => hb (by simp [z])) q)) hf (Nat.le_refl _) new
      refine ⟨.ref s.heap.objs.size, _, I1, rfl, ⟨_, xs[i], rfl, I.hok.fresh (Nat.le_refl _), rfl, List.getElem?_eq_getElem hi⟩, ⟨⟨x, ?_⟩, st'.1.at fun o q => (sb.2 it (Ne.symm hne)).trans q, hne⟩, fun b hb => ?_⟩
      · have e1 : ((i + 1 : Nat) : Int) = (i : Int) + 1 := by omega
        rw [e1]
        exact he2
      · have hb2 : b < s.heap.objs.size := by
          rcases List.mem_cons.mp hb with z | z
          · rw [z]; exact hel
          · rw [List.mem_singleton.mp z]; exact hil
        rw [upd_ne (Nat.ne_of_lt hb2)]
        exact (hf b hb).1
  done := by
    intro X hP hw hK hc i pins s σ H E I hf st hg
    subst hP hw hK
    obtain ⟨⟨old, he⟩, hit, hne⟩ := st
    obtain ⟨hq, hi⟩ := hg
    obtain ⟨its, rv, tp, _⟩ := I.tuple (SqT.of hq)
    have hl := rv.length
    obtain ⟨f0, f1, f2, f3, f4, f5⟩ := hf it (by simp)
    have ia : a ≠ it := fun z => by rw [z, f0] at hq; cases hq
    refine wpAny_pyNext_enum_endD (Draws.tuple (prog := X.prog) (w := X.w) (A := X.A.in1) (I.ok.hd hc) it a ia its.toArray) he ⟨?_, tp⟩ fun h' eb => ⟨rfl, I.turned (t' := s.toks) (fun b o hb q => eb b o hb q) f0 f1 f3 f4 f5⟩
    rw [List.size_toArray, ← hl, ← hi]
    exact hit
  self := fun A i s Q E st h => st.1.elim fun _ he => wpAny_pyIter_enum he h
def iEnumT (ta : TA) : TI := fun σ H R => ta σ H fun vs H1 => ∃ a xs, vs = [.ref a] ∧ H1 a = some (.tup xs) ∧ R (Itet a xs) H1
theorem pi_enumT {X : Cx} {e : Expr} {ta : TA} {p pos tpos : Pos} {elts : List Expr} {kk : Nat} (hg : Gl X "enumerate") (hm : X.mg "enumerate" = none) (ha : PA X [e] ta) (hs : starEach [e] X.env = [(false, eval e X.env)] := by rfl) :
    PI X (.Tuple elts kk tpos) (.Call (.Name "enumerate" p) [e] [] pos) (iEnumT ta) := by
  refine ⟨fun pins s σ H R I h => ?_⟩
  refine Call_ (ld_blt I hg hm boot_enumerate (PyProof.Rows.callWith_type1 (thn (ha.run pos pins s σ H _ I h) fun us s1 ⟨vs, H1, I1, r1, a, xs, ev, hq, q⟩ => ?_) hs rfl))
  subst ev
  rw [Vals.ref1 r1]
  obtain ⟨its, rv, tp, hz⟩ := I1.tuple (SqT.of hq)
  refine cy_enum_begins (begins_tuple a its.toArray) tp fun h' he ho hk => wpAny_pyIter_enum he ?_
  refine ⟨s1.heap.objs.size + 1, [s1.heap.objs.size + 1, s1.heap.objs.size], _, _, H1, rfl, I1.kept (t' := s1.toks) hk, turn_enumT a (s1.heap.objs.size + 1) s1.heap.objs.size xs, ⟨⟨.none, he⟩, ⟨_, ho, rfl, rfl⟩, Nat.succ_ne_self _⟩, fun b hb => ?_, q⟩
  have above : s1.heap.objs.size ≤ b := by
    rcases List.mem_cons.mp hb with z | z
    · rw [z]; exact Nat.le_succ _
    · rw [List.mem_singleton.mp z]; exact Nat.le_refl _
  exact I1.fpOk above (I1.hok.fresh above)
/-- its turns -/
theorem for_enumT {a : Addr} {xs : List V} {g : TG} {tb : TS} {D : Ends} {σ : L2.St} {H : Hp} (Pv : Nat → L2.St → Hp → Prop) (h0 : Pv 0 σ H) (hl : ∀ i σ H, i ≤ xs.length → Pv i σ H → H a = some (.tup xs))
    (hs : ∀ i x σ H T, xs[i]? = some x → Pv i σ H → H T = none → g (.ref T) σ (upd H T (.tup [.int (i : Nat), x])) fun σ2 H2 => tb { D with nx := Pv (i + 1), ct := Pv (i + 1), bk := D.nx } σ2 H2) (hd : ∀ σ H, Pv xs.length σ H → D.nx σ H) :
    ∃ W : Nat → Nat → L2.St → Hp → Prop, (∃ m, W 0 m σ H) ∧ ∀ i m σ H, W i m σ H →
      ((Itet a xs).stop i H ∧ D.nx σ H) ∨ ((Itet a xs).go i H ∧ ∃ N : L2.St → Hp → Prop, (∀ σ' H', N σ' H' → ∃ m', m' < m ∧ W (i + 1) m' σ' H') ∧ ∀ x H', (Itet a xs).yld i H x H' → g x σ H' fun σ2 H2 => tb { D with nx := N, ct := N, bk := D.nx } σ2 H2) := by
  refine ⟨fun i m σ H => m = xs.length - i ∧ i ≤ xs.length ∧ Pv i σ H, ⟨xs.length, by simp, Nat.zero_le _, h0⟩, ?_⟩
  rintro i m σ H ⟨rfl, hi, p⟩
  have q := hl i σ H hi p
  by_cases lt : i < xs.length
  · refine .inr ⟨⟨q, lt⟩, Pv (i + 1), fun σ' H' p' => ⟨xs.length - (i + 1), by omega, rfl, lt, p'⟩, fun x H' y => ?_⟩
    obtain ⟨T, z, rfl, hT, rfl, hz⟩ := y
    exact hs i z σ H T hz p hT
  · have e : i = xs.length := by omega
    subst e
    exact .inl ⟨⟨q, rfl⟩, hd σ H p⟩
end Cr

set_option Elab.async false
set_option maxRecDepth 100000
set_option maxHeartbeats 6400000
/-! Rules of the program's own, further: sorted(set(xs)), xs a list of whole numbers. -/
namespace Cr
open PySem PySem.Spec PyProof.Rows L2

abbrev set0 (w : World) : Obj := { cls := .type "set", dict := none, data := .set #[] 0 (.fresh 0 0 (!w.params.followText "set-order")) }
section
variable {P : Program} {w : World} {A : Around} {E : Value → Shared → Prop} {s : Shared}
theorem ints_at {vs : List Value} {ns : List Int} (h : IntsAre vs ns) {i : Nat} {v : Value} (hv : vs[i]? = some v) : ∃ k t, ns[i]? = some k ∧ v = .int k t := by
  have hi : i < ns.length := by
    rw [← IntsAre.length h]
    exact (List.getElem?_eq_some_iff.mp hv).1
  obtain ⟨t, e⟩ := IntsAre.int_at h i v hv
  refine ⟨ns[i], t, List.getElem?_eq_getElem hi, ?_⟩
  rw [e, List.getD_eq_getElem?_getD, List.getElem?_eq_getElem hi]
  rfl
theorem set_ints {l : Addr} {its : List Value} (ns : List Int) {Q : Value → Shared → Prop} (calm : A.handled = none) (hl : s.heap.IsList l its.toArray) (hi : IntsAre its ns) (few : ns.length + 1 < scanBound)
    (fin : ∀ (h' : Heap) (tk c : Nat), SetR w h' s.heap.objs.size (fun j => decide (j ∈ ns)) c → (∀ b o, s.heap.get? b = some o → h'.get? b = some o) → Q (.ref s.heap.objs.size) { s with heap := h', toks := tk }) :
    wpAny (model P w) A (call (.type "set") [.ref l]) Q E s := by
  have many : its.toArray.size = ns.length := by rw [List.size_toArray, IntsAre.length hi]
  obtain ⟨_, _, hmro⟩ := F.called_set.mro
  have made := F.called_set.made
  have own := F.called_set.sub
  refine wpAny_call (codeAny_of_tree ?_)
  show wpAny _ _ (callAny (.type "set") _) _ _ _
  refine wpAny_pure ⟨Code.quiet_builtin _ (by decide +kernel), codeAny_builtin F.entry_type_call ?_⟩
  rw [Around.under_plain (weight_type_call_type "set" [.ref l] []) rfl]
  have t1 := F.called_set.notType
  have t2 := F.called_set.canCreate
  have t3 := F.typeCall_set_1 (.ref l)
  repeat (any_goals (first | assumption | wp_step))
  refine codeAny_mono (code_set_led1 (.ref l) (E := E) (Q₁ := fun obj s₁ => obj = .ref s.heap.objs.size ∧ s₁ = { s with heap := s.heap.push (set0 w) }) ⟨rfl, rfl⟩) fun r s₁ hr => ?_
  cases r with
  | error e => exact hr
  | ok fl =>
    cases fl with
    | ret obj =>
      obtain ⟨rfl, rfl⟩ := hr
      have gS : (s.heap.push (set0 w)).get? s.heap.objs.size = some (set0 w) := Heap.get?_push_size _ rfl
      have tS : Shared.TypeIs { s with heap := s.heap.push (set0 w) } (.ref s.heap.objs.size) "set" := ⟨_, gS, rfl⟩
      have t4 := F.called_set.init.lookup
      have t5 := F.called_set.init.bind (.ref s.heap.objs.size)
      repeat (any_goals (first | assumption | wp_step))
      refine codeAny_mono (codeAny_call_builtin (R := wants (fun r s₂ => r = .none ∧ ∃ h' tk c, s₂ = { s with heap := h', toks := tk } ∧ SetR w h' s.heap.objs.size (fun j => decide (j ∈ ns)) c ∧ ∀ b o, s.heap.get? b = some o → h'.get? b = some o) E)
        F.called_set.init.plain F.entry_set_init (check_set_init_1 tS ?_)) fun r₂ s₂ hr₂ => ?_
      · obtain ⟨⟨oc, od, odt, osl⟩, ho, cl, nl, dl⟩ := hl
        simp only at cl dl
        subst cl dl
        have ho' : (s.heap.push (set0 w)).get? l = some { cls := .type "list", dict := od, data := .seq its.toArray nl, slots := osl } := Heap.get?_push_of_some _ ho
        have u1 := F.sub_list_set
        have u2 := F.sub_list_frozenset
        have u3 : (Value.type "list" == Value.type "dict") = false := by decide
        have hL : (s.heap.push (set0 w)).IsList l its.toArray := ⟨_, ho', rfl, nl, rfl⟩
        unfold Builtin.«set.__init__» noKeywords Builtin.Frozenset.updateFrom
        generalize hPI : pyIter = PI
        wp_walk
        subst hPI
        refine wpAny_pyIter_list hL (wpAny_bind (wpAny_runValue ?_))
        have old : l < s.heap.objs.size := Heap.lt_size ho
        have one : (s.heap.push (set0 w)).objs.size = s.heap.objs.size + 1 := Heap.size_push ..
        have calm3 : A.in1.in1.in1.handled = none := by simp [calm]
        have apart : l ≠ (s.heap.push (set0 w)).objs.size := by rw [one]; exact Nat.ne_of_lt (Nat.lt_succ_of_lt old)
        refine set_update_ints ((Walks.list calm3 _ l apart its.toArray).toS) s.heap.objs.size (fun m => ?_) ns many few (fun i v hv => ints_at hi (by simpa using hv)) (its.toArray.size - 0) 0 _ (by omega) (Nat.zero_le _)
          ⟨⟨_, Heap.get?_push_size _ rfl, rfl, rfl⟩, hL.push _⟩ ⟨0, Nat.le_refl 0, setR_new_at (Heap.get?_push_of_some _ gS)⟩ fun s3 c hm _ hS3 => ?_
        · rw [one] at m
          rcases List.mem_cons.mp m with z | z
          · exact absurd z (Nat.ne_of_lt (Nat.lt_succ_self _))
          · exact absurd (List.mem_singleton.mp z) (Nat.ne_of_gt old)
        · obtain ⟨h3, g3, d3, tk3, os3⟩ := s3
          obtain rfl : g3 = s.gens := hm.gens
          obtain rfl : d3 = s.drawn := hm.drawn
          obtain rfl : os3 = s.os := hm.os
          refine wpAny_pure ?_
          show wpAny _ _ (ret Value.none) _ _ _
          refine wpAny_pure ⟨rfl, h3, tk3, c, rfl, hS3, fun b o e => ?_⟩
          have lt := Heap.lt_size e
          refine hm.heap b o (fun m => ?_) (Heap.get?_push_of_some _ (Heap.get?_push_of_some _ e))
          rw [one] at m
          rcases List.mem_cons.mp m with z | z
          · exact absurd z (Nat.ne_of_lt lt)
          · exact absurd (List.mem_singleton.mp z) (Nat.ne_of_lt (Nat.lt_succ_of_lt lt))
      · cases r₂ with
        | error e => exact hr₂
        | ok fl₂ =>
          cases fl₂ with
          | ret r =>
            obtain ⟨rfl, h3, tk3, c, rfl, hS3, old⟩ := hr₂
            repeat (any_goals (first | assumption | wp_step))
            exact fin _ _ _ hS3 old
          | _ => exact hr₂.elim
    | _ => exact hr.elim
end
/-- set(xs) -/
def rSetI (K : PySem.W.Frag) (w : World) : List V → Hp → VK → Prop := fun vs H Q => ∃ (a : Addr) (ns : List Int), vs = [V.ref a] ∧ SqL K H a (ns.map V.int) ∧ ns.length + 1 < scanBound ∧
  ∀ p c, H p = none → Q (.ref p) (upd H p (SetO w p (fun j => decide (j ∈ ns)) c))
theorem cr_setI {X : Cx} (hc : X.calm = true) : CallR X (.type "set") (rSetI X.K X.w) := by
  intro pins s σ H vs us Q I r h
  obtain ⟨a, ns, rfl, hs, few, q⟩ := h
  obtain ⟨its, rv, pl, _⟩ := I.list hs
  rw [Vals.ref1 r]
  refine set_ints ns (I.ok.hd hc) pl.isList rv.ints few fun h' tk c hS old => ?_
  exact ⟨.ref _, upd H s.heap.objs.size (SetO X.w s.heap.objs.size (fun j => decide (j ∈ ns)) c), I.laid (t' := tk) old (Nat.le_refl _) (setO_new hS), rfl, q _ c (I.hok.fresh (Nat.le_refl _))⟩
/-- how many members a set has -/
theorem nodup_le : ∀ {l r : List Int}, l.Nodup → (∀ k ∈ l, k ∈ r) → l.length ≤ r.length
  | [], _, _, _ => Nat.zero_le _
  | a :: l, r, hn, hs => by
    obtain ⟨h1, h2⟩ := List.nodup_cons.mp hn
    have ha := hs a (List.mem_cons_self ..)
    have ih := nodup_le (r := r.erase a) h2 fun k hk => (List.mem_erase_of_ne (a := k) (b := a) (fun z : k = a => h1 (z ▸ hk))).mpr (hs k (List.mem_cons_of_mem _ hk))
    rw [List.length_erase_of_mem ha] at ih
    have := List.length_pos_of_mem ha
    rw [List.length_cons]
    omega
/-- sorted(a set of few) -/
def rSortS (w : World) : List V → Hp → VK → Prop := fun vs H Q => ∃ (a : Addr) (S : Int → Bool) (c : Nat) (r : List Int), vs = [V.ref a] ∧ H a = some (SetO w a S c) ∧ r.length < 64 ∧ (∀ k, S k = true → k ∈ r) ∧
  ∀ (ns : List Int) (p : Addr), ns.Pairwise (· < ·) → (∀ k : Int, k ∈ ns ↔ S k = true) → H p = none → Q (.ref p) (upd H p (.lst (ns.map V.int)))
theorem cr_sortS {X : Cx} (hc : X.calm = true) : CallR X (.builtin "sorted") (rSortS X.w) := by
  intro pins s σ H vs us Q I r h
  obtain ⟨a, S, c, l, rfl, ha, few, sub, q⟩ := h
  obtain ⟨o, es, ep, t, ho, hx, hd, g, nd, hS, _, _, n, _⟩ := setO_get I ha
  refine cr_sortedSet hc pins s σ H _ us Q I r ⟨a, S, c, rfl, ha, ?_, fun ns p h1 h2 _ h3 => q ns p h1 h2 h3⟩
  have := nodup_le nd (r := l) fun k hk => sub k ((hS k).mpr hk)
  rw [List.length_map, Array.length_toList, n] at this
  omega
end Cr

/-! What the program reckons, in plain Lean: masks of cells, the ways of a car, all moves, all arrangements. -/
namespace Cy
open Sy66

/-! ### masks -/
/-- the cells of a car at a place, each a bit -/
def maskN (s : St) (c : Car) (o : Nat) : Nat := (List.range c.long).foldl (fun a i => a ||| 2 ^ spot s c (o + i)) 0
theorem or_bits {f : Nat → Nat} : ∀ (l : List Nat) (a x : Nat), (l.foldl (fun a i => a ||| 2 ^ f i) a).testBit x = true ↔ (a.testBit x = true ∨ ∃ i ∈ l, f i = x)
  | [], a, x => by simp
  | i :: l, a, x => by
    rw [List.foldl_cons, or_bits l, Nat.testBit_or, Nat.testBit_two_pow]
    simp only [Bool.or_eq_true, decide_eq_true_eq, List.mem_cons]
    constructor
    · rintro ((h | h) | ⟨j, hj, e⟩)
      · exact .inl h
      · exact .inr ⟨i, .inl rfl, h⟩
      · exact .inr ⟨j, .inr hj, e⟩
    · rintro (h | ⟨j, rfl | hj, e⟩)
      · exact .inl (.inl h)
      · exact .inl (.inr e)
      · exact .inr ⟨j, hj, e⟩
theorem mask_bit {s : St} {c : Car} {o x : Nat} : (maskN s c o).testBit x = true ↔ x ∈ cellsOf s c o := by
  unfold maskN
  rw [or_bits, mem_cellsOf]
  simp only [Nat.zero_testBit, Bool.false_eq_true, false_or]
  constructor
  · rintro ⟨i, hi, e⟩
    exact ⟨o + i, by omega, by have := List.mem_range.mp hi; omega, e.symm⟩
  · rintro ⟨q, h1, h2, e⟩
    exact ⟨q - o, List.mem_range.mpr (by omega), by rw [Nat.add_sub_cancel' h1]; exact e.symm⟩
theorem and_zero {a b : Nat} : a &&& b = 0 ↔ ∀ x, ¬ (a.testBit x = true ∧ b.testBit x = true) := by
  constructor
  · intro h x hx
    have : (a &&& b).testBit x = true := by rw [Nat.testBit_and, hx.1, hx.2]; rfl
    rw [h, Nat.zero_testBit] at this
    cases this
  · intro h
    apply Nat.eq_of_testBit_eq
    intro x
    rw [Nat.testBit_and, Nat.zero_testBit]
    cases h1 : a.testBit x with
    | false => rfl
    | true =>
      cases h2 : b.testBit x with
      | false => rfl
      | true => exact (h x ⟨h1, h2⟩).elim
/-- how many places a car has -/
def many (s : St) (c : Car) : Nat := lineLong s c + 1 - c.long
/-- a car's track: its cells at each of its places -/
def track (s : St) (c : Car) : List Nat := (List.range (many s c)).map (maskN s c)
theorem track_len (s : St) (c : Car) : (track s c).length = many s c := by unfold track; rw [List.length_map, List.length_range]
theorem track_at {s : St} {c : Car} {o : Nat} (h : o < many s c) : (track s c)[o]? = some (maskN s c o) := by
  unfold track
  rw [List.getElem?_map, List.getElem?_range h]
  rfl
theorem lt_many {s : St} {k o : Nat} (hs : Yd s) (hk : k < s.cars.length) : o < many s (carOf s k) ↔ o + (carOf s k).long ≤ lineLong s (carOf s k) := by
  have h1 := hs.fits _ (carOf_mem hk)
  unfold many
  omega
theorem many_le {s : St} (hs : Yd s) {k : Nat} (hk : k < s.cars.length) : many s (carOf s k) ≤ 4 := by
  have h1 := (hs.long _ (carOf_mem hk)).1
  have h2 := lineLong_le hs (carOf s k)
  unfold many
  omega
theorem at_lt {s : St} (hs : Yd s) {l : List Nat} (hl : legal s l = true) {k : Nat} (hk : k < l.length) (hc : k < s.cars.length) : l.getD k 0 < many s (carOf s k) :=
  (lt_many hs hc).mpr ((legal_iff.mp hl).1 k hk)

/-- the cells of all cars -/
def takenN (s : St) (l : List Nat) : Nat := (List.range l.length).foldl (fun a i => a ||| maskN s (carOf s i) (l.getD i 0)) 0
theorem ors_bit {f : Nat → Nat} : ∀ (l : List Nat) (a x : Nat), (l.foldl (fun a i => a ||| f i) a).testBit x = true ↔ (a.testBit x = true ∨ ∃ i ∈ l, (f i).testBit x = true)
  | [], a, x => by simp
  | i :: l, a, x => by
    rw [List.foldl_cons, ors_bit l, Nat.testBit_or]
    simp only [Bool.or_eq_true, List.mem_cons]
    constructor
    · rintro ((h | h) | ⟨j, hj, e⟩)
      · exact .inl h
      · exact .inr ⟨i, .inl rfl, h⟩
      · exact .inr ⟨j, .inr hj, e⟩
    · rintro (h | ⟨j, rfl | hj, e⟩)
      · exact .inl (.inl h)
      · exact .inl (.inr e)
      · exact .inr ⟨j, hj, e⟩
theorem taken_bit {s : St} {l : List Nat} {x : Nat} : (takenN s l).testBit x = true ↔ ∃ i, i < l.length ∧ x ∈ cells s i (l.getD i 0) := by
  unfold takenN
  rw [ors_bit]
  simp only [Nat.zero_testBit, Bool.false_eq_true, false_or, List.mem_range, mask_bit]
  rfl
/-- the first cars' cells -/
def takenUp (s : St) (l : List Nat) (i : Nat) : Nat := (List.range i).foldl (fun a i => a ||| maskN s (carOf s i) (l.getD i 0)) 0
theorem takenUp_succ (s : St) (l : List Nat) (i : Nat) : takenUp s l (i + 1) = takenUp s l i ||| maskN s (carOf s i) (l.getD i 0) := by
  unfold takenUp
  rw [List.range_succ, List.foldl_append]
  rfl
theorem takenUp_all (s : St) (l : List Nat) : takenUp s l l.length = takenN s l := rfl
/-- the others' cells -/
theorem others_bit {s : St} {l : List Nat} (hl : legal s l = true) {k : Nat} (hk : k < l.length) {x : Nat} :
    (takenN s l ^^^ maskN s (carOf s k) (l.getD k 0)).testBit x = true ↔ ∃ j, j < l.length ∧ j ≠ k ∧ x ∈ cells s j (l.getD j 0) := by
  rw [Nat.testBit_xor]
  constructor
  · intro h
    cases h1 : (takenN s l).testBit x with
    | true =>
      rw [h1] at h
      have h2 : (maskN s (carOf s k) (l.getD k 0)).testBit x = false := by simpa using h
      obtain ⟨j, hj, hx⟩ := taken_bit.mp h1
      refine ⟨j, hj, fun e => ?_, hx⟩
      subst e
      rw [mask_bit.mpr hx] at h2
      cases h2
    | false =>
      rw [h1] at h
      have h2 : (maskN s (carOf s k) (l.getD k 0)).testBit x = true := by simpa using h
      have := taken_bit.mpr ⟨k, hk, mask_bit.mp h2⟩
      rw [h1] at this
      cases this
  · rintro ⟨j, hj, ne, hx⟩
    have h1 := taken_bit.mpr ⟨j, hj, hx⟩
    have h2 : (maskN s (carOf s k) (l.getD k 0)).testBit x = false := by
      cases h : (maskN s (carOf s k) (l.getD k 0)).testBit x with
      | false => rfl
      | true => exact (meet_false.mp (legal_ne hl hj hk ne) x hx (mask_bit.mp h)).elim
    rw [h1, h2]
    rfl
theorem free_iff {s : St} {l : List Nat} (hl : legal s l = true) {k : Nat} (hk : k < l.length) {q : Nat} :
    maskN s (carOf s k) q &&& (takenN s l ^^^ maskN s (carOf s k) (l.getD k 0)) = 0 ↔ ∀ j, j < l.length → j ≠ k → meet (cells s k q) (cells s j (l.getD j 0)) = false := by
  rw [and_zero]
  constructor
  · intro h j hj ne
    exact meet_false.mpr fun x hx hy => h x ⟨mask_bit.mpr hx, (others_bit hl hk).mpr ⟨j, hj, ne, hy⟩⟩
  · rintro h x ⟨h1, h2⟩
    obtain ⟨j, hj, ne, hy⟩ := (others_bit hl hk).mp h2
    exact meet_false.mp (h j hj ne) x (mask_bit.mp h1) hy

/-! ### the ways of a car -/
/-- the places that a car can go to, rising -/
def waysOf (s : St) (l : List Nat) (k : Nat) : List Nat := (List.range 5).filter fun o => (moved s l k o).isSome
theorem mem_waysOf {s : St} (hs : Yd s) {l : List Nat} {k o : Nat} : o ∈ waysOf s l k ↔ Way s l k o := by
  unfold waysOf
  rw [List.mem_filter, List.mem_range]
  constructor
  · rintro ⟨_, h⟩
    obtain ⟨u, e⟩ := Option.isSome_iff_exists.mp h
    exact ((moved_iff (carOf_long hs k)).mp e).1
  · intro w
    refine ⟨place_lt hs w.2.2.1, ?_⟩
    rw [(moved_iff (carOf_long hs k)).mpr ⟨w, rfl⟩]
    rfl
theorem waysOf_up (s : St) (l : List Nat) (k : Nat) : (waysOf s l k).Pairwise (· < ·) := List.pairwise_lt_range.filter _
/-- from lo to hi, but not p -/
def spanN (lo p hi : Nat) : List Nat := List.range' lo (p - lo) ++ List.range' (p + 1) (hi - (p + 1))
theorem mem_spanN {lo p hi o : Nat} (h1 : lo ≤ p) (h2 : p < hi) : o ∈ spanN lo p hi ↔ (lo ≤ o ∧ o < hi ∧ o ≠ p) := by
  unfold spanN
  rw [List.mem_append, List.mem_range'_1, List.mem_range'_1]
  omega
theorem spanN_up {lo p hi : Nat} : (spanN lo p hi).Pairwise (· < ·) := by
  unfold spanN
  rw [List.pairwise_append]
  refine ⟨List.pairwise_lt_range', List.pairwise_lt_range', fun a ha b hb => ?_⟩
  rw [List.mem_range'_1] at ha hb
  omega
/-- **the ways, as the program finds them**: from its place as far as the cells are free, both ways -/
theorem ways_eq {s : St} (hs : Yd s) {l : List Nat} (hl : legal s l = true) {k : Nat} (hk : k < l.length) (hc : k < s.cars.length) {lo hi : Nat}
    (h1 : lo ≤ l.getD k 0) (h2 : l.getD k 0 < hi) (h3 : hi ≤ many s (carOf s k))
    (f1 : ∀ q, lo ≤ q → q < l.getD k 0 → maskN s (carOf s k) q &&& (takenN s l ^^^ maskN s (carOf s k) (l.getD k 0)) = 0)
    (f2 : ∀ q, l.getD k 0 < q → q < hi → maskN s (carOf s k) q &&& (takenN s l ^^^ maskN s (carOf s k) (l.getD k 0)) = 0)
    (e1 : lo = 0 ∨ ¬ maskN s (carOf s k) (lo - 1) &&& (takenN s l ^^^ maskN s (carOf s k) (l.getD k 0)) = 0)
    (e2 : hi = many s (carOf s k) ∨ ¬ maskN s (carOf s k) hi &&& (takenN s l ^^^ maskN s (carOf s k) (l.getD k 0)) = 0) :
    spanN lo (l.getD k 0) hi = waysOf s l k := by
  refine sorted_unique spanN_up (waysOf_up s l k) fun o => ?_
  rw [mem_spanN h1 h2, mem_waysOf hs]
  constructor
  · rintro ⟨a, b, c⟩
    refine ⟨hk, c, (lt_many hs hc).mp (by omega), fun q q1 q2 j hj ne => ?_⟩
    rcases Nat.lt_trichotomy q (l.getD k 0) with z | z | z
    · exact (free_iff hl hk).mp (f1 q (by omega) z) j hj ne
    · rw [z]; exact legal_ne hl hk hj (Ne.symm ne)
    · exact (free_iff hl hk).mp (f2 q z (by omega)) j hj ne
  · rintro ⟨_, c, b, w⟩
    have b' := (lt_many hs hc).mpr b
    refine ⟨?_, ?_, c⟩
    · rcases e1 with e | e
      · omega
      · rcases Nat.lt_or_ge o lo with z | z
        · exact (e ((free_iff hl hk).mpr fun j hj ne => w (lo - 1) (by omega) (by omega) j hj ne)).elim
        · exact z
    · rcases e2 with e | e
      · omega
      · rcases Nat.lt_or_ge o hi with z | z
        · exact z
        · exact (e ((free_iff hl hk).mpr fun j hj ne => w hi (by omega) (by omega) j hj ne)).elim

/-! ### all moves of an arrangement -/
def movesUp (s : St) (l : List Nat) (m : Nat) : List (Nat × Nat × List Nat) := (List.range m).flatMap fun k => (waysOf s l k).map fun o => (k, o, l.set k o)
def movesOf (s : St) (l : List Nat) : List (Nat × Nat × List Nat) := movesUp s l l.length
theorem movesUp_succ (s : St) (l : List Nat) (m : Nat) : movesUp s l (m + 1) = movesUp s l m ++ (waysOf s l m).map fun o => (m, o, l.set m o) := by
  unfold movesUp
  rw [List.range_succ, List.flatMap_append]
  simp
theorem movesOf_eq {s : St} (hs : Yd s) (l : List Nat) : movesOf s l = (moves l).filterMap fun x => (moved s l x.1 x.2).map fun u => (x.1, x.2, u) := by
  unfold movesOf movesUp moves
  rw [List.filterMap_flatMap]
  congr 1
  funext k
  unfold waysOf
  rw [List.filterMap_map]
  induction List.range 5 with
  | nil => rfl
  | cons o r ih =>
    rw [List.filter_cons, List.filterMap_cons]
    cases e : moved s l k o with
    | none =>
      rw [if_neg (by simp)]
      simp only [Function.comp_apply, e, Option.map_none]
      exact ih
    | some u =>
      rw [if_pos (show (some u).isSome = true from rfl), List.map_cons, ih, ← ((moved_iff (carOf_long hs k)).mp e).2]
      simp only [Function.comp_apply, e, Option.map_some]
theorem nexts_eq {s : St} (hs : Yd s) (l : List Nat) : nexts s l = (movesOf s l).map fun m => m.2.2 := by
  rw [movesOf_eq hs, List.map_filterMap]
  unfold nexts
  congr 1
  funext x
  cases moved s l x.1 x.2 <;> rfl
theorem mem_movesOf {s : St} (hs : Yd s) {l : List Nat} {m : Nat × Nat × List Nat} : m ∈ movesOf s l ↔ (Way s l m.1 m.2.1 ∧ m.2.2 = l.set m.1 m.2.1) := by
  unfold movesOf movesUp
  rw [List.mem_flatMap]
  constructor
  · rintro ⟨k, _, h⟩
    obtain ⟨o, ho, e⟩ := List.mem_map.mp h
    subst e
    exact ⟨(mem_waysOf hs).mp ho, rfl⟩
  · rintro ⟨w, e⟩
    exact ⟨m.1, List.mem_range.mpr w.1, List.mem_map.mpr ⟨m.2.1, (mem_waysOf hs).mpr w, by rw [← e]⟩⟩
theorem waysOf_len {s : St} {l : List Nat} {k : Nat} : (waysOf s l k).length ≤ 5 := by
  have := List.length_filter_le (fun o => (moved s l k o).isSome) (List.range 5)
  rw [List.length_range] at this
  exact this
theorem movesUp_len (s : St) (l : List Nat) : ∀ m, (movesUp s l m).length ≤ 5 * m
  | 0 => Nat.le_refl _
  | m + 1 => by
    rw [movesUp_succ, List.length_append, List.length_map]
    have := movesUp_len s l m
    have := waysOf_len (s := s) (l := l) (k := m)
    omega

/-! ### how many can come about -/
theorem nodup_len {A : Type} [DecidableEq A] : ∀ {l r : List A}, l.Nodup → (∀ k ∈ l, k ∈ r) → l.length ≤ r.length
  | [], _, _, _ => Nat.zero_le _
  | a :: l, r, hn, hs => by
    obtain ⟨h1, h2⟩ := List.nodup_cons.mp hn
    have ha := hs a (List.mem_cons_self ..)
    have ih := nodup_len (r := r.erase a) h2 fun k hk => (List.mem_erase_of_ne (a := k) (b := a) (fun z : k = a => h1 (z ▸ hk))).mpr (hs k (List.mem_cons_of_mem _ hk))
    rw [List.length_erase_of_mem ha] at ih
    have := List.length_pos_of_mem ha
    rw [List.length_cons]
    omega
theorem every_len : ∀ m, (every m).length = 5 ^ m
  | 0 => rfl
  | m + 1 => by
    show ((List.range 5).flatMap (fun (r : Nat) => (every m).map fun (l : List Nat) => r :: l)).length = _
    rw [List.length_flatMap]
    simp only [List.length_map, every_len m]
    rw [Nat.pow_succ]
    simp [List.range, List.range.loop]
    omega
theorem un_len {m : Nat} (hm : m ≤ 5) {V : List (List Nat)} (hn : V.Nodup) (hu : ∀ n ∈ V, Un m n) : V.length ≤ 3125 := by
  have h1 := nodup_len hn (r := every m) fun n h => mem_every.mpr (hu n h)
  rw [every_len] at h1
  have h2 : 5 ^ m ≤ 5 ^ 5 := Nat.pow_le_pow_right (by decide) hm
  have h3 : (5 : Nat) ^ 5 = 3125 := by decide
  omega
theorem can_len {s : St} (hs : Ok s) {V : List (List Nat)} (hn : V.Nodup) (hu : ∀ n ∈ V, Can s n) : V.length ≤ 3125 :=
  un_len hs.yd.cars hn fun n h => (hu n h).un hs
/-- what holds the one that is there, and all that is next to what it holds -/
theorem all_can {s : St} {V : List (List Nat)} (h0 : s.at_ ∈ V) (hc : ∀ n ∈ V, ∀ u ∈ nexts s n, u ∈ V) {n : List Nat} (h : Can s n) : n ∈ V := by
  obtain ⟨k, w⟩ := h
  induction k generalizing n with
  | zero =>
    have : n = s.at_ := w
    rw [this]; exact h0
  | succ k ih =>
    obtain ⟨p, hp, hn⟩ := w
    exact hc p (ih hp) n hn

/-! ### how many arrangements there are -/
/-- the arrangements of the first cars -/
def arrUp (s : St) : Nat → List (List Nat)
  | 0 => [[]]
  | i + 1 => (arrUp s i).flatMap fun l => ((List.range (many s (carOf s i))).filter fun o => decide (maskN s (carOf s i) o &&& takenN s l = 0)).map fun o => l ++ [o]
theorem arrUp_len {s : St} : ∀ {i : Nat} {l : List Nat}, l ∈ arrUp s i → l.length = i
  | 0, l, h => by rw [List.mem_singleton.mp h]; rfl
  | i + 1, l, h => by
    obtain ⟨p, hp, h⟩ := List.mem_flatMap.mp h
    obtain ⟨o, _, e⟩ := List.mem_map.mp h
    rw [← e, List.length_append, arrUp_len hp]
    rfl
theorem getD_snoc {l : List Nat} {o i : Nat} : (l ++ [o]).getD i 0 = if i = l.length then o else l.getD i 0 := by
  rw [List.getD_eq_getElem?_getD, List.getD_eq_getElem?_getD]
  rcases Nat.lt_trichotomy i l.length with h | h | h
  · rw [List.getElem?_append_left h, if_neg (by omega)]
  · subst h
    rw [List.getElem?_append_right (Nat.le_refl _), if_pos rfl]
    simp
  · rw [List.getElem?_append_right (by omega), if_neg (by omega), List.getElem?_eq_none (by rw [List.length_singleton]; omega), List.getElem?_eq_none (by omega)]
theorem taken_snoc (s : St) (l : List Nat) (o : Nat) : takenN s (l ++ [o]) = takenN s l ||| maskN s (carOf s l.length) o := by
  have e : ∀ m, m ≤ l.length → takenUp s (l ++ [o]) m = takenUp s l m := by
    intro m
    induction m with
    | zero => intro _; rfl
    | succ m ih =>
      intro h
      rw [takenUp_succ, takenUp_succ, ih (by omega), getD_snoc, if_neg (by omega)]
  rw [← takenUp_all, List.length_append]
  show takenUp s (l ++ [o]) (l.length + 1) = _
  rw [takenUp_succ, e _ (Nat.le_refl _), takenUp_all, getD_snoc, if_pos rfl]
theorem legal_snoc {s : St} {l : List Nat} {o : Nat} : legal s (l ++ [o]) = true ↔ (legal s l = true ∧ o + (carOf s l.length).long ≤ lineLong s (carOf s l.length) ∧ maskN s (carOf s l.length) o &&& takenN s l = 0) := by
  rw [legal_iff, legal_iff, and_zero]
  have ln : (l ++ [o]).length = l.length + 1 := by simp
  have at1 : ∀ i, i < l.length → (l ++ [o]).getD i 0 = l.getD i 0 := fun i hi => by rw [getD_snoc, if_neg (by omega)]
  have at2 : (l ++ [o]).getD l.length 0 = o := by rw [getD_snoc, if_pos rfl]
  constructor
  · rintro ⟨h1, h2⟩
    refine ⟨⟨fun i hi => ?_, fun i j hi hj => ?_⟩, ?_, ?_⟩
    · have := h1 i (by omega)
      rw [at1 i hi] at this
      exact this
    · have := h2 i j (by omega) hj
      rw [at1 i hi, at1 j (by omega)] at this
      exact this
    · have := h1 l.length (by omega)
      rw [at2] at this
      exact this
    · rintro x ⟨hx, hy⟩
      obtain ⟨j, hj, hy⟩ := taken_bit.mp hy
      have := h2 l.length j (by omega) hj
      rw [at2, at1 j hj] at this
      exact meet_false.mp this x (mask_bit.mp hx) hy
  · rintro ⟨⟨h1, h2⟩, h3, h4⟩
    refine ⟨fun i hi => ?_, fun i j hi hj => ?_⟩
    · rcases Nat.lt_or_ge i l.length with z | z
      · rw [at1 i z]; exact h1 i z
      · have e : i = l.length := by omega
        subst e
        rw [at2]; exact h3
    · rcases Nat.lt_or_ge i l.length with z | z
      · rw [at1 i z, at1 j (by omega)]; exact h2 i j z hj
      · have e : i = l.length := by omega
        subst e
        rw [at2, at1 j hj]
        exact meet_false.mpr fun x hx hy => h4 x ⟨mask_bit.mpr hx, taken_bit.mpr ⟨j, hj, hy⟩⟩
theorem mem_arrUp {s : St} (hs : Yd s) : ∀ {i : Nat}, i ≤ s.cars.length → ∀ {l : List Nat}, l ∈ arrUp s i ↔ (l.length = i ∧ legal s l = true)
  | 0, _, l => by
    show l ∈ [[]] ↔ _
    rw [List.mem_singleton]
    constructor
    · intro e; subst e; exact ⟨rfl, rfl⟩
    · intro h; exact List.length_eq_zero_iff.mp h.1
  | i + 1, hi, l => by
    show l ∈ List.flatMap _ _ ↔ _
    rw [List.mem_flatMap]
    constructor
    · rintro ⟨p, hp, h⟩
      obtain ⟨hl, hg⟩ := (mem_arrUp hs (by omega)).mp hp
      obtain ⟨o, ho, e⟩ := List.mem_map.mp h
      obtain ⟨h1, h2⟩ := List.mem_filter.mp ho
      subst e hl
      refine ⟨by simp, legal_snoc.mpr ⟨hg, (lt_many hs (by omega)).mp (List.mem_range.mp h1), of_decide_eq_true h2⟩⟩
    · rintro ⟨hl, hg⟩
      have hne : l ≠ [] := fun e => by rw [e] at hl; cases hl
      have e := List.dropLast_concat_getLast hne
      rw [← e] at hg
      obtain ⟨g1, g2, g3⟩ := legal_snoc.mp hg
      have dl : l.dropLast.length = i := by rw [List.length_dropLast, hl]; rfl
      rw [dl] at g2 g3
      refine ⟨l.dropLast, (mem_arrUp hs (by omega)).mpr ⟨dl, g1⟩, List.mem_map.mpr ⟨l.getLast hne, List.mem_filter.mpr ⟨List.mem_range.mpr ((lt_many hs (by omega)).mpr g2), decide_eq_true g3⟩, e⟩⟩
theorem arrUp_nodup (s : St) : ∀ i, (arrUp s i).Nodup
  | 0 => by show [[]].Nodup; simp
  | i + 1 => by
    show (List.flatMap _ _).Nodup
    refine nodup_flat (arrUp_nodup s i) (fun l _ => nodup_map (fun a b e => ?_) (List.nodup_range.filter _)) fun a ha b hb x hx hy => ?_
    · simpa using e
    · obtain ⟨o, _, e⟩ := List.mem_map.mp hx
      obtain ⟨q, _, e2⟩ := List.mem_map.mp hy
      have := e.trans e2.symm
      exact (List.append_inj this ((arrUp_len ha).trans (arrUp_len hb).symm)).1
/-- **all arrangements are counted** -/
theorem arr_count {s : St} (hs : Ok s) : (arrUp s s.cars.length).length = (arrangements s).length := by
  refine length_eq (arrUp_nodup s _) (arrangements_nodup s) fun l => ?_
  rw [mem_arrUp hs.yd (Nat.le_refl _), mem_arrangements hs.yd, hs.len]
theorem arrUp_few {s : St} (hs : Yd s) {i : Nat} (hi : i ≤ s.cars.length) : (arrUp s i).length ≤ 3125 := by
  have := hs.cars
  refine un_len (m := i) (by omega) (arrUp_nodup s i) fun n h => ?_
  obtain ⟨h1, h2⟩ := (mem_arrUp hs hi).mp h
  have := legal_un hs h2
  rw [h1] at this
  exact this
end Cy

/-! What the program reckons of how many moves are needed, in plain Lean: layer by layer; the plan; the hardest. -/
namespace Cy
open Sy66

/-! ### a layer -/
abbrev Nd := List (List Nat × Nat)
/-- an arrangement is met: it gets its number, if it has none -/
def meet1 (made : Nat) (x : Nd × List (List Nat)) (n : List Nat) : Nd × List (List Nat) := if n ∈ x.1.map (·.1) then x else (x.1 ++ [(n, made)], x.2 ++ [n])
def metAll (made : Nat) (x : Nd × List (List Nat)) (A : List (List Nat)) : Nd × List (List Nat) := A.foldl (meet1 made) x
theorem meet1_old {made x n} (h : n ∈ x.1.map (·.1)) : meet1 made x n = x := if_pos h
theorem meet1_new {made x n} (h : n ∉ x.1.map (·.1)) : meet1 made x n = (x.1 ++ [(n, made)], x.2 ++ [n]) := if_neg h
theorem metAll_keys {made : Nat} : ∀ (A : List (List Nat)) (x : Nd × List (List Nat)) (n : List Nat), n ∈ (metAll made x A).1.map (·.1) ↔ (n ∈ x.1.map (·.1) ∨ n ∈ A)
  | [], x, n => by simp [metAll]
  | a :: A, x, n => by
    show n ∈ (metAll made (meet1 made x a) A).1.map (·.1) ↔ _
    rw [metAll_keys A]
    by_cases h : a ∈ x.1.map (·.1)
    · rw [meet1_old h, List.mem_cons]
      constructor
      · rintro (q | q)
        · exact .inl q
        · exact .inr (.inr q)
      · rintro (q | rfl | q)
        · exact .inl q
        · exact .inl h
        · exact .inr q
    · rw [meet1_new h, List.mem_cons, List.map_append, List.mem_append]
      constructor
      · rintro ((q | q) | q)
        · exact .inl q
        · exact .inr (.inl (by simpa using q))
        · exact .inr (.inr q)
      · rintro (q | rfl | q)
        · exact .inl (.inl q)
        · exact .inl (.inr (by simp))
        · exact .inr q
theorem metAll_nodup {made : Nat} : ∀ (A : List (List Nat)) (x : Nd × List (List Nat)), (x.1.map (·.1)).Nodup → ((metAll made x A).1.map (·.1)).Nodup
  | [], x, h => h
  | a :: A, x, h => by
    show ((metAll made (meet1 made x a) A).1.map (·.1)).Nodup
    refine metAll_nodup A _ ?_
    by_cases q : a ∈ x.1.map (·.1)
    · rw [meet1_old q]; exact h
    · rw [meet1_new q, List.map_append, List.nodup_append]
      refine ⟨h, by simp, fun b hb c hc e => ?_⟩
      have : c = a := by simpa using hc
      exact q (this ▸ e ▸ hb)
theorem metAll_mem {made : Nat} : ∀ (A : List (List Nat)) (x : Nd × List (List Nat)) (n : List Nat) (k : Nat), (n, k) ∈ (metAll made x A).1 ↔ ((n, k) ∈ x.1 ∨ (k = made ∧ n ∈ A ∧ n ∉ x.1.map (·.1)))
  | [], x, n, k => by simp [metAll]
  | a :: A, x, n, k => by
    show (n, k) ∈ (metAll made (meet1 made x a) A).1 ↔ _
    rw [metAll_mem A]
    by_cases h : a ∈ x.1.map (·.1)
    · rw [meet1_old h, List.mem_cons]
      constructor
      · rintro (q | ⟨q1, q2, q3⟩)
        · exact .inl q
        · exact .inr ⟨q1, .inr q2, q3⟩
      · rintro (q | ⟨q1, rfl | q2, q3⟩)
        · exact .inl q
        · exact (q3 h).elim
        · exact .inr ⟨q1, q2, q3⟩
    · rw [meet1_new h, List.mem_cons, List.map_append]
      simp only [List.mem_append, List.mem_singleton, List.map_cons, List.map_nil, Prod.mk.injEq]
      constructor
      · rintro ((q | ⟨rfl, rfl⟩) | ⟨q1, q2, q3⟩)
        · exact .inl q
        · exact .inr ⟨rfl, .inl rfl, h⟩
        · exact .inr ⟨q1, .inr q2, fun z => q3 (.inl z)⟩
      · rintro (q | ⟨q1, rfl | q2, q3⟩)
        · exact .inl (.inl q)
        · exact .inl (.inr ⟨rfl, q1⟩)
        · by_cases e : n = a
          · exact .inl (.inr ⟨e, q1⟩)
          · refine .inr ⟨q1, q2, ?_⟩
            rintro (z | z)
            · exact q3 z
            · exact e z
theorem metAll_new {made : Nat} : ∀ (A : List (List Nat)) (x : Nd × List (List Nat)) (n : List Nat), n ∈ (metAll made x A).2 ↔ (n ∈ x.2 ∨ (n ∈ A ∧ n ∉ x.1.map (·.1)))
  | [], x, n => by simp [metAll]
  | a :: A, x, n => by
    show n ∈ (metAll made (meet1 made x a) A).2 ↔ _
    rw [metAll_new A]
    by_cases h : a ∈ x.1.map (·.1)
    · rw [meet1_old h, List.mem_cons]
      constructor
      · rintro (q | ⟨q2, q3⟩)
        · exact .inl q
        · exact .inr ⟨.inr q2, q3⟩
      · rintro (q | ⟨rfl | q2, q3⟩)
        · exact .inl q
        · exact (q3 h).elim
        · exact .inr ⟨q2, q3⟩
    · rw [meet1_new h, List.mem_cons, List.map_append]
      simp only [List.mem_append, List.mem_singleton, List.map_cons, List.map_nil]
      constructor
      · rintro ((q | rfl) | ⟨q2, q3⟩)
        · exact .inl q
        · exact .inr ⟨.inl rfl, h⟩
        · exact .inr ⟨.inr q2, fun z => q3 (.inl z)⟩
      · rintro (q | ⟨rfl | q2, q3⟩)
        · exact .inl (.inl q)
        · exact .inl (.inr rfl)
        · by_cases e : n = a
          · exact .inl (.inr e)
          · refine .inr ⟨q2, ?_⟩
            rintro (z | z)
            · exact q3 z
            · exact e z
theorem metAll_append {made : Nat} (x : Nd × List (List Nat)) (A B : List (List Nat)) : metAll made x (A ++ B) = metAll made (metAll made x A) B := List.foldl_append ..
theorem metAll_len {made : Nat} : ∀ (A : List (List Nat)) (x : Nd × List (List Nat)), (metAll made x A).1.length + x.2.length = x.1.length + (metAll made x A).2.length
  | [], x => rfl
  | a :: A, x => by
    show (metAll made (meet1 made x a) A).1.length + _ = _ + (metAll made (meet1 made x a) A).2.length
    have ih := metAll_len (made := made) A (meet1 made x a)
    by_cases h : a ∈ x.1.map (·.1)
    · rw [meet1_old h] at ih ⊢
      exact ih
    · rw [meet1_new h] at ih ⊢
      simp only [List.length_append, List.length_singleton] at ih
      omega

/-- the numbers of all that are d moves away at the most -/
structure Upto (nx : List Nat → List (List Nat)) (src : List Nat → Prop) (d : Nat) (nd : Nd) : Prop where
  nodup : (nd.map (·.1)).Nodup
  mem : ∀ n k, (n, k) ∈ nd ↔ (k ≤ d ∧ Dk nx src k n)
theorem Upto.key {nx src d nd} (h : Upto nx src d nd) {n : List Nat} : n ∈ nd.map (·.1) ↔ ∃ k, k ≤ d ∧ Dk nx src k n := by
  rw [List.mem_map]
  constructor
  · rintro ⟨⟨m, k⟩, hm, rfl⟩
    exact ⟨k, (h.mem m k).mp hm⟩
  · rintro ⟨k, hk⟩
    exact ⟨(n, k), (h.mem n k).mpr hk, rfl⟩
/-- **one layer further** -/
theorem Upto.next {nx src d nd} {layer A : List (List Nat)} (h : Upto nx src d nd) (hl : ∀ n, n ∈ layer ↔ Dk nx src d n) (hA : ∀ n, n ∈ A ↔ ∃ p, p ∈ layer ∧ n ∈ nx p) :
    Upto nx src (d + 1) (metAll (d + 1) (nd, []) A).1 ∧ ∀ n, n ∈ (metAll (d + 1) (nd, []) A).2 ↔ Dk nx src (d + 1) n := by
  have key : ∀ n, (n ∈ A ∧ n ∉ nd.map (·.1)) ↔ Dk nx src (d + 1) n := by
    intro n
    rw [hA, h.key]
    constructor
    · rintro ⟨⟨p, hp, hn⟩, no⟩
      have r : Rk nx src (d + 1) n := ⟨p, ((hl p).mp hp).1, hn⟩
      obtain ⟨j, hj, hd⟩ := r.least
      rcases Nat.lt_or_ge d j with q | q
      · have e : j = d + 1 := by omega
        exact e ▸ hd
      · exact (no ⟨j, q, hd⟩).elim
    · intro hd
      obtain ⟨p, hp, hn⟩ := hd.pred
      refine ⟨⟨p, (hl p).mpr hp, hn⟩, ?_⟩
      rintro ⟨k, hk, hk2⟩
      have := hd.unique hk2
      omega
  refine ⟨⟨metAll_nodup _ _ h.nodup, fun n k => ?_⟩, fun n => ?_⟩
  · rw [metAll_mem]
    show ((n, k) ∈ nd ∨ (k = d + 1 ∧ n ∈ A ∧ n ∉ nd.map (·.1))) ↔ _
    rw [h.mem, key]
    constructor
    · rintro (⟨q1, q2⟩ | ⟨rfl, q⟩)
      · exact ⟨by omega, q2⟩
      · exact ⟨Nat.le_refl _, q⟩
    · rintro ⟨q1, q2⟩
      rcases Nat.lt_or_ge d k with q | q
      · have e : k = d + 1 := by omega
        exact .inr ⟨e, e ▸ q2⟩
      · exact .inl ⟨q, q2⟩
  · rw [metAll_new]
    show (n ∈ [] ∨ (n ∈ A ∧ n ∉ nd.map (·.1))) ↔ _
    rw [key]
    simp
/-- behind the last layer -/
theorem Upto.all {nx src d nd} (h : Upto nx src d nd) (hl : ∀ n, ¬ Dk nx src (d + 1) n) (n : List Nat) (k : Nat) : (n, k) ∈ nd ↔ Dk nx src k n := by
  have far : ∀ j n, ¬ Dk nx src (d + 1 + j) n := by
    intro j
    induction j with
    | zero => exact hl
    | succ j ih => intro n hn; obtain ⟨p, hp, _⟩ := Dk.pred hn; exact ih p hp
  rw [h.mem]
  constructor
  · exact fun q => q.2
  · intro q
    refine ⟨?_, q⟩
    rcases Nat.lt_or_ge d k with z | z
    · have e : k = d + 1 + (k - (d + 1)) := by omega
      rw [e] at q
      exact (far _ n q).elim
    · exact z

/-! ### what is needed from each -/
/-- the numbers as they should be: of all that can come about, if any that is wanted can -/
structure Needs (s : St) (nd : Nd) : Prop where
  nodup : (nd.map (·.1)).Nodup
  mem : ∀ n k, (n, k) ∈ nd ↔ (Can s n ∧ Need s k n)
theorem Needs.of {s : St} (hs : Ok s) {nd : Nd} (h1 : (nd.map (·.1)).Nodup) (h2 : ∀ n k, (n, k) ∈ nd ↔ Dk (nexts s) (fun n => n ∈ (reach s).filter (done s)) k n) : Needs s nd :=
  ⟨h1, fun n k => (h2 n k).trans (ends_dk hs)⟩
theorem Needs.at {s : St} {nd : Nd} (h : Needs s nd) {n : List Nat} {k : Nat} (hm : (n, k) ∈ nd) : Need s k n := ((h.mem n k).mp hm).2
theorem Needs.empty {s : St} {nd : Nd} (h : Needs s nd) : nd = [] ↔ ∀ g, Can s g → done s g = false := by
  constructor
  · intro e g cg
    cases d : done s g with
    | false => rfl
    | true =>
      have := (h.mem g 0).mpr ⟨cg, Need.zero.mpr d⟩
      rw [e] at this
      cases this
  · intro hn
    cases nd with
    | nil => rfl
    | cons a r =>
      obtain ⟨ca, ⟨g, hg, w⟩, _⟩ := (h.mem a.1 a.2).mp (List.mem_cons_self ..)
      rw [hn g (ca.walk w)] at hg
      cases hg
theorem Needs.some {s : St} (hs : Ok s) {nd : Nd} (h : Needs s nd) (hne : nd ≠ []) {n : List Nat} (cn : Can s n) : ∃ k, (n, k) ∈ nd ∧ Need s k n := by
  cases nd with
  | nil => exact (hne rfl).elim
  | cons a r =>
    obtain ⟨ca, ⟨g, hg, w⟩, _⟩ := (h.mem a.1 a.2).mp (List.mem_cons_self ..)
    obtain ⟨k, hk⟩ := need_all hs (ca.walk w) hg cn
    exact ⟨k, (h.mem n k).mpr ⟨cn, hk⟩, hk⟩

/-! ### the plan -/
/-- the number that stands beside an arrangement -/
def numOf (nd : Nd) (n : List Nat) : Nat := ((nd.find? fun p => decide (p.1 = n)).map (·.2)).getD 0
theorem find_num : ∀ {nd : Nd} {n : List Nat} {k : Nat}, (nd.map (·.1)).Nodup → (n, k) ∈ nd → nd.find? (fun p => decide (p.1 = n)) = some (n, k)
  | [], _, _, _, h => by cases h
  | p :: nd, n, k, hn, h => by
    obtain ⟨h1, h2⟩ := List.nodup_cons.mp hn
    rw [List.find?_cons]
    rcases List.mem_cons.mp h with e | h
    · subst e
      simp
    · have ne : ¬ p.1 = n := fun e => h1 (List.mem_map.mpr ⟨(n, k), h, e.symm⟩)
      simp only [ne, decide_false]
      exact find_num h2 h
theorem Needs.num {s : St} {nd : Nd} (h : Needs s nd) {n : List Nat} {k : Nat} (hm : (n, k) ∈ nd) : numOf nd n = k := by
  unfold numOf
  rw [find_num h.nodup hm]
  rfl
/-- the first move that comes nearer -/
def nearer (s : St) (nd : Nd) (n : List Nat) : Option (Nat × Nat × List Nat) := (movesOf s n).find? fun m => decide (numOf nd m.2.2 < numOf nd n)
theorem nearer_none {s : St} {nd : Nd} (h : Needs s nd) {n : List Nat} (cn : Can s n) (hn : Need s 0 n) : nearer s nd n = none := by
  unfold nearer
  rw [List.find?_eq_none]
  intro m _ q
  have q := of_decide_eq_true q
  rw [h.num ((h.mem n 0).mpr ⟨cn, hn⟩)] at q
  omega
theorem nearer_some {s : St} (hs : Ok s) {nd : Nd} (h : Needs s nd) {n : List Nat} (cn : Can s n) {k : Nat} (hn : Need s (k + 1) n) :
    ∃ x u, nearer s nd n = some (x.1, x.2, u) ∧ Can s u ∧ Need s k u ∧ Sy66.plan s (ends s) (k + 1) n = x :: Sy66.plan s (ends s) k u := by
  obtain ⟨x, hx, u, hm, hu, nu, hp⟩ := plan_succ hs cn hn
  refine ⟨x, u, ?_, cn.next hu, nu, hp⟩
  unfold nearer
  have hno : numOf nd n = k + 1 := h.num ((h.mem n (k + 1)).mpr ⟨cn, hn⟩)
  have hne : nd ≠ [] := fun e => by
    have := (h.mem n (k + 1)).mpr ⟨cn, hn⟩
    rw [e] at this
    cases this
  have test : ∀ y ∈ moves n, ((moved s n y.1 y.2).map fun u => (y.1, y.2, u)).any (fun m => decide (numOf nd m.2.2 < numOf nd n)) = (moved s n y.1 y.2).any fun u => distance (ends s) u == some k := by
    intro y _
    cases e : moved s n y.1 y.2 with
    | none => rfl
    | some v =>
      show decide (numOf nd v < numOf nd n) = (distance (ends s) v == some k)
      have hv : v ∈ nexts s n := (mem_nexts hs.yd).mpr ⟨y.1, y.2, (moved_iff (carOf_long hs.yd y.1)).mp e⟩
      obtain ⟨i, i1, i2⟩ := h.some hs hne (cn.next hv)
      rw [Bool.eq_iff_iff, decide_eq_true_eq, beq_iff_eq, dist_some hs (cn.next hv), hno, h.num i1]
      constructor
      · intro q
        have := hn.near hv i2
        have e2 : i = k := by omega
        exact e2 ▸ i2
      · intro q
        have := q.unique i2
        omega
  rw [movesOf_eq hs.yd, List.find?_filterMap]
  have e : (moves n).find? (fun a => ((moved s n a.1 a.2).map fun u => (a.1, a.2, u)).any fun m => decide (numOf nd m.2.2 < numOf nd n)) = some x := by
    rw [← hx]
    have gen : ∀ l : List (Nat × Nat), (∀ y ∈ l, y ∈ moves n) → l.find? (fun a => ((moved s n a.1 a.2).map fun u => (a.1, a.2, u)).any fun m => decide (numOf nd m.2.2 < numOf nd n)) = l.find? fun x => (moved s n x.1 x.2).any fun u => distance (ends s) u == some k := by
      intro l hl
      induction l with
      | nil => rfl
      | cons y l ih =>
        rw [List.find?_cons, List.find?_cons, test y (hl y (List.mem_cons_self ..)), ih fun z hz => hl z (List.mem_cons_of_mem _ hz)]
    exact gen _ fun y hy => hy
  rw [e]
  show (moved s n x.1 x.2).map _ = _
  rw [hm]
  rfl

/-! ### the hardest -/
/-- the greatest number, and those that need it -/
theorem hardest_is {s : St} (hs : Ok s) {nd : Nd} (h : Needs s nd) (hne : nd ≠ []) {most : Nat} (hm : most ∈ nd.map (·.2)) (hle : ∀ k ∈ nd.map (·.2), k ≤ most) :
    ∃ l, (ends s).getLast? = some l ∧ (ends s).length - 1 = most ∧ l.length = ((nd.filter fun p => decide (p.2 = most)).map (·.1)).length ∧ first l = first ((nd.filter fun p => decide (p.2 = most)).map (·.1)) := by
  cases e : (ends s).getLast? with
  | none => exact (hne (h.empty.mpr ((hardest_none hs).mp e))).elim
  | some l =>
    obtain ⟨h1, h2, h3, h4⟩ := hardest_some hs e
    have em : (ends s).length - 1 = most := by
      obtain ⟨n, hn⟩ := List.exists_mem_of_ne_nil _ h3
      obtain ⟨cn, dn⟩ := (h1 n).mp hn
      have a1 := hle _ (List.mem_map.mpr ⟨(n, _), (h.mem n _).mpr ⟨cn, dn⟩, rfl⟩)
      obtain ⟨⟨p, k⟩, hp, rfl⟩ := List.mem_map.mp hm
      obtain ⟨cp, dp⟩ := (h.mem p k).mp hp
      obtain ⟨j, hj, dj⟩ := h4 p cp
      have := dp.unique dj
      show _ = k
      have a1' : (ends s).length - 1 ≤ k := a1
      omega
    have same : ∀ n, n ∈ l ↔ n ∈ (nd.filter fun p => decide (p.2 = most)).map (·.1) := by
      intro n
      rw [h1, em, List.mem_map]
      constructor
      · rintro ⟨a, b⟩
        exact ⟨(n, most), List.mem_filter.mpr ⟨(h.mem n most).mpr ⟨a, b⟩, by simp⟩, rfl⟩
      · rintro ⟨⟨p, k⟩, hp, rfl⟩
        obtain ⟨q1, q2⟩ := List.mem_filter.mp hp
        have : k = most := by simpa using q2
        subst this
        exact (h.mem p k).mp q1
    have nd2 : ((nd.filter fun p => decide (p.2 = most)).map (·.1)).Nodup := h.nodup.sublist ((List.filter_sublist).map _)
    refine ⟨l, rfl, em, length_eq h2 nd2 same, ?_⟩
    have len : ∀ x ∈ l, x.length = s.cars.length := fun x hx => ((h1 x).mp hx).1.length hs
    have hne2 : (nd.filter fun p => decide (p.2 = most)).map (·.1) ≠ [] := by
      obtain ⟨n, hn⟩ := List.exists_mem_of_ne_nil _ h3
      intro z
      have := (same n).mp hn
      rw [z] at this
      cases this
    obtain ⟨f1, f2⟩ := first_spec hne2 (fun x hx => len x ((same x).mpr hx))
    exact first_unique h3 len ((same _).mpr f1) fun x hx => f2 x ((same x).mp hx)
end Cy

set_option Elab.async false
set_option maxRecDepth 100000
set_option maxHeartbeats 2000000
/-! How what the program holds lies in the heap; the names of the text. -/
namespace Cy
open PySem PySem.Spec PyProof.Rows L2
open Cr (nums)
open Sy66 (Car carOf done reach ends moved nexts legal)
abbrev St := Sy66.St

/-- the i-th statement of the text -/
def top (i : Nat) : Stmt := PySem.Challenge.pw_caryard_s01_answers.main.body.getD i (.Pass ⟨0, 0, 0, 0⟩)
abbrev sInit : Stmt := inClass (top 1) 0
abbrev sBegin : Stmt := inClass (top 1) 1
abbrev sTakeIn : Stmt := inClass (top 1) 2
abbrev sManyLines : Stmt := inClass (top 1) 3
abbrev sLineCells : Stmt := inClass (top 1) 4
abbrev sNewTrack : Stmt := inClass (top 1) 5
abbrev sTaken : Stmt := top 2
abbrev sWith : Stmt := top 3
abbrev sWays : Stmt := top 5
abbrev sMovesAt : Stmt := top 6
abbrev sMovesBy : Stmt := top 7
abbrev sCount : Stmt := top 8
abbrev sWanted : Stmt := top 9
abbrev sLayer : Stmt := top 10
abbrev sNeeded : Stmt := top 11
abbrev sNearer : Stmt := top 12
abbrev sPlan : Stmt := top 13
abbrev sRefused : Stmt := top 23
abbrev sListed : Stmt := top 24
abbrev sBeginC : Stmt := top 25
abbrev sFits : Stmt := top 26
abbrev sAddCar : Stmt := top 27
abbrev sMoveCar : Stmt := top 28
abbrev sWantCar : Stmt := top 29
abbrev sFreeCar : Stmt := top 30
abbrev sAbout : Stmt := top 31
abbrev sNeedAbout : Stmt := top 32
abbrev sFewest : Stmt := top 33
abbrev sTellPlan : Stmt := top 34
abbrev sReach : Stmt := top 35
abbrev sPlaces : Stmt := top 36
abbrev sHardest : Stmt := top 37
abbrev sState : Stmt := top 38
abbrev sAnswer : Stmt := top 51
abbrev sAnswers : Stmt := top 52

/-- what stands behind the top -/
structure Txt (K : PySem.W.Frag) (mg : Str → Option Value) (C : Addr) : Prop where
  cl : Cls K C
  nR : NoAttr K C "rows"
  nCo : NoAttr K C "columns"
  nCa : NoAttr K C "cars"
  nT : NoAttr K C "tracks"
  nP : NoAttr K C "places"
  nW : NoAttr K C "wanted"
  nM : NoAttr K C "moves_made"
  nK : NoAttr K C "known_moves"
  len : mg "len" = none
  list : mg "list" = none
  range : mg "range" = none
  enum : mg "enumerate" = none
  sort : mg "sorted" = none
  set : mg "set" = none
  max : mg "max" = none
  min : mg "min" = none
  c1 : ∃ t, mg "NOT_IN_RANGE" = some (.int 1 t)
  c2 : ∃ t, mg "NO_SUCH_CAR" = some (.int 2 t)
  c3 : ∃ t, mg "NO_MORE_CARS" = some (.int 5 t)
  c4 : ∃ t, mg "CANNOT_BE" = some (.int 6 t)
  c5 : ∃ t, mg "MOST_LINES" = some (.int 5 t)
  c6 : ∃ t, mg "MOST_CARS" = some (.int 5 t)
  c7 : ∃ t, mg "LEAST_LENGTH" = some (.int 2 t)
  c8 : ∃ t, mg "MOST_LENGTH" = some (.int 5 t)
  d0 : ∃ t, mg "BEGINS" = some (.int 0 t)
  d1 : ∃ t, mg "CAR" = some (.int 1 t)
  d2 : ∃ t, mg "MOVE" = some (.int 2 t)
  d3 : ∃ t, mg "WANT" = some (.int 3 t)
  d4 : ∃ t, mg "FREE" = some (.int 4 t)
  d5 : ∃ t, mg "FEWEST" = some (.int 5 t)
  d6 : ∃ t, mg "PLAN" = some (.int 6 t)
  d7 : ∃ t, mg "REACH" = some (.int 7 t)
  d8 : ∃ t, mg "PLACES" = some (.int 8 t)
  d9 : ∃ t, mg "HARDEST" = some (.int 9 t)
  nb : ∃ a, mg "NUMBERS_BEHIND" = some (.ref a) ∧ ∀ H, SqT K H a (nums [2, 4, 2, 2, 1, 0, 0, 0, 1, 0, 0])

/-! ### words for heaps -/
theorem nums_len (n : List Nat) : (nums n).length = n.length := List.length_map ..
theorem nums_at {n : List Nat} {i x : Nat} (h : n[i]? = some x) : (nums n)[i]? = some (.int (x : Int)) := by
  show (n.map _)[i]? = _
  rw [List.getElem?_map, h]
  rfl
theorem nums_getD {n : List Nat} {i : Nat} (h : i < n.length) : (nums n)[i]? = some (.int ((n.getD i 0 : Nat) : Int)) := by
  refine nums_at ?_
  rw [List.getD_eq_getElem?_getD, List.getElem?_eq_getElem h]
  rfl
theorem nums_app (a b : List Nat) : nums (a ++ b) = nums a ++ nums b := List.map_append ..
theorem nums_flat (n : List Nat) : (nums n).all flatV = true := by
  rw [List.all_eq_true]
  intro x hx
  obtain ⟨k, _, rfl⟩ := List.mem_map.mp hx
  rfl
theorem nums_set (n : List Nat) (k o : Nat) : nums (n.set k o) = (nums n).set k (.int (o : Int)) := List.map_set ..
/-- an arrangement as a key -/
def keyN (n : List Nat) : List Key := n.map fun x : Nat => Sum.inl (x : Int)
theorem key_nums (n : List Nat) : (keyN n).map kV = nums n := by
  unfold keyN
  rw [List.map_map]
  rfl
theorem keyN_inj : ∀ {a b : List Nat}, keyN a = keyN b → a = b
  | [], [], _ => rfl
  | [], _ :: _, h => by cases h
  | _ :: _, [], h => by cases h
  | x :: a, y :: b, h => by
    obtain ⟨h1, h2⟩ := List.cons.inj h
    rw [Int.ofNat.inj (Sum.inl.inj h1), keyN_inj h2]
theorem pair_right {α β : Type} {R : α → β → Prop} {xs : List α} {ys : List β} (h : Paired R xs ys) : ∀ {i : Nat} {y : β}, ys[i]? = some y → ∃ x, xs[i]? = some x ∧ R x y := by
  induction h with
  | nil => intro i y e; simp at e
  | @cons a b as bs r _ ih =>
    intro i y e
    cases i with
    | zero =>
      simp only [List.getElem?_cons_zero, Option.some.injEq] at e
      exact ⟨a, rfl, e ▸ r⟩
    | succ j =>
      simp only [List.getElem?_cons_succ] at e ⊢
      exact ih e
theorem pair_imp {α β : Type} {R S : α → β → Prop} {xs : List α} {ys : List β} (h : Paired R xs ys) (f : ∀ a b, R a b → S a b) : Paired S xs ys := Paired.mapP h f
theorem pair_app {α β : Type} {R : α → β → Prop} : ∀ {xs xs' : List α} {ys ys' : List β}, Paired R xs ys → Paired R xs' ys' → Paired R (xs ++ xs') (ys ++ ys')
  | _, _, _, _, .nil, h => h
  | _, _, _, _, .cons r t, h => .cons r (pair_app t h)
theorem pair_snoc {α β : Type} {R : α → β → Prop} {xs : List α} {ys : List β} {x : α} {y : β} (h : Paired R xs ys) (r : R x y) : Paired R (xs ++ [x]) (ys ++ [y]) := pair_app h (.cons r .nil)
/-- a new object -/
theorem same_new {H : Hp} {p : Addr} {o : HO} (h : H p = none) : Same H (upd H p o) := fun b u e => by rw [upd_ne (ne_of_none e h)]; exact e
/-- an object of ours changes -/
theorem same_put {H H' : Hp} {p : Addr} {o : HO} (s : Same H H') (h : H p = none) : Same H (upd H' p o) := fun b u e => by rw [upd_ne (ne_of_none e h)]; exact s b u e
theorem upd_none {H : Hp} {p r : Addr} {o : HO} (h : upd H p o r = none) : H r = none := by
  unfold upd at h
  split at h
  · cases h
  · exact h
/-- tuples stand -/
def KeepT (H H' : Hp) : Prop := ∀ b xs, H b = some (.tup xs) → H' b = some (.tup xs)
theorem same_keepT {H H' : Hp} (s : Same H H') : KeepT H H' := fun b _ e => s b _ e
theorem keepT_lst {H : Hp} {p : Addr} {xs : List V} {o : HO} (h : H p = some (.lst xs)) : KeepT H (upd H p o) := fun b ys e => by rw [upd_ne (ne_of e h (by intro z; cases z))]; exact e
theorem keepT_dT {H : Hp} {p : Addr} {kvs : List (List Key × V)} {o : HO} (h : H p = some (.dT kvs)) : KeepT H (upd H p o) := fun b ys e => by rw [upd_ne (ne_of e h (by intro z; cases z))]; exact e
theorem KeepT.trans {H H1 H2 : Hp} (a : KeepT H H1) (b : KeepT H1 H2) : KeepT H H2 := fun c xs e => b c xs (a c xs e)

/-- an arrangement -/
def ArrAt (H : Hp) (v : V) (n : List Nat) : Prop := ∃ q, v = .ref q ∧ H q = some (.tup (nums n))
theorem ArrAt.keep {H H' : Hp} {v : V} {n : List Nat} (h : ArrAt H v n) (k : KeepT H H') : ArrAt H' v n := let ⟨q, e, hq⟩ := h; ⟨q, e, k q _ hq⟩
/-- a move: the car, its place, the arrangement behind it -/
def MvAt (H : Hp) (v : V) (m : Nat × Nat × List Nat) : Prop := ∃ t q, v = .ref t ∧ H t = some (.tup [.int (m.1 : Int), .int (m.2.1 : Int), .ref q]) ∧ H q = some (.tup (nums m.2.2))
theorem MvAt.keep {H H' : Hp} {v : V} {m : Nat × Nat × List Nat} (h : MvAt H v m) (k : KeepT H H') : MvAt H' v m := let ⟨t, q, e, ht, hq⟩ := h; ⟨t, q, e, k t _ ht, k q _ hq⟩
/-- moves, in order -/
def MvsAt (H : Hp) (l : Addr) (ms : List (Nat × Nat × List Nat)) : Prop := ∃ vs, H l = some (.lst vs) ∧ Paired (MvAt H) vs ms
theorem MvsAt.same {H H' : Hp} {l : Addr} {ms : List (Nat × Nat × List Nat)} (h : MvsAt H l ms) (s : Same H H') : MvsAt H' l ms := let ⟨vs, hl, hp⟩ := h; ⟨vs, s l _ hl, pair_imp hp fun _ _ q => q.keep (same_keepT s)⟩
/-- the cars' tracks -/
structure TrackAt (H : Hp) (a : Addr) (ts : List Addr) (s : St) : Prop where
  lst : H a = some (.lst (ts.map V.ref))
  each : Paired (fun (t : Addr) (c : Car) => H t = some (.lst (nums (track s c)))) ts s.cars
theorem TrackAt.same {H H' : Hp} {a : Addr} {ts : List Addr} {s : St} (h : TrackAt H a ts s) (k : Same H H') : TrackAt H' a ts s := ⟨k a _ h.lst, pair_imp h.each fun t _ q => k t _ q⟩
theorem TrackAt.len {H : Hp} {a : Addr} {ts : List Addr} {s : St} (h : TrackAt H a ts s) : ts.length = s.cars.length := Paired.length h.each
theorem carOf_at {s : St} {i : Nat} (h : i < s.cars.length) : s.cars[i]? = some (carOf s i) := by
  unfold Sy66.carOf
  rw [List.getD_eq_getElem?_getD, List.getElem?_eq_getElem h]
  rfl
theorem TrackAt.at {H : Hp} {a : Addr} {ts : List Addr} {s : St} (h : TrackAt H a ts s) {i : Nat} (hi : i < s.cars.length) : ∃ t, (ts.map V.ref)[i]? = some (.ref t) ∧ H t = some (.lst (nums (track s (carOf s i)))) := by
  obtain ⟨t, ht, q⟩ := pair_right h.each (carOf_at hi)
  exact ⟨t, by rw [List.getElem?_map, ht]; rfl, q⟩
theorem track_nums {s : St} {c : Car} {o : Nat} (h : o < many s c) : (nums (track s c))[o]? = some (.int ((maskN s c o : Nat) : Int)) := nums_at (track_at h)

/-! ### bits -/
theorem and_nat (a b : Nat) : Builtin.bitAnd (a : Int) (b : Int) = ((a &&& b : Nat) : Int) := by
  rw [bitAnd_pp (by omega) (by omega), Int.toNat_natCast, Int.toNat_natCast]
theorem or_nat (a b : Nat) : Builtin.bitOr (a : Int) (b : Int) = ((a ||| b : Nat) : Int) := by
  rw [bitOr_nn (by omega) (by omega), Int.toNat_natCast, Int.toNat_natCast]
theorem or_plus : ∀ a b : Nat, (a ||| b) + (a &&& b) = a + b := by
  intro a b
  have h : Builtin.bitOr (a : Int) (b : Int) = (a : Int) + b - Builtin.bitAnd (a : Int) (b : Int) := bitOr_and _ _
  rw [or_nat, and_nat] at h
  omega
theorem xor_plus (a b : Nat) : (a ^^^ b) + 2 * (a &&& b) = a + b := by
  have d : (a ^^^ b) &&& (a &&& b) = 0 := by
    rw [and_zero]
    rintro x ⟨h1, h2⟩
    rw [Nat.testBit_xor] at h1
    rw [Nat.testBit_and] at h2
    cases p : a.testBit x <;> cases q : b.testBit x <;> rw [p, q] at h1 h2 <;> simp at h1 h2
  have e : (a ^^^ b) ||| (a &&& b) = a ||| b := by
    apply Nat.eq_of_testBit_eq
    intro x
    rw [Nat.testBit_or, Nat.testBit_xor, Nat.testBit_and, Nat.testBit_or]
    cases a.testBit x <;> cases b.testBit x <;> rfl
  have h1 := or_plus (a ^^^ b) (a &&& b)
  have h2 := or_plus a b
  rw [d, e] at h1
  omega
theorem xor_nat (a b : Nat) : Builtin.bitXor (a : Int) (b : Int) = ((a ^^^ b : Nat) : Int) := by
  show Builtin.bitOr (a : Int) (b : Int) - Builtin.bitAnd (a : Int) (b : Int) = _
  rw [or_nat, and_nat]
  have h1 := or_plus a b
  have h2 := xor_plus a b
  omega
theorem nat_ne0 (n : Nat) : ((n : Int) != 0) = !decide (n = 0) := by
  cases n with
  | zero => rfl
  | succ n => simp; omega
end Cy

set_option Elab.async false
set_option maxRecDepth 100000
set_option maxHeartbeats 2000000
/-! taken_cells, with_place, ways, moves_at. -/
namespace Cy
open PySem PySem.Spec PyProof.Rows L2
open Cr (nums)
open Sy66 (Car carOf done reach ends moved nexts legal)
section
variable {P : Program} {w : World} {K : PySem.W.Frag} {mg : Str → Option Value} {base : Heap} {C : Addr}

/-! ### taken_cells -/
def spTaken : Sp := fun vs H Q _ => ∃ (a b : Addr) (ts : List Addr) (s : St) (l : List Nat), vs = [.ref a, .ref b] ∧ TrackAt H a ts s ∧ H b = some (.tup (nums l)) ∧ l.length ≤ s.cars.length ∧ (∀ i, i < l.length → l.getD i 0 < many s (carOf s i)) ∧
  ∀ H', Same H H' → Q (.int (takenN s l : Nat)) H'
theorem scTaken : FnScope ["tracks", "places", "taken", "car", "place"] ["tracks", "places"] (C8.fnScope sTaken) := C8.fnScope_by (by decide +kernel)
theorem ok_taken {f : Addr} {fd : FuncData} (F : C8.Def K mg "taken_cells" sTaken f fd) (b : Binds K fd ["tracks", "places"] []) (T : Txt K mg C) : C8.Cal P w K mg base 1 "taken_cells" spTaken [] := by
  refine C8.cal0 F b .nil scTaken (fun vs H Q E h => ?_) (fun cdv A outer s H vs Q E hr h => ?_)
  · obtain ⟨_, _, _, _, _, rfl, _⟩ := h
    rfl
  obtain ⟨a, b, ts, y, l, rfl, ht, hb, hl, hm, q⟩ := h
  refine ⟨_, pss_cons (ps_set (i := 2) scTaken.nd rfl (.inl rfl) pe_int) (pss_cons (ps_for PassesOwn.never rfl (Cr.pi_enumT rfl T.enum (pa_cons (pv 1) pa_nil))
      (pg_tup rfl (pgs_cons (pg_name (i := 3) scTaken.nd rfl (.inl rfl)) (pgs_cons (pg_name (i := 4) scTaken.nd rfl (.inl rfl)) pgs_nil)))
      (pss_one (ps_set (i := 2) scTaken.nd rfl (.inl rfl) (pe_op op_or (pv 2) (pe_ix ix_list (pe_ix ix_list (pv 0) (pv 3) (fun _ _ => rfl)) (pv 4) (fun _ _ => rfl))))))
    (pss_one (ps_ret (pv 2)))), ?_⟩
  refine ⟨_, rfl, b, nums l, rfl, hb, Cr.for_enumT (fun i σ H' => ∃ u v, σ = [some (.ref a), some (.ref b), some (.int (takenUp y l i : Nat)), u, v] ∧ Same H H') ⟨none, none, rfl, Same.refl H⟩ ?_ ?_ ?_⟩
  · rintro i σ H' _ ⟨u, v, rfl, hs⟩
    exact hs _ _ hb
  · rintro i x σ H' t hx ⟨u, v, rfl, hs⟩ hT
    have hi : i < l.length := by
      have := (List.getElem?_eq_some_iff.mp hx).1
      rw [nums_len] at this
      exact this
    rw [nums_getD hi] at hx
    cases hx
    have s2 : Same H (upd H' t (.tup [.int (i : Nat), .int ((l.getD i 0 : Nat) : Int)])) := hs.trans (same_new hT)
    have ht2 := ht.same s2
    obtain ⟨tr, htr, hcells⟩ := ht2.at (show i < y.cars.length by omega)
    refine ⟨t, _, rfl, SqT.of upd_same, rfl, _, _, rfl, _, _, rfl, rfl, ?_⟩
    refine ⟨_, rfl, _, rfl, _, rfl, a, _, _, _, rfl, rfl, SqL.of ht2.lst, atI_nat htr, _, rfl, tr, _, _, _, rfl, rfl, SqL.of hcells, atI_nat (track_nums (hm i hi)), _, _, rfl, rfl, ?_⟩
    refine ⟨some (.int (i : Nat)), some (.int ((l.getD i 0 : Nat) : Int)), ?_, s2⟩
    rw [takenUp_succ, ← or_nat]
    rfl
  · rintro σ H' ⟨u, v, rfl, hs⟩
    refine ⟨_, rfl, ?_⟩
    rw [nums_len, takenUp_all]
    exact q H' hs

/-! ### with_place -/
theorem cut_left {l : List Nat} {k : Nat} (hk : k < l.length) : cutV (nums l) none (some (k : Int)) = nums (l.take k) := by
  unfold cutV
  rw [HT.sIx_none, HT.sIx_nat, nums_len, Nat.min_eq_left (by omega)]
  simp [nums, List.map_take]
theorem cut_right {l : List Nat} {k : Nat} (hk : k < l.length) : cutV (nums l) (some ((k : Int) + 1)) none = nums (l.drop (k + 1)) := by
  have e : (k : Int) + 1 = ((k + 1 : Nat) : Int) := by omega
  unfold cutV
  rw [HT.sIx_none, e, HT.sIx_nat, nums_len, Nat.min_eq_left (by omega), List.take_of_length_le (by rw [List.length_drop, nums_len]; omega)]
  exact (List.map_drop ..).symm
theorem set_cut {l : List Nat} {k o : Nat} (hk : k < l.length) : l.set k o = l.take k ++ [o] ++ l.drop (k + 1) := by
  rw [List.set_eq_take_append_cons_drop, if_pos hk]
  simp
def spWith : Sp := fun vs H Q _ => ∃ (b : Addr) (l : List Nat) (k o : Nat), vs = [.ref b, .int (k : Int), .int (o : Int)] ∧ H b = some (.tup (nums l)) ∧ k < l.length ∧ l.length ≤ 5 ∧ ∀ H' p, Same H H' → H' p = some (.tup (nums (l.set k o))) → Q (.ref p) H'
theorem scWith : FnScope ["places", "car", "place"] ["places", "car", "place"] (C8.fnScope sWith) := C8.fnScope_by (by decide +kernel)
theorem ok_with {f : Addr} {fd : FuncData} (F : C8.Def K mg "with_place" sWith f fd) (b : Binds K fd ["places", "car", "place"] []) : C8.Cal P w K mg base 1 "with_place" spWith [] := by
  refine C8.cal0 F b .nil scWith (fun vs H Q E h => ?_) (fun cdv A outer s H vs Q E hr h => ?_)
  · obtain ⟨_, _, _, _, rfl, _⟩ := h
    rfl
  obtain ⟨b, l, k, o, rfl, hb, hk, hl, q⟩ := h
  refine ⟨_, pss_one (ps_ret (pe_op op_catA (pe_op op_catA (pe_slice sl_tupA (pv 0) po_none (po_some (pv 1))) (pe_tup (pa_cons (pv 2) pa_nil))) (pe_slice sl_tupA (pv 0) (po_some (pe_op op_add (pv 1) pe_int)) po_none))), ?_⟩
  have line : ∀ n, n ≤ 10 → n ≤ sizeLine := fun n h => Nat.le_trans h (by decide)
  refine ⟨_, rfl, _, rfl, _, rfl, b, nums l, rfl, SqT.of hb, fun z => ?_, fun _ p hp => ?_⟩
  · exfalso
    have z2 := z.2
    rw [HT.sIx_nat, nums_len] at z2
    omega
  rw [cut_left hk]
  generalize hH1 : upd H p (.tup (nums (l.take k))) = H1
  have s1 : Same H H1 := hH1 ▸ same_new hp
  have e1 : H1 p = some (.tup (nums (l.take k))) := hH1 ▸ upd_same
  refine ⟨_, rfl, line 1 (by decide), fun p2 hp2 => ?_⟩
  generalize hH2 : upd H1 p2 (.tup [.int (o : Int)]) = H2
  have s2 : Same H1 H2 := hH2 ▸ same_new hp2
  have e2 : H2 p2 = some (.tup (nums [o])) := hH2 ▸ upd_same
  have tl : (l.take k).length = k := by rw [List.length_take]; omega
  -- the first cat
  have go : ∀ (H3 : Hp) (p3 : Addr), Same H2 H3 → H3 p3 = some (.tup (nums (l.take k ++ [o]))) → tSl (rSlA K) (tVar 0) (tPart (tOp (rI0 fun i j => .int (i + j)) (tVar 1) (tC (.int 1)))) tNoPart (start ["places", "car", "place"] [.ref b, .int (k : Int), .int (o : Int)]) H3 fun y H4 => rCatA K (.ref p3) y H4 Q := by
    intro H3 p3 s3 e3
    refine ⟨_, rfl, _, rfl, _, _, rfl, rfl, _, rfl, b, nums l, rfl, SqT.of (s3 _ _ (s2 _ _ (s1 _ _ hb))), fun z => ?_, fun _ p4 hp4 => ?_⟩
    · exfalso
      have z1 := z.1
      have e : (k : Int) + 1 = ((k + 1 : Nat) : Int) := by omega
      rw [e, HT.sIx_nat, nums_len] at z1
      omega
    rw [cut_right hk]
    generalize hH4 : upd H3 p4 (.tup (nums (l.drop (k + 1)))) = H4
    have s4 : Same H3 H4 := hH4 ▸ same_new hp4
    have e4 : H4 p4 = some (.tup (nums (l.drop (k + 1)))) := hH4 ▸ upd_same
    have all := s1.trans (s2.trans (s3.trans s4))
    refine ⟨p3, p4, _, _, rfl, rfl, SqT.of (s4 _ _ e3), SqT.of e4, ?_, fun z => ?_, fun _ z => ?_, fun _ _ p5 hp5 => ?_⟩
    · rw [nums_len, nums_len, List.length_append, List.length_drop, tl]
      exact line _ (by simp; omega)
    · have := congrArg List.length z
      rw [nums_len, List.length_append] at this
      simp at this
    · refine q H4 p3 all ?_
      rw [set_cut hk, nums_app, z, List.append_nil]
      exact s4 _ _ e3
    · refine q _ p5 (all.trans (same_new hp5)) ?_
      rw [set_cut hk, nums_app (l.take k ++ [o])]
      exact upd_same
  refine ⟨p, p2, _, _, rfl, rfl, SqT.of (s2 _ _ e1), SqT.of e2, ?_, fun z => ?_, fun _ z => ?_, fun _ _ p3 hp3 => ?_⟩
  · rw [nums_len, nums_len, tl]
    exact line _ (by simp; omega)
  · refine go H2 p2 (Same.refl _) ?_
    have : l.take k = [] := by
      have := congrArg List.length z
      rw [nums_len] at this
      exact List.length_eq_zero_iff.mp this
    rw [this]
    exact e2
  · exact absurd (congrArg List.length z) (by simp [nums_len])
  · refine go _ p3 (same_new hp3) ?_
    rw [nums_app]
    exact upd_same

/-! ### ways -/
theorem rg_nums (lo p : Nat) : rgV (lo : Int) (p : Int) = nums (List.range' lo (p - lo)) := by
  unfold rgV nums
  have e : ((p : Int) - (lo : Int)).toNat = p - lo := by omega
  rw [e, List.range'_eq_map_range, List.map_map]
  rfl
/-- what is found free: from lo to hi around p -/
structure Span (ms : List Nat) (n p lo hi : Nat) : Prop where
  low : lo ≤ p
  high : p < hi
  len : hi ≤ ms.length
  free1 : ∀ q, lo ≤ q → q < p → ms.getD q 0 &&& n = 0
  free2 : ∀ q, p < q → q < hi → ms.getD q 0 &&& n = 0
  end1 : lo = 0 ∨ ¬ ms.getD (lo - 1) 0 &&& n = 0
  end2 : hi = ms.length ∨ ¬ ms.getD hi 0 &&& n = 0
def spWays : Sp := fun vs H Q _ => ∃ (t : Addr) (ms : List Nat) (p n : Nat), vs = [.ref t, .int (p : Int), .int (n : Int)] ∧ H t = some (.lst (nums ms)) ∧ p < ms.length ∧ ms.length ≤ 10 ∧
  ∀ H' r lo hi, Same H H' → H r = none → H' r = some (.lst (nums (spanN lo p hi))) → Span ms n p lo hi → Q (.ref r) H'
theorem scWays : FnScope ["track", "place", "others", "lowest", "behind"] ["track", "place", "others"] (C8.fnScope sWays) := C8.fnScope_by (by decide +kernel)
theorem ok_ways {f : Addr} {fd : FuncData} (F : C8.Def K mg "ways" sWays f fd) (b : Binds K fd ["track", "place", "others"] []) (T : Txt K mg C) : C8.Cal P w K mg base 1 "ways" spWays [] := by
  refine C8.cal0 F b .nil scWays (fun vs H Q E h => ?_) (fun cdv A outer s H vs Q E hr h => ?_)
  · obtain ⟨_, _, _, _, rfl, _⟩ := h
    rfl
  obtain ⟨t, ms, p, n, rfl, ht, hp, hl, q⟩ := h
  refine ⟨_, pss_cons (ps_set (i := 3) scWays.nd rfl (.inl rfl) (pv 1))
    (pss_cons (ps_while PassesOwn.never (PW.pt (pw_and (pt_cmpR op_gt (pv 3) pe_int (nomark _)) (pw_and1 (pt_not (pt_truth (pe_op op_and (pe_ix ix_list (pv 0) (pe_op op_sub (pv 3) pe_int) (fun _ _ => rfl)) (pv 2)) (by intro _; rfl))))))
      (pss_one (ps_set (i := 3) scWays.nd rfl (.inl rfl) (pe_op op_sub (pv 3) pe_int))))
    (pss_cons (ps_set (i := 4) scWays.nd rfl (.inl rfl) (pe_op op_add (pv 1) pe_int))
    (pss_cons (ps_while PassesOwn.never (PW.pt (pw_and (pt_cmpR op_lt (pv 4) (pe_callB call_len_seq (by rfl) T.len PySem.boot_len (pa_cons (pv 0) pa_nil)) (nomark _)) (pw_and1 (pt_not (pt_truth (pe_op op_and (pe_ix ix_list (pv 0) (pv 4) (fun _ _ => rfl)) (pv 2)) (by intro _; rfl))))))
      (pss_one (ps_set (i := 4) scWays.nd rfl (.inl rfl) (pe_op op_add (pv 4) pe_int))))
    (pss_one (ps_ret (pe_op op_cat (pe_listRg rfl rfl T.list (prg_2 rfl T.range (pv 3) (pv 1))) (pe_listRg rfl rfl T.list (prg_2 rfl T.range (pe_op op_add (pv 1) pe_int) (pv 4))))))))), ?_⟩
  have msAt : ∀ i, i < ms.length → (nums ms)[i]? = some (.int ((ms.getD i 0 : Nat) : Int)) := fun i hi => nums_getD hi
  refine ⟨_, rfl, ?_⟩
  refine ⟨fun m σ H' => ∃ lo : Nat, lo = m ∧ H' = H ∧ lo ≤ p ∧ (∀ q, lo ≤ q → q < p → ms.getD q 0 &&& n = 0) ∧ σ = [some (.ref t), some (.int (p : Int)), some (.int (n : Int)), some (.int (lo : Int)), none], ⟨p, p, rfl, rfl, Nat.le_refl _, fun q h1 h2 => by omega, rfl⟩, ?_⟩
  rintro m σ H' ⟨lo, rfl, rfl, h1, h2, rfl⟩
  -- behind the first loop
  have rest : (lo = 0 ∨ ¬ ms.getD (lo - 1) 0 &&& n = 0) → tSeq (tAsg (tOp (rI0 fun i j => .int (i + j)) (tVar 1) (tC (.int 1))) (gName 4)) (tSeq (tWhile (tAnd (tTest (tOp (rI0 fun i j => .bl (decide (i < j))) (tVar 4) (tCB (fun xs H Q => ∃ p ys, xs = [.ref p] ∧ (SqL K H p ys ∨ SqT K H p ys) ∧ Q (.int ys.length) H) (tCons (tVar 0) tNil)))) (tNot (fun σ H Q => tOp (rI0 fun i j => .int (Builtin.bitAnd i j)) (tOp (rIxL K) (tVar 0) (tVar 4)) (tVar 2) σ H fun x H' => ∃ k, TruV K x H' k ∧ Q k H'))) (tAsg (tOp (rI0 fun i j => .int (i + j)) (tVar 4) (tC (.int 1))) (gName 4)))
      (tRet (tOp rCat (tLstRg (tRg2 (tVar 3) (tVar 1))) (tLstRg (tRg2 (tOp (rI0 fun i j => .int (i + j)) (tVar 1) (tC (.int 1))) (tVar 4)))))) { nx := fun _ H' => Q .non H', rt := Q } [some (.ref t), some (.int (p : Int)), some (.int (n : Int)), some (.int (lo : Int)), none] H' := by
    intro he
    refine ⟨_, rfl, _, _, rfl, rfl, ?_⟩
    refine ⟨fun m σ H2 => ∃ hi : Nat, m = ms.length - hi ∧ H2 = H' ∧ p < hi ∧ hi ≤ ms.length ∧ (∀ q, p < q → q < hi → ms.getD q 0 &&& n = 0) ∧ σ = [some (.ref t), some (.int (p : Int)), some (.int (n : Int)), some (.int (lo : Int)), some (.int (hi : Int))], ⟨_, p + 1, rfl, rfl, by omega, by omega, fun q a b => by omega, ?_⟩, ?_⟩
    · rw [show ((p + 1 : Nat) : Int) = (p : Int) + 1 by omega]
      rfl
    rintro m σ H2 ⟨hi, rfl, rfl, h3, h4, h5, rfl⟩
    have fin : (hi = ms.length ∨ ¬ ms.getD hi 0 &&& n = 0) → tRet (tOp rCat (tLstRg (tRg2 (tVar 3) (tVar 1))) (tLstRg (tRg2 (tOp (rI0 fun i j => .int (i + j)) (tVar 1) (tC (.int 1))) (tVar 4)))) { nx := fun _ H' => Q .non H', rt := Q }
        [some (.ref t), some (.int (p : Int)), some (.int (n : Int)), some (.int (lo : Int)), some (.int (hi : Int))] H2 := by
      intro he2
      refine ⟨_, rfl, _, rfl, _, _, rfl, rfl, RgOk.of_le (by omega) (by omega) (by omega) (by omega), fun a ha => ?_⟩
      rw [rg_nums]
      refine ⟨_, rfl, _, _, rfl, rfl, _, rfl, _, _, rfl, rfl, RgOk.of_le (by omega) (by omega) (by omega) (by omega), fun c hc => ?_⟩
      rw [show (p : Int) + 1 = ((p + 1 : Nat) : Int) by omega, rg_nums]
      have ac : a ≠ c := ne_of_none upd_same hc
      refine ⟨a, c, _, _, rfl, rfl, by rw [upd_ne ac]; exact upd_same, upd_same, ?_, fun r hr2 => ?_⟩
      · rw [nums_len, nums_len, List.length_range', List.length_range']
        exact Nat.le_trans (show _ ≤ 100 by omega) (by decide)
      · refine q _ r lo hi (((same_new ha).trans (same_new hc)).trans (same_new hr2)) (upd_none (upd_none hr2)) ?_ ⟨h1, h3, h4, h2, h5, he, he2⟩
        rw [← nums_app]
        exact upd_same
    refine ⟨_, rfl, _, rfl, t, nums ms, rfl, .inl (SqL.of ht), _, _, rfl, rfl, _, rfl, ?_⟩
    rw [nums_len]
    by_cases c : hi < ms.length
    · rw [decide_eq_true (show (hi : Int) < (ms.length : Int) by omega)]
      refine iteT ⟨_, rfl, _, rfl, t, _, _, _, rfl, rfl, SqL.of ht, atI_nat (msAt hi c), _, rfl, _, _, rfl, rfl, _, rfl, ?_⟩
      rw [and_nat, nat_ne0]
      by_cases z : ms.getD hi 0 &&& n = 0
      · rw [decide_eq_true z]
        refine iteT ⟨_, fun _ _ h => h, _, rfl, _, _, rfl, rfl, ?_⟩
        refine ⟨_, ?_, hi + 1, rfl, rfl, by omega, by omega, fun q a b => ?_, ?_⟩
        · omega
        · by_cases e : q = hi
          · exact e ▸ z
          · exact h5 q a (by omega)
        · rw [show ((hi + 1 : Nat) : Int) = (hi : Int) + 1 by omega]
          rfl
      · rw [decide_eq_false z]
        exact iteF (fin (.inr z))
    · rw [decide_eq_false (show ¬ (hi : Int) < (ms.length : Int) by omega)]
      exact iteF (iteF (fin (.inl (by omega))))
  refine ⟨_, rfl, _, _, rfl, rfl, _, rfl, ?_⟩
  by_cases c : 0 < lo
  · rw [decide_eq_true (show (0 : Int) < (lo : Int) by omega)]
    have e1 : (lo : Int) - 1 = ((lo - 1 : Nat) : Int) := by omega
    have a1 : atI (nums ms) ((lo : Int) - 1) = some (.int ((ms.getD (lo - 1) 0 : Nat) : Int)) := by
      rw [e1]
      exact atI_nat (msAt (lo - 1) (by omega))
    refine iteT ⟨_, rfl, _, rfl, _, _, rfl, rfl, t, _, _, _, rfl, rfl, SqL.of ht, a1, _, rfl, _, _, rfl, rfl, _, rfl, ?_⟩
    rw [and_nat, nat_ne0]
    by_cases z : ms.getD (lo - 1) 0 &&& n = 0
    · rw [decide_eq_true z]
      refine iteT ⟨_, fun _ _ h => h, _, rfl, _, _, rfl, rfl, ?_⟩
      refine ⟨lo - 1, by omega, lo - 1, rfl, rfl, by omega, fun q a b => ?_, ?_⟩
      · by_cases e : q = lo - 1
        · exact e ▸ z
        · exact h2 q (by omega) b
      · rw [← e1]
        rfl
    · rw [decide_eq_false z]
      exact iteF (rest (.inr z))
  · rw [decide_eq_false (show ¬ (0 : Int) < (lo : Int) by omega)]
    exact iteF (iteF (rest (.inl (by omega))))

/-! ### moves_at -/
theorem span_is {s : St} (hs : Yd s) {l : List Nat} (hl : legal s l = true) (hn : l.length = s.cars.length) {k : Nat} (hk : k < l.length) {lo hi : Nat}
    (h : Span (track s (carOf s k)) (takenN s l ^^^ maskN s (carOf s k) (l.getD k 0)) (l.getD k 0) lo hi) : spanN lo (l.getD k 0) hi = Cy.waysOf s l k := by
  have g : ∀ q, q < many s (carOf s k) → (track s (carOf s k)).getD q 0 = maskN s (carOf s k) q := fun q hq => by
    rw [List.getD_eq_getElem?_getD, track_at hq]
    rfl
  obtain ⟨a1, a2, a3, a4, a5, a6, a7⟩ := h
  rw [track_len] at a3 a7
  refine ways_eq hs hl hk (by omega) a1 a2 a3 (fun q h1 h2 => ?_) (fun q h1 h2 => ?_) ?_ ?_
  · rw [← g q (by omega)]; exact a4 q h1 h2
  · rw [← g q (by omega)]; exact a5 q h1 h2
  · rcases a6 with e | e
    · exact .inl e
    · rw [g (lo - 1) (by omega)] at e; exact .inr e
  · by_cases e : hi = many s (carOf s k)
    · exact .inl e
    · rcases a7 with z | z
      · exact .inl z
      · rw [g hi (by omega)] at z; exact .inr z
def spMovesAt : Sp := fun vs H Q _ => ∃ (a b : Addr) (ts : List Addr) (s : St) (l : List Nat), vs = [.ref a, .ref b] ∧ TrackAt H a ts s ∧ H b = some (.tup (nums l)) ∧ Yd s ∧ legal s l = true ∧ l.length = s.cars.length ∧
  ∀ H' p, Same H H' → H p = none → MvsAt H' p (movesOf s l) → Q (.ref p) H'
theorem scMovesAt : FnScope ["tracks", "places", "taken", "found", "car", "place", "track", "to_place"] ["tracks", "places"] (C8.fnScope sMovesAt) := C8.fnScope_by (by decide +kernel)
theorem ok_movesAt {f : Addr} {fd : FuncData} (F : C8.Def K mg "moves_at" sMovesAt f fd) (b : Binds K fd ["tracks", "places"] []) (T : Txt K mg C) (cT : C8.Cal P w K mg base 1 "taken_cells" spTaken [])
    (cW : C8.Cal P w K mg base 1 "with_place" spWith []) (cY : C8.Cal P w K mg base 1 "ways" spWays []) : C8.Cal P w K mg base 2 "moves_at" spMovesAt [] := by
  refine C8.cal0 F b .nil scMovesAt (fun vs H Q E h => ?_) (fun cdv A outer s H vs Q E hr h => ?_)
  · obtain ⟨_, _, _, _, _, rfl, _⟩ := h
    rfl
  obtain ⟨a, b, ts, y, l, rfl, ht, hb, hy, hg, hn, q⟩ := h
  refine ⟨_, pss_cons (ps_set (i := 2) scMovesAt.nd rfl (.inl rfl) (C8.pe_c cT hr (by decide) rfl (pa_cons (pv 0) (pa_cons (pv 1) pa_nil))))
    (pss_cons (ps_set (i := 3) scMovesAt.nd rfl (.inl rfl) (pe_lst pa_nil))
    (pss_cons (ps_for PassesOwn.never rfl (Cr.pi_enumT rfl T.enum (pa_cons (pv 1) pa_nil)) (pg_tup rfl (pgs_cons (pg_name (i := 4) scMovesAt.nd rfl (.inl rfl)) (pgs_cons (pg_name (i := 5) scMovesAt.nd rfl (.inl rfl)) pgs_nil)))
      (pss_cons (ps_set (i := 6) scMovesAt.nd rfl (.inl rfl) (pe_ix ix_list (pv 0) (pv 4) (fun _ _ => rfl)))
      (pss_one (ps_for PassesOwn.never rfl (pi_list (C8.pe_c cY hr (by decide) rfl (pa_cons (pv 6) (pa_cons (pv 5) (pa_cons (pe_op op_xor (pv 2) (pe_ix ix_list (pv 6) (pv 5) (fun _ _ => rfl))) pa_nil))))) (pg_name (i := 7) scMovesAt.nd rfl (.inl rfl))
        (pss_one (ps_expr (pe_bm PySem.F.plainAttrs_list PySem.F.slot_list_append PySem.F.type_list_append mt_append (pv 3)
          (pa_cons (pe_tup (pa_cons (pv 4) (pa_cons (pv 7) (pa_cons (C8.pe_c cW hr (by decide) rfl (pa_cons (pv 1) (pa_cons (pv 4) (pa_cons (pv 7) pa_nil)))) pa_nil)))) pa_nil))))))))
    (pss_one (ps_ret (pv 3))))), ?_⟩
  have room : ∀ i, i < l.length → l.getD i 0 < many y (carOf y i) := fun i hi => at_lt hy hg hi (by omega)
  have five := hy.cars
  refine ⟨_, rfl, _, rfl, a, b, ts, y, l, rfl, ht, hb, by omega, room, fun H1 s1 => ?_⟩
  refine ⟨by decide, fun fo hfo => ?_⟩
  have s2 : Same H (upd H1 fo (.lst [])) := s1.trans (same_new hfo)
  have hfo0 : H fo = none := s1.free hfo
  refine ⟨_, rfl, b, nums l, rfl, s2 _ _ hb, Cr.for_enumT (fun i σ H' => ∃ vs u v x z, σ = [some (.ref a), some (.ref b), some (.int (takenN y l : Nat)), some (.ref fo), u, v, x, z] ∧ Same H H' ∧ H' fo = some (.lst vs) ∧ Paired (MvAt H') vs (movesUp y l i))
    ⟨[], none, none, none, none, rfl, s2, upd_same, .nil⟩ ?_ ?_ ?_⟩
  · rintro i σ H' _ ⟨_, _, _, _, _, _, hs, _⟩
    exact hs _ _ hb
  · rintro i x σ H' t hx ⟨vs, u, v, x0, z, rfl, hs, hv, hp⟩ hT
    have hi : i < l.length := by
      have := (List.getElem?_eq_some_iff.mp hx).1
      rw [nums_len] at this
      exact this
    rw [nums_getD hi] at hx
    cases hx
    have s3 : Same H' (upd H' t (.tup [.int (i : Nat), .int ((l.getD i 0 : Nat) : Int)])) := same_new hT
    refine ⟨t, _, rfl, SqT.of upd_same, rfl, _, _, rfl, _, _, rfl, rfl, ?_⟩
    have ht3 := ht.same (hs.trans s3)
    obtain ⟨tr, htr, hcells⟩ := ht3.at (show i < y.cars.length by omega)
    refine ⟨_, rfl, _, rfl, a, _, _, _, rfl, rfl, SqL.of ht3.lst, atI_nat htr, ?_⟩
    refine ⟨_, rfl, _, rfl, _, rfl, _, rfl, _, rfl, tr, _, _, _, rfl, rfl, SqL.of hcells, atI_nat (track_nums (room i hi)), _, _, rfl, rfl, ?_⟩
    refine ⟨tr, track y (carOf y i), l.getD i 0, takenN y l ^^^ maskN y (carOf y i) (l.getD i 0), (by rw [← xor_nat]; rfl), hcells, by rw [track_len]; exact room i hi, ?_, fun H4 r lo hi2 s4 nr er sp => ?_⟩
    · have := many_le hy (show i < y.cars.length by omega)
      rw [track_len]
      omega
    rw [span_is hy hg hn hi sp] at er
    have s34 := s3.trans s4
    have fr : fo ≠ r := ne_of_none (s3 _ _ hv) nr
    refine ⟨r, rfl, ⟨_, SqL.of er⟩, for_list (K := K) (a := r) (xs := nums (waysOf y l i)) (fun j σ H5 => ∃ vs z, σ = [some (.ref a), some (.ref b), some (.int (takenN y l : Nat)), some (.ref fo), some (.int (i : Nat)), some (.int ((l.getD i 0 : Nat) : Int)), some (.ref tr), z] ∧ Same H H5 ∧
      H5 r = some (.lst (nums (waysOf y l i))) ∧ H5 fo = some (.lst vs) ∧ Paired (MvAt H5) vs (movesUp y l i ++ ((waysOf y l i).take j).map fun o => (i, o, l.set i o))) ⟨vs, z, rfl, hs.trans s34, er, s34 _ _ hv, ?_⟩ ?_ ?_ ?_⟩
    · rw [List.take_zero, List.map_nil, List.append_nil]
      exact pair_imp hp fun _ _ m => m.keep (same_keepT s34)
    · rintro j σ H5 _ ⟨_, _, _, _, er5, _⟩
      exact SqL.of er5
    · rintro j x σ H5 hx ⟨vs5, z5, rfl, hs5, er5, hv5, hp5⟩
      have hj : j < (waysOf y l i).length := by
        have := (List.getElem?_eq_some_iff.mp hx).1
        rw [nums_len] at this
        exact this
      rw [nums_at (List.getElem?_eq_getElem hj)] at hx
      cases hx
      refine ⟨_, rfl, .inl ⟨rfl, _, SqL.of hv5⟩, _, rfl, _, rfl, _, rfl, _, rfl, _, rfl, b, l, i, _, rfl, hs5 _ _ hb, hi, by omega, fun H6 p6 s6 e6 => ?_⟩
      refine ⟨by show 3 ≤ sizeLine; decide, fun t7 ht7 => ?_⟩
      have s7 : Same H5 (upd H6 t7 (.tup [.int (i : Nat), .int (((waysOf y l i)[j] : Nat) : Int), .ref p6])) := s6.trans (same_new ht7)
      have few : vs5.length ≤ 30 := by
        have e1 : vs5.length = _ := Paired.length hp5
        have e2 := movesUp_len y l i
        have e3 := waysOf_len (s := y) (l := l) (k := i)
        rw [List.length_append, List.length_map, List.length_take] at e1
        omega
      refine ⟨fo, vs5, _, rfl, rfl, s7 _ _ hv5, Nat.lt_of_le_of_lt few (by decide), ?_⟩
      have k7 : KeepT (upd H6 t7 (.tup [.int (i : Nat), .int (((waysOf y l i)[j] : Nat) : Int), .ref p6])) (upd (upd H6 t7 (.tup [.int (i : Nat), .int (((waysOf y l i)[j] : Nat) : Int), .ref p6])) fo (.lst (vs5 ++ [.ref t7]))) := keepT_lst (s7 _ _ hv5)
      refine ⟨_, some (.int (((waysOf y l i)[j] : Nat) : Int)), rfl, same_put (hs5.trans s7) hfo0, by rw [upd_ne fr.symm]; exact s7 _ _ er5, upd_same, ?_⟩
      have e8 : (waysOf y l i).take (j + 1) = (waysOf y l i).take j ++ [(waysOf y l i)[j]] := by rw [List.take_add_one, List.getElem?_eq_getElem hj]; rfl
      rw [e8, List.map_append, ← List.append_assoc]
      refine pair_snoc (pair_imp hp5 fun _ _ m => m.keep ((same_keepT s7).trans k7)) ⟨t7, p6, rfl, k7 _ _ upd_same, k7 _ _ ?_⟩
      rw [upd_ne (ne_of_none e6 ht7)]
      exact e6
    · rintro σ H5 ⟨vs5, z5, rfl, hs5, er5, hv5, hp5⟩
      rw [nums_len, List.take_length] at hp5
      refine ⟨vs5, _, _, _, _, rfl, hs5, hv5, ?_⟩
      rw [movesUp_succ]
      exact hp5
  · rintro σ H' ⟨vs, u, v, x0, z, rfl, hs, hv, hp⟩
    rw [nums_len] at hp
    exact ⟨_, rfl, q H' fo hs hfo0 ⟨vs, hv, hp⟩⟩
end
end Cy

set_option Elab.async false
set_option maxRecDepth 100000
set_option maxHeartbeats 2000000
/-! moves_by_arrangement: all that can come about, and its moves. -/
namespace Cy
open PySem PySem.Spec PyProof.Rows L2
open Cr (nums)
open Sy66 (Car carOf done reach ends moved nexts legal)

/-! ### dicts by arrangements -/
section
variable {R : List Key × V → List Nat → Prop} {kvs : List (List Key × V)} {L : List (List Nat)} {n : List Nat}
theorem dict_none (h : Paired R kvs L) (hk : ∀ kv n, R kv n → kv.1 = keyN n) (hn : n ∉ L) : valV kvs (keyN n) = none := by
  induction h with
  | nil => rfl
  | cons r _ ih =>
    rw [valV_neg fun e => hn (List.mem_cons.mpr (.inl (keyN_inj ((hk _ _ r).symm.trans e)).symm)), ih fun z => hn (List.mem_cons_of_mem _ z)]
theorem dict_some (h : Paired R kvs L) (hk : ∀ kv n, R kv n → kv.1 = keyN n) (hn : n ∈ L) : ∃ v, valV kvs (keyN n) = some v ∧ R (keyN n, v) n := by
  induction h with
  | nil => cases hn
  | @cons p a _ _ r _ ih =>
    by_cases e : a = n
    · subst e
      refine ⟨p.2, valV_pos (hk _ _ r), ?_⟩
      rw [← hk _ _ r]
      exact r
    · rw [valV_neg fun z => e (keyN_inj ((hk _ _ r).symm.trans z))]
      exact ih ((List.mem_cons.mp hn).resolve_left fun z => e z.symm)
theorem dict_put {v : V} (h : Paired R kvs L) (hk : ∀ kv n, R kv n → kv.1 = keyN n) (hn : n ∉ L) (r : R (keyN n, v) n) : Paired R (putK kvs (keyN n) v) (L ++ [n]) := by
  rw [putK_new v (dict_none h hk hn)]
  exact pair_snoc h r
end
/-- what a known arrangement has: its moves, at a list that is one of Pr -/
def MovesOn (s : St) (H : Hp) (Pr : Addr → Prop) (kv : List Key × V) (n : List Nat) : Prop := kv.1 = keyN n ∧ ∃ l, kv.2 = .ref l ∧ Pr l ∧ MvsAt H l (movesOf s n)
theorem MovesOn.key {s : St} {H : Hp} {Pr : Addr → Prop} : ∀ (kv : List Key × V) (n : List Nat), MovesOn s H Pr kv n → kv.1 = keyN n := fun _ _ h => h.1
/-- the dict of all that can come about -/
structure Known (s : St) (H : Hp) (Pr : Addr → Prop) (kvs : List (List Key × V)) (L : List (List Nat)) : Prop where
  each : Paired (MovesOn s H Pr) kvs L
  nodup : L.Nodup
  mem : ∀ n, n ∈ L ↔ Can s n
theorem Known.same {s : St} {H H' : Hp} {Pr : Addr → Prop} {kvs : List (List Key × V)} {L : List (List Nat)} (h : Known s H Pr kvs L) (k : Same H H') : Known s H' Pr kvs L :=
  ⟨pair_imp h.each fun _ _ ⟨a, l, b, c, d⟩ => ⟨a, l, b, c, d.same k⟩, h.nodup, h.mem⟩
def KnownAt (H : Hp) (Pr : Addr → Prop) (d : Addr) (s : St) : Prop := ∃ kvs L, H d = some (.dT kvs) ∧ Known s H Pr kvs L

section
variable {P : Program} {w : World} {K : PySem.W.Frag} {mg : Str → Option Value} {base : Heap} {C : Addr}
def spMovesBy : Sp := fun vs H Q _ => ∃ (a b : Addr) (ts : List Addr) (s : St), vs = [.ref a, .ref b] ∧ TrackAt H a ts s ∧ H b = some (.tup (nums s.at_)) ∧ Ok s ∧ ∀ H' p, Same H H' → H p = none → KnownAt H' (fun l => H l = none) p s → Q (.ref p) H'
theorem scMovesBy : FnScope ["tracks", "start", "moves", "waiting", "places", "car", "place", "after"] ["tracks", "start"] (C8.fnScope sMovesBy) := C8.fnScope_by (by decide +kernel)
theorem ok_movesBy {f : Addr} {fd : FuncData} (F : C8.Def K mg "moves_by_arrangement" sMovesBy f fd) (b : Binds K fd ["tracks", "start"] []) (cM : C8.Cal P w K mg base 2 "moves_at" spMovesAt []) : C8.Cal P w K mg base 3 "moves_by_arrangement" spMovesBy [] := by
  refine C8.cal0 F b .nil scMovesBy (fun vs H Q E h => ?_) (fun cdv A outer s H vs Q E hr h => ?_)
  · obtain ⟨_, _, _, _, rfl, _⟩ := h
    rfl
  obtain ⟨a, b, ts, y, rfl, ht, hb, hy, q⟩ := h
  have hu := hu_of hr
  refine ⟨_, pss_cons (ps_set (i := 2) scMovesBy.nd rfl (.inl rfl) pe_dnewT)
    (pss_cons (ps_set (i := 3) scMovesBy.nd rfl (.inl rfl) (pe_lst (pa_cons (pv 1) pa_nil)))
    (pss_cons (ps_while PassesOwn.never (pt_truth (pv 3) (by intro _; rfl))
      (pss_cons (ps_set (i := 4) scMovesBy.nd rfl (.inl rfl) (pe_bm0 PySem.F.plainAttrs_list PySem.F.slot_list_pop PySem.F.type_list_pop mt_pop (pv 3)))
      (pss_one (ps_if (pt_cmp (pc_dnotin hu (pv 4) (pv 2)))
        (pss_cons (ps_dput hu (pv 2) (pv 4) (C8.pe_c cM hr (by decide) rfl (pa_cons (pv 0) (pa_cons (pv 4) pa_nil))) rfl)
        (pss_one (ps_for PassesOwn.never rfl (pi_list (pe_dget hu (pv 2) (pv 4) (fun _ _ => rfl)))
          (pg_tup rfl (pgs_cons (pg_name (i := 5) scMovesBy.nd rfl (.inl rfl)) (pgs_cons (pg_name (i := 6) scMovesBy.nd rfl (.inl rfl)) (pgs_cons (pg_name (i := 7) scMovesBy.nd rfl (.inl rfl)) pgs_nil))))
          (pss_one (ps_expr (pe_bm PySem.F.plainAttrs_list PySem.F.slot_list_append PySem.F.type_list_append mt_append (pv 3) (pa_cons (pv 7) pa_nil)))))))
        pss_nil))))
    (pss_one (ps_ret (pv 2))))), ?_⟩
  refine fun mv hmv => ?_
  refine ⟨_, rfl, by show 1 ≤ sizeLine; decide, fun wt hwt => ?_⟩
  have nmw : mv ≠ wt := ne_of_none upd_same hwt
  have hwt0 : H wt = none := upd_none hwt
  have same0 : Same H (upd (upd H mv (.dT [])) wt (.lst [.ref b])) := (same_new hmv).trans (same_new hwt)
  refine ⟨fun m σ H' => ∃ kvs L ws W u4 u5 u6 u7, σ = [some (.ref a), some (.ref b), some (.ref mv), some (.ref wt), u4, u5, u6, u7] ∧ Same H H' ∧ H' mv = some (.dT kvs) ∧ Paired (MovesOn y H' (fun l => l ≠ wt ∧ H l = none)) kvs L ∧ L.Nodup ∧ (∀ n ∈ L, Can y n) ∧
    H' wt = some (.lst ws) ∧ Paired (ArrAt H') ws W ∧ (∀ n ∈ W, Can y n) ∧ (y.at_ ∈ L ∨ y.at_ ∈ W) ∧ (∀ n ∈ L, ∀ u ∈ nexts y n, u ∈ L ∨ u ∈ W) ∧ W.length ≤ 1 + 25 * L.length ∧ m = (3125 - L.length) * 26 + W.length,
    ⟨_, [], [], [.ref b], [y.at_], none, none, none, none, rfl, same0, by rw [upd_ne nmw]; exact upd_same, .nil, List.nodup_nil, (fun n h => by cases h), upd_same, .cons ⟨b, rfl, same0 _ _ hb⟩ .nil, (fun n h => by rw [List.mem_singleton.mp h]; exact Can.self), .inr (List.mem_singleton.mpr rfl), (fun n h => by cases h), by simp, rfl⟩, ?_⟩
  rintro m σ H' ⟨kvs, L, ws, W, u4, u5, u6, u7, rfl, hs, hm', hp, hL, cL, hw', hpw, cW, h0, hc, few, rfl⟩
  refine ⟨_, rfl, _, .inl ⟨ws, SqL.of hw', rfl⟩, ?_⟩
  have lw : ws.length = W.length := Paired.length hpw
  cases ws with
  | nil =>
    -- nothing waits any more
    have eW : W = [] := List.length_eq_zero_iff.mp lw.symm
    subst eW
    refine iteF ⟨_, rfl, q H' mv hs hmv ⟨kvs, L, hm', ⟨pair_imp hp fun _ _ ⟨x1, l, x2, x9, x3⟩ => ⟨x1, l, x2, x9.2, x3⟩, hL, fun n => ⟨cL n, fun cn => ?_⟩⟩⟩⟩
    exact all_can (h0.resolve_right fun z => by cases z) (fun n hn u hu => (hc n hn u hu).resolve_right fun z => by cases z) cn
  | cons w0 wr =>
    refine iteT ⟨fun σ' H2 => ∃ m', m' < (3125 - L.length) * 26 + W.length ∧ _, fun _ _ z => z, ?_⟩
    -- the last that waits
    have hlast : ∃ n W0, W = W0 ++ [n] := ⟨W.getLast (fun z => by rw [z] at lw; cases lw), W.dropLast, (List.dropLast_concat_getLast _).symm⟩
    obtain ⟨n, W0, rfl⟩ := hlast
    generalize hws : w0 :: wr = ws at *
    have e1 : (W0 ++ [n])[ws.length - 1]? = some n := by
      rw [lw, List.length_append, List.length_singleton, Nat.add_sub_cancel, List.getElem?_append_right (Nat.le_refl _), Nat.sub_self]
      rfl
    obtain ⟨x, hx, qn, ex, hqn⟩ := pair_right hpw e1
    have hdrop : Paired (ArrAt H') ws.dropLast W0 := by
      have gen : ∀ {xs : List V} {ys : List (List Nat)}, Paired (ArrAt H') xs ys → Paired (ArrAt H') xs.dropLast ys.dropLast := by
        intro xs ys h
        induction h with
        | nil => exact .nil
        | cons r t ih =>
          cases t with
          | nil => exact .nil
          | cons r2 t2 => exact .cons r ih
      have := gen hpw
      rw [List.dropLast_concat] at this
      exact this
    subst ex
    refine ⟨_, rfl, .inl ⟨rfl, _, SqL.of hw'⟩, wt, ws, _, rfl, rfl, hw', hx, ?_⟩
    have k1 : KeepT H' (upd H' wt (.lst ws.dropLast)) := keepT_lst hw'
    have moved1 : ∀ kv n, MovesOn y H' (fun l => l ≠ wt ∧ H l = none) kv n → MovesOn y (upd H' wt (.lst ws.dropLast)) (fun l => l ≠ wt ∧ H l = none) kv n := fun kv n ⟨x1, l, x2, x3, vs, x4, x5⟩ =>
      ⟨x1, l, x2, x3, vs, by rw [upd_ne fun z => x3.1 z]; exact x4, pair_imp x5 fun _ _ z => z.keep k1⟩
    have m1 : (upd H' wt (.lst ws.dropLast)) mv = some (.dT kvs) := by rw [upd_ne nmw]; exact hm'
    have s1 : Same H (upd H' wt (.lst ws.dropLast)) := same_put hs hwt0
    have cn : Can y n := cW n (List.mem_append_right _ (List.mem_singleton.mpr rfl))
    have q1 := k1 _ _ hqn
    have wl : (upd H' wt (.lst ws.dropLast)) wt = some (.lst ws.dropLast) := upd_same
    generalize upd H' wt (.lst ws.dropLast) = H1 at *
    have hp1 : Paired (MovesOn y H1 (fun l => l ≠ wt ∧ H l = none)) kvs L := pair_imp hp moved1
    have hd1 : Paired (ArrAt H1) ws.dropLast W0 := pair_imp hdrop fun _ _ z => z.keep k1
    refine ⟨_, rfl, _, rfl, mv, _, rfl, DGet.t (k := keyN n) m1 (by rw [key_nums]; exact q1), _, rfl, ?_⟩
    by_cases hn : n ∈ L
    · -- met already
      obtain ⟨v, ev, _⟩ := dict_some hp1 MovesOn.key hn
      rw [ev]
      refine iteF ⟨_, ?_, kvs, L, _, W0, _, _, _, _, rfl, s1, m1, hp1, hL, cL, wl, hd1, fun k hk => cW k (List.mem_append_left _ hk), ?_, fun k hk u hu => ?_, ?_, rfl⟩
      · rw [List.length_append, List.length_singleton]
        omega
      · rcases h0 with z | z
        · exact .inl z
        · rcases List.mem_append.mp z with z | z
          · exact .inr z
          · rw [List.mem_singleton.mp z]; exact .inl hn
      · rcases hc k hk u hu with z | z
        · exact .inl z
        · rcases List.mem_append.mp z with z | z
          · exact .inr z
          · rw [List.mem_singleton.mp z]; exact .inl hn
      · rw [List.length_append, List.length_singleton] at few
        omega
    · -- a new one
      rw [dict_none hp1 MovesOn.key hn]
      have lk : kvs.length = L.length := Paired.length hp1
      have lnew : (L ++ [n]).length ≤ 3125 := can_len hy (by
        rw [List.nodup_append]
        refine ⟨hL, by simp, fun p hp q hq e => hn ?_⟩
        rw [← List.mem_singleton.mp hq, ← e]
        exact hp) fun k hk => by
          rcases List.mem_append.mp hk with z | z
          · exact cL k z
          · rw [List.mem_singleton.mp z]; exact cn
      rw [List.length_append, List.length_singleton] at lnew
      refine iteT ⟨_, rfl, _, rfl, a, qn, ts, y, n, rfl, ht.same s1, q1, hy.yd, cn.legal hy, cn.length hy, fun H2 l s2 nl ml => ?_⟩
      have m2 := s2 _ _ m1
      have q2 := s2 _ _ q1
      have w2 := s2 _ _ wl
      have hsame2 := s1.trans s2
      have nlw : l ≠ wt := (ne_of_none wl nl).symm
      refine ⟨_, rfl, _, rfl, mv, _, rfl, DPut.t (k := keyN n) m2 (by rw [key_nums]; exact q2) (Nat.lt_of_le_of_lt (show kvs.length ≤ 3125 by omega) (by decide)), ?_⟩
      have k3 : KeepT H2 (upd H2 mv (.dT (putK kvs (keyN n) (.ref l)))) := keepT_dT m2
      have s3 : Same H (upd H2 mv (.dT (putK kvs (keyN n) (.ref l)))) := same_put hsame2 hmv
      have m3 : (upd H2 mv (.dT (putK kvs (keyN n) (.ref l)))) mv = some (.dT (putK kvs (keyN n) (.ref l))) := upd_same
      have w3 : (upd H2 mv (.dT (putK kvs (keyN n) (.ref l)))) wt = some (.lst ws.dropLast) := by rw [upd_ne nmw.symm]; exact w2
      have l3 : MvsAt (upd H2 mv (.dT (putK kvs (keyN n) (.ref l)))) l (movesOf y n) := by
        obtain ⟨vs, x4, x5⟩ := ml
        exact ⟨vs, by rw [upd_ne (ne_of x4 m2 (by intro z; cases z))]; exact x4, pair_imp x5 fun _ _ z => z.keep k3⟩
      have p3 : Paired (MovesOn y (upd H2 mv (.dT (putK kvs (keyN n) (.ref l)))) (fun l => l ≠ wt ∧ H l = none)) (putK kvs (keyN n) (.ref l)) (L ++ [n]) := by
        refine dict_put (pair_imp hp1 fun kv k ⟨x1, l', x2, x3, vs, x4, x5⟩ => ⟨x1, l', x2, x3, vs, ?_, ?_⟩) MovesOn.key hn ⟨rfl, l, rfl, ⟨nlw, s1.free nl⟩, l3⟩
        · rw [upd_ne (ne_of (s2 _ _ x4) m2 (by intro z; cases z))]
          exact s2 _ _ x4
        · exact pair_imp x5 fun _ _ z => z.keep ((same_keepT s2).trans k3)
      have d3 : Paired (ArrAt (upd H2 mv (.dT (putK kvs (keyN n) (.ref l))))) ws.dropLast W0 := pair_imp hd1 fun _ _ z => z.keep ((same_keepT s2).trans k3)
      have q3 := k3 _ _ q2
      generalize upd H2 mv (.dT (putK kvs (keyN n) (.ref l))) = H3 at *
      obtain ⟨mvs, lv, lp⟩ := l3
      have lm : mvs.length = (movesOf y n).length := Paired.length lp
      have get3 : DGet H3 mv (.ref qn) (some (.ref l)) := by
        have := DGet.t (k := keyN n) m3 (by rw [key_nums]; exact q3)
        rw [valV_put, if_pos rfl] at this
        exact this
      refine ⟨_, rfl, _, rfl, mv, _, rfl, get3, l, rfl, ⟨_, SqL.of lv⟩, for_list (K := K) (a := l) (xs := mvs) (fun j σ H4 => ∃ vs v5 v6 v7, σ = [some (.ref a), some (.ref b), some (.ref mv), some (.ref wt), some (.ref qn), v5, v6, v7] ∧ Same H H4 ∧ H4 mv = some (.dT (putK kvs (keyN n) (.ref l))) ∧
        Paired (MovesOn y H4 (fun l => l ≠ wt ∧ H l = none)) (putK kvs (keyN n) (.ref l)) (L ++ [n]) ∧ H4 wt = some (.lst vs) ∧ Paired (ArrAt H4) vs (W0 ++ ((movesOf y n).take j).map fun m => m.2.2) ∧ H4 l = some (.lst mvs) ∧ Paired (MvAt H4) mvs (movesOf y n))
        ⟨ws.dropLast, _, _, _, rfl, s3, m3, p3, w3, by simpa using d3, lv, lp⟩ ?_ ?_ ?_⟩
      · rintro j σ H4 _ ⟨_, _, _, _, _, _, _, _, _, _, lv4, _⟩
        exact SqL.of lv4
      · rintro j x σ H4 hx ⟨vs, v5, v6, v7, rfl, s4, m4, p4, w4, d4, lv4, lp4⟩
        have hj : j < (movesOf y n).length := by
          have := (List.getElem?_eq_some_iff.mp hx).1
          omega
        obtain ⟨z, hz, t, q5, rfl, ht5, hq5⟩ := pair_right lp4 (List.getElem?_eq_getElem hj)
        rw [hx] at hz
        cases hz
        refine ⟨t, _, rfl, SqT.of ht5, rfl, _, _, rfl, _, _, rfl, _, _, rfl, rfl, ?_⟩
        have len4 : vs.length ≤ 90000 := by
          have e2 : vs.length = _ := Paired.length d4
          have e3 : (movesOf y n).length ≤ 25 := by
            have := movesUp_len y n n.length
            have h5 := hy.yd.cars
            have h6 := cn.length hy
            have h7 : (movesOf y n).length ≤ 5 * n.length := this
            omega
          rw [List.length_append, List.length_map, List.length_take] at e2
          rw [List.length_append, List.length_singleton] at few
          omega
        refine ⟨_, rfl, .inl ⟨rfl, _, SqL.of w4⟩, _, rfl, wt, vs, _, rfl, rfl, w4, Nat.lt_of_le_of_lt len4 (by decide), ?_⟩
        have k5 : KeepT H4 (upd H4 wt (.lst (vs ++ [.ref q5]))) := keepT_lst w4
        refine ⟨_, _, _, _, rfl, same_put s4 hwt0, by rw [upd_ne nmw]; exact m4, pair_imp p4 fun kv k ⟨x1, l', x2, x3, vs', x4, x5⟩ => ⟨x1, l', x2, x3, vs', by rw [upd_ne fun z => x3.1 z]; exact x4, pair_imp x5 fun _ _ z => z.keep k5⟩,
          upd_same, ?_, by rw [upd_ne nlw]; exact lv4, pair_imp lp4 fun _ _ z => z.keep k5⟩
        have e8 : (movesOf y n).take (j + 1) = (movesOf y n).take j ++ [(movesOf y n)[j]] := by rw [List.take_add_one, List.getElem?_eq_getElem hj]; rfl
        rw [e8, List.map_append, ← List.append_assoc]
        exact pair_snoc (pair_imp d4 fun _ _ z => z.keep k5) ⟨q5, rfl, k5 _ _ hq5⟩
      · rintro σ H4 ⟨vs, v5, v6, v7, rfl, s4, m4, p4, w4, d4, _, _⟩
        rw [lm, List.take_length] at d4
        have en : (movesOf y n).map (fun m => m.2.2) = nexts y n := (nexts_eq hy.yd n).symm
        rw [en] at d4
        have ln : (nexts y n).length ≤ 25 := by
          rw [← en, List.length_map]
          have := movesUp_len y n n.length
          have h5 := hy.yd.cars
          have h6 := cn.length hy
          have h7 : (movesOf y n).length ≤ 5 * n.length := this
          omega
        refine ⟨_, ?_, _, L ++ [n], vs, W0 ++ nexts y n, _, _, _, _, rfl, s4, m4, p4, ?_, fun k hk => ?_, w4, d4, fun k hk => ?_, ?_, fun k hk u hu => ?_, ?_, rfl⟩
        · simp only [List.length_append, List.length_singleton]
          omega
        · rw [List.nodup_append]
          refine ⟨hL, by simp, fun p hp q hq e => hn ?_⟩
          rw [← List.mem_singleton.mp hq, ← e]
          exact hp
        · rcases List.mem_append.mp hk with z | z
          · exact cL k z
          · rw [List.mem_singleton.mp z]; exact cn
        · rcases List.mem_append.mp hk with z | z
          · exact cW k (List.mem_append_left _ z)
          · exact cn.next z
        · rcases h0 with z | z
          · exact .inl (List.mem_append_left _ z)
          · rcases List.mem_append.mp z with z | z
            · exact .inr (List.mem_append_left _ z)
            · exact .inl (List.mem_append_right _ z)
        · rcases List.mem_append.mp hk with z | z
          · rcases hc k z u hu with z | z
            · exact .inl (List.mem_append_left _ z)
            · rcases List.mem_append.mp z with z | z
              · exact .inr (List.mem_append_left _ z)
              · exact .inl (List.mem_append_right _ z)
          · rw [List.mem_singleton.mp z] at hu
            exact .inr (List.mem_append_right _ hu)
        · rw [List.length_append, List.length_append, List.length_singleton]
          rw [List.length_append, List.length_singleton] at few
          omega
end
end Cy

set_option Elab.async false
set_option maxRecDepth 100000
set_option maxHeartbeats 2000000
/-! count_arrangements, is_as_wanted. -/
namespace Cy
open PySem PySem.Spec PyProof.Rows L2
open Cr (nums)
open Sy66 (Car carOf done reach ends moved nexts legal arrangements)
section
variable {P : Program} {w : World} {K : PySem.W.Frag} {mg : Str → Option Value} {base : Heap} {C : Addr}

/-! ### count_arrangements -/
/-- one car more, at its first m places -/
def growUp (s : St) (i : Nat) (l : List Nat) (m : Nat) : List (List Nat) := ((List.range m).filter fun o => decide (maskN s (carOf s i) o &&& takenN s l = 0)).map fun o => l ++ [o]
theorem growUp_succ (s : St) (i : Nat) (l : List Nat) (m : Nat) : growUp s i l (m + 1) = growUp s i l m ++ if maskN s (carOf s i) m &&& takenN s l = 0 then [l ++ [m]] else [] := by
  unfold growUp
  rw [List.range_succ, List.filter_append, List.map_append]
  congr 1
  by_cases h : maskN s (carOf s i) m &&& takenN s l = 0
  · rw [if_pos h, List.filter_cons_of_pos (by simpa using h)]
    rfl
  · rw [if_neg h, List.filter_cons_of_neg (by simpa using h)]
    rfl
theorem growUp_len (s : St) (i : Nat) (l : List Nat) (m : Nat) : (growUp s i l m).length ≤ m := by
  unfold growUp
  rw [List.length_map]
  have := List.length_filter_le (fun o => decide (maskN s (carOf s i) o &&& takenN s l = 0)) (List.range m)
  rw [List.length_range] at this
  exact this
theorem flat_len {A B : Type} {f : A → List B} {c : Nat} (h : ∀ a, (f a).length ≤ c) : ∀ l : List A, (l.flatMap f).length ≤ c * l.length
  | [] => by simp
  | a :: l => by
    rw [List.flatMap_cons, List.length_append, List.length_cons, Nat.mul_succ]
    have := flat_len h l
    have := h a
    omega
theorem arr_grow (s : St) (i : Nat) : arrUp s (i + 1) = (arrUp s i).flatMap fun l => growUp s i l (many s (carOf s i)) := rfl
theorem take_snoc {A : Type} {l : List A} {j : Nat} (hj : j < l.length) : l.take (j + 1) = l.take j ++ [l[j]] := by
  rw [List.take_add_one, List.getElem?_eq_getElem hj]
  rfl
def spCount : Sp := fun vs H Q _ => ∃ (a : Addr) (ts : List Addr) (s : St), vs = [.ref a] ∧ TrackAt H a ts s ∧ Ok s ∧ ∀ H', Same H H' → Q (.int ((arrangements s).length : Nat)) H'
theorem scCount : FnScope ["tracks", "takings", "track", "longer", "taken", "cells"] ["tracks"] (C8.fnScope sCount) := C8.fnScope_by (by decide +kernel)
theorem ok_count {f : Addr} {fd : FuncData} (F : C8.Def K mg "count_arrangements" sCount f fd) (b : Binds K fd ["tracks"] []) (T : Txt K mg C) : C8.Cal P w K mg base 1 "count_arrangements" spCount [] := by
  refine C8.cal0 F b .nil scCount (fun vs H Q E h => ?_) (fun cdv A outer s H vs Q E hr h => ?_)
  · obtain ⟨_, _, _, rfl, _⟩ := h
    rfl
  obtain ⟨a, ts, y, rfl, ht, hy, q⟩ := h
  refine ⟨_, pss_cons (ps_set (i := 1) scCount.nd rfl (.inl rfl) (pe_lst (pa_cons pe_int pa_nil)))
    (pss_cons (ps_for PassesOwn.never rfl (pi_list (pv 0)) (pg_name (i := 2) scCount.nd rfl (.inl rfl))
      (pss_cons (ps_set (i := 3) scCount.nd rfl (.inl rfl) (pe_lst pa_nil))
      (pss_cons (ps_for PassesOwn.never rfl (pi_list (pv 1)) (pg_name (i := 4) scCount.nd rfl (.inl rfl))
        (pss_one (ps_for PassesOwn.never rfl (pi_list (pv 2)) (pg_name (i := 5) scCount.nd rfl (.inl rfl))
          (pss_one (ps_if (pt_not (pt_truth (pe_op op_and (pv 5) (pv 4)) (by intro _; rfl)))
            (pss_one (ps_expr (pe_bm PySem.F.plainAttrs_list PySem.F.slot_list_append PySem.F.type_list_append mt_append (pv 3) (pa_cons (pe_op op_or (pv 4) (pv 5)) pa_nil))))
            pss_nil)))))
      (pss_one (ps_set (i := 1) scCount.nd rfl (.inl rfl) (pv 3))))))
    (pss_one (ps_ret (pe_callB call_len_seq (by rfl) T.len PySem.boot_len (pa_cons (pv 1) pa_nil))))), ?_⟩
  refine ⟨by show 1 ≤ sizeLine; decide, fun t0 ht0 => ?_⟩
  have five := hy.yd.cars
  have lt : ts.length = y.cars.length := ht.len
  refine ⟨_, rfl, a, rfl, ⟨_, SqL.of (same_new ht0 _ _ ht.lst)⟩, for_list (K := K) (a := a) (xs := ts.map V.ref) (fun i σ H' => ∃ tk u2 u3 u4 u5, σ = [some (.ref a), some (.ref tk), u2, u3, u4, u5] ∧ Same H H' ∧ H' tk = some (.lst (nums ((arrUp y i).map (takenN y)))))
    ⟨t0, none, none, none, none, rfl, same_new ht0, upd_same⟩ ?_ ?_ ?_⟩
  · rintro i σ H' _ ⟨_, _, _, _, _, _, hs, _⟩
    exact SqL.of (hs _ _ ht.lst)
  · rintro i x σ H' hx ⟨tk, u2, u3, u4, u5, rfl, hs, htk⟩
    have hi : i < y.cars.length := by
      have := (List.getElem?_eq_some_iff.mp hx).1
      rw [List.length_map] at this
      omega
    have ht1 := ht.same hs
    obtain ⟨tr, htr, hcells⟩ := ht1.at hi
    rw [htr] at hx
    cases hx
    refine ⟨by show 0 ≤ sizeLine; decide, fun lo hlo => ?_⟩
    have s1 : Same H' (upd H' lo (.lst [])) := same_new hlo
    have htk1 := s1 _ _ htk
    have hc1 := s1 _ _ hcells
    have n1 : tk ≠ lo := ne_of_none htk hlo
    have n2 : tr ≠ lo := ne_of_none hcells hlo
    refine ⟨_, rfl, tk, rfl, ⟨_, SqL.of htk1⟩, for_list (K := K) (a := tk) (xs := nums ((arrUp y i).map (takenN y))) (fun j σ H2 => ∃ v4 v5, σ = [some (.ref a), some (.ref tk), some (.ref tr), some (.ref lo), v4, v5] ∧ Same H' H2 ∧ H2 lo = some (.lst (nums ((((arrUp y i).take j).flatMap fun l => growUp y i l (many y (carOf y i))).map (takenN y)))))
      ⟨u4, u5, rfl, s1, upd_same⟩ ?_ ?_ ?_⟩
    · rintro j σ H2 _ ⟨_, _, _, hs2, _⟩
      exact SqL.of (hs2 _ _ htk)
    · rintro j x σ H2 hx ⟨v4, v5, rfl, hs2, hlo2⟩
      have hj : j < (arrUp y i).length := by
        have := (List.getElem?_eq_some_iff.mp hx).1
        rw [nums_len, List.length_map] at this
        exact this
      rw [nums_at (x := takenN y (arrUp y i)[j]) (by rw [List.getElem?_map, List.getElem?_eq_getElem hj]; rfl)] at hx
      cases hx
      have ll : ((arrUp y i)[j]).length = i := arrUp_len (List.getElem_mem hj)
      refine ⟨_, rfl, tr, rfl, ⟨_, SqL.of (hs2 _ _ hcells)⟩, for_list (K := K) (a := tr) (xs := nums (track y (carOf y i))) (fun o σ H3 => ∃ v5, σ = [some (.ref a), some (.ref tk), some (.ref tr), some (.ref lo), some (.int (takenN y (arrUp y i)[j] : Nat)), v5] ∧ Same H' H3 ∧
        H3 lo = some (.lst (nums ((((arrUp y i).take j).flatMap fun l => growUp y i l (many y (carOf y i))).map (takenN y) ++ (growUp y i (arrUp y i)[j] o).map (takenN y)))))
        ⟨v5, rfl, hs2, by rw [show growUp y i (arrUp y i)[j] 0 = [] from rfl]; simpa using hlo2⟩ ?_ ?_ ?_⟩
      · rintro o σ H3 _ ⟨_, _, hs3, _⟩
        exact SqL.of (hs3 _ _ hcells)
      · rintro o x σ H3 hx ⟨v5, rfl, hs3, hlo3⟩
        have ho : o < many y (carOf y i) := by
          have := (List.getElem?_eq_some_iff.mp hx).1
          rw [nums_len, track_len] at this
          exact this
        rw [track_nums ho] at hx
        cases hx
        refine ⟨_, rfl, _, rfl, _, _, rfl, rfl, _, rfl, ?_⟩
        rw [and_nat, nat_ne0]
        by_cases z : maskN y (carOf y i) o &&& takenN y (arrUp y i)[j] = 0
        · rw [decide_eq_true z]
          refine iteT ⟨_, rfl, .inl ⟨rfl, _, SqL.of hlo3⟩, _, rfl, _, rfl, _, _, rfl, rfl, lo, _, _, rfl, rfl, hlo3, ?_, ?_⟩
          · have b1 := growUp_len y i (arrUp y i)[j] o
            have b2 := flat_len (f := fun l => growUp y i l (many y (carOf y i))) (fun l => growUp_len y i l (many y (carOf y i))) ((arrUp y i).take j)
            have b3 := many_le hy.yd hi
            have b4 := arrUp_few hy.yd (Nat.le_of_lt hi)
            have b5 : ((arrUp y i).take j).length ≤ 3125 := by rw [List.length_take]; omega
            have b6 : many y (carOf y i) * ((arrUp y i).take j).length ≤ 4 * 3125 := Nat.mul_le_mul b3 b5
            refine Nat.lt_of_le_of_lt (m := 20000) ?_ (by decide)
            rw [nums_len, List.length_append, List.length_map, List.length_map]
            omega
          · refine ⟨some (.int (maskN y (carOf y i) o : Nat)), rfl, same_put hs3 hlo, ?_⟩
            rw [upd_same, growUp_succ, if_pos z, List.map_append, ← List.append_assoc, nums_app (_ ++ _)]
            have e : takenN y ((arrUp y i)[j] ++ [o]) = takenN y (arrUp y i)[j] ||| maskN y (carOf y i) o := by rw [taken_snoc, ll]
            rw [List.map_cons, List.map_nil, e]
            show some (HO.lst (_ ++ [V.int (Builtin.bitOr _ _)])) = _
            rw [or_nat]
            rfl
        · rw [decide_eq_false z]
          refine iteF ⟨some (.int (maskN y (carOf y i) o : Nat)), rfl, hs3, ?_⟩
          rw [growUp_succ, if_neg z, List.append_nil]
          exact hlo3
      · rintro σ H3 ⟨v5, rfl, hs3, hlo3⟩
        rw [nums_len, track_len] at hlo3
        refine ⟨_, _, rfl, hs3, ?_⟩
        rw [take_snoc hj, List.flatMap_append, List.map_append, List.flatMap_cons, List.flatMap_nil, List.append_nil]
        exact hlo3
    · rintro σ H2 ⟨v4, v5, rfl, hs2, hlo2⟩
      rw [nums_len, List.length_map, List.take_length] at hlo2
      exact ⟨_, rfl, lo, _, _, _, _, rfl, hs.trans hs2, hlo2⟩
  · rintro σ H' ⟨tk, u2, u3, u4, u5, rfl, hs, htk⟩
    rw [List.length_map, lt] at htk
    refine ⟨_, rfl, tk, _, rfl, .inl (SqL.of htk), ?_⟩
    rw [nums_len, List.length_map, arr_count hy]
    exact q H' hs

/-! ### is_as_wanted -/
def wantK (ws : List (Nat × Nat)) : List (Key × V) := ws.map fun x => (Sum.inl (x.1 : Int), V.int (x.2 : Int))
theorem wantK_len (ws : List (Nat × Nat)) : (wantK ws).length = ws.length := List.length_map ..
def spWanted : Sp := fun vs H Q _ => ∃ (b d : Addr) (l : List Nat) (s : St), vs = [.ref b, .ref d] ∧ H b = some (.tup (nums l)) ∧ H d = some (.dK (wantK s.wants)) ∧ (∀ x ∈ s.wants, x.1 < l.length) ∧ ∀ H', Same H H' → Q (.bl (done s l)) H'
theorem scWanted : FnScope ["places", "wanted", "car", "place"] ["places", "wanted"] (C8.fnScope sWanted) := C8.fnScope_by (by decide +kernel)
theorem ok_wanted {f : Addr} {fd : FuncData} (F : C8.Def K mg "is_as_wanted" sWanted f fd) (b : Binds K fd ["places", "wanted"] []) : C8.Cal P w K mg base 1 "is_as_wanted" spWanted [] := by
  refine C8.cal0 F b .nil scWanted (fun vs H Q E h => ?_) (fun cdv A outer s H vs Q E hr h => ?_)
  · obtain ⟨_, _, _, _, rfl, _⟩ := h
    rfl
  obtain ⟨b, d, l, y, rfl, hb, hd, hw, q⟩ := h
  refine ⟨_, pss_cons (ps_lock (ps_for PassesOwn.never rfl (pi_items (pv 1)) (pg_tup rfl (pgs_cons (pg_name (i := 2) scWanted.nd rfl (.inl rfl)) (pgs_cons (pg_name (i := 3) scWanted.nd rfl (.inl rfl)) pgs_nil)))
      (pss_one (ps_if (pt_cmpR op_ne (pe_ix ix_tup (pv 0) (pv 2) (fun _ _ => rfl)) (pv 3) (nomark _)) (pss_one (ps_ret pe_bl)) pss_nil))))
    (pss_one (ps_ret pe_bl)), ?_⟩
  have nbd : b ≠ d := ne_of hb hd (by intro z; cases z)
  refine ⟨d, _, hd, True.intro, fun od => ?_⟩
  have un : ∀ H', (∀ c o, c ≠ d → H c = some o → H' c = some o) → Same H (upd H' d (.dK (wantK y.wants))) := fun H' k c o e => by
    by_cases z : c = d
    · subst z
      rw [hd] at e
      cases e
      exact upd_same
    · rw [upd_ne z]
      exact k c o z e
  refine ⟨_, rfl, d, od, _, rfl, upd_same, for_it walk_items (fun i σ H' => ∃ u v, σ = [some (.ref b), some (.ref d), u, v] ∧ H' d = some (.frz od (.dK (wantK y.wants))) ∧ (∀ c o, c ≠ d → H c = some o → H' c = some o) ∧ ∀ x ∈ y.wants.take i, l.getD x.1 0 = x.2)
    ⟨none, none, rfl, upd_same, fun c o h e => by rw [upd_ne h]; exact e, fun x hx => by cases hx⟩ ?_ ?_ ?_⟩
  · rintro i σ H' _ ⟨_, _, _, hd', _⟩
    exact hd'
  · rintro i x σ H' H2 hi ⟨u, v, rfl, hd', k, all⟩ ⟨t, x1, x2, rfl, nt, rfl, e1, e2⟩
    rw [wantK_len] at hi
    have ei : (wantK y.wants)[i]? = some (Sum.inl ((y.wants[i]).1 : Int), V.int ((y.wants[i]).2 : Int)) := by
      unfold wantK
      rw [List.getElem?_map, List.getElem?_eq_getElem hi]
      rfl
    simp only [ei, Option.map_some] at e1 e2
    cases e1
    cases e2
    have ndt : d ≠ t := ne_of_none hd' nt
    have nbt : b ≠ t := ne_of_none (k _ _ nbd hb) nt
    have k2 : ∀ c o, c ≠ d → H c = some o → upd H' t (.tup [kV (Sum.inl ((y.wants[i]).1 : Int)), V.int ((y.wants[i]).2 : Int)]) c = some o := fun c o h e => by rw [upd_ne (ne_of_none (k c o h e) nt)]; exact k c o h e
    refine ⟨t, _, rfl, SqT.of upd_same, rfl, _, _, rfl, _, _, rfl, rfl, ?_⟩
    have hlt := hw _ (List.getElem_mem hi)
    refine ⟨_, rfl, _, rfl, b, _, _, _, rfl, rfl, SqT.of (k2 _ _ nbd hb), atI_nat (nums_getD hlt), _, rfl, rfl, _, rfl, ?_⟩
    by_cases z : l.getD (y.wants[i]).1 0 = (y.wants[i]).2
    · rw [decide_eq_true (show V.int ((l.getD (y.wants[i]).1 0 : Nat) : Int) = V.int ((y.wants[i]).2 : Int) by rw [z])]
      refine iteF ⟨_, _, rfl, by rw [upd_ne ndt]; exact hd', k2, fun x hx => ?_⟩
      rw [take_snoc hi] at hx
      rcases List.mem_append.mp hx with hx | hx
      · exact all x hx
      · rw [List.mem_singleton.mp hx]; exact z
    · rw [decide_eq_false (show ¬ V.int ((l.getD (y.wants[i]).1 0 : Nat) : Int) = V.int ((y.wants[i]).2 : Int) from fun e => z (Int.ofNat.inj (V.int.inj e)))]
      refine iteT ⟨by rw [upd_ne ndt]; exact hd', ?_⟩
      have e : done y l = false := by
        unfold Sy66.done
        rw [List.all_eq_false]
        exact ⟨_, List.getElem_mem hi, by simpa using z⟩
      have := q _ (un _ k2)
      rw [e] at this
      exact this
  · rintro σ H' ⟨u, v, rfl, hd', k, all⟩
    rw [wantK_len, List.take_length] at all
    refine ⟨hd', ?_⟩
    have e : done y l = true := by
      unfold Sy66.done
      rw [List.all_eq_true]
      intro x hx
      simpa using all x hx
    have := q _ (un _ k)
    rw [e] at this
    exact this
end
end Cy

set_option Elab.async false
set_option maxRecDepth 100000
set_option maxHeartbeats 2000000
/-! next_layer, moves_needed. -/
namespace Cy
open PySem PySem.Spec PyProof.Rows L2
open Cr (nums)
open Sy66 (Car carOf done reach ends moved nexts legal arrangements)

/-- the numbers as a dict -/
def ndK (N : Nd) : List (List Key × V) := N.map fun p => (keyN p.1, V.int (p.2 : Int))
theorem ndK_len (N : Nd) : (ndK N).length = N.length := List.length_map ..
theorem ndK_pair : ∀ N : Nd, Paired (fun (kv : List Key × V) (n : List Nat) => kv.1 = keyN n ∧ ∃ k, (n, k) ∈ N ∧ kv.2 = V.int ((k : Nat) : Int)) (ndK N) (N.map (·.1))
  | [] => .nil
  | p :: N => .cons ⟨rfl, p.2, List.mem_cons_self .., rfl⟩ (pair_imp (ndK_pair N) fun _ _ ⟨a, k, b, c⟩ => ⟨a, k, List.mem_cons_of_mem _ b, c⟩)
theorem nd_none {N : Nd} {n : List Nat} (h : n ∉ N.map (·.1)) : valV (ndK N) (keyN n) = none := dict_none (ndK_pair N) (fun _ _ q => q.1) h
theorem nd_in {N : Nd} {n : List Nat} (h : n ∈ N.map (·.1)) : ∃ k, (n, k) ∈ N ∧ valV (ndK N) (keyN n) = some (.int ((k : Nat) : Int)) := by
  obtain ⟨v, e, _, k, hk, ev⟩ := dict_some (ndK_pair N) (fun _ _ q => q.1) h
  have ev : v = _ := ev
  exact ⟨k, hk, by rw [e, ev]⟩
theorem nd_put {N : Nd} {n : List Nat} {k : Nat} (h : n ∉ N.map (·.1)) : putK (ndK N) (keyN n) (.int (k : Int)) = ndK (N ++ [(n, k)]) := by
  rw [putK_new _ (nd_none h)]
  unfold ndK
  rw [List.map_append]
  rfl
theorem nd_val {s : St} {N : Nd} (h : Needs s N) {n : List Nat} {k : Nat} (hm : (n, k) ∈ N) : valV (ndK N) (keyN n) = some (.int (k : Int)) := by
  obtain ⟨j, hj, e⟩ := nd_in (List.mem_map.mpr ⟨(n, k), hm, rfl⟩)
  rw [e, (h.at hj).unique (h.at hm)]

/-- lists and tuples stand -/
structure KeepS (H H' : Hp) : Prop where
  lst : ∀ b xs, H b = some (.lst xs) → H' b = some (.lst xs)
  tup : KeepT H H'
theorem KeepS.moves {H H' : Hp} {l : Addr} {ms : List (Nat × Nat × List Nat)} (k : KeepS H H') (h : MvsAt H l ms) : MvsAt H' l ms := let ⟨vs, hl, hp⟩ := h; ⟨vs, k.lst l _ hl, pair_imp hp fun _ _ q => q.keep k.tup⟩
theorem Known.keepS {s : St} {H H' : Hp} {Pr : Addr → Prop} {kvs : List (List Key × V)} {L : List (List Nat)} (h : Known s H Pr kvs L) (k : KeepS H H') : Known s H' Pr kvs L :=
  ⟨pair_imp h.each fun _ _ ⟨a, l, b, c, d⟩ => ⟨a, l, b, c, k.moves d⟩, h.nodup, h.mem⟩
/-- all stands but z -/
def But (z : Addr) (H H' : Hp) : Prop := ∀ b o, b ≠ z → H b = some o → H' b = some o
theorem But.keepS {z : Addr} {H H' : Hp} {kvs : List (List Key × V)} (k : But z H H') (hz : H z = some (.dT kvs)) : KeepS H H' :=
  ⟨fun b xs e => k b _ (ne_of e hz (by intro q; cases q)) e, fun b xs e => k b _ (ne_of e hz (by intro q; cases q)) e⟩
theorem But.same {z : Addr} {H H1 H2 : Hp} (k : But z H H1) (s : Same H1 H2) : But z H H2 := fun b o h e => s b o (k b o h e)
theorem But.put {z : Addr} {H H1 : Hp} {o : HO} (k : But z H H1) : But z H (upd H1 z o) := fun b u h e => by rw [upd_ne h]; exact k b u h e
theorem But.new {z p : Addr} {H H1 : Hp} {o : HO} (k : But z H H1) (hp : H p = none) : But z H (upd H1 p o) := fun b u h e => by rw [upd_ne (ne_of_none e hp)]; exact k b u h e
/-- the moves of one that is known -/
theorem Known.list {s : St} {H : Hp} {Pr : Addr → Prop} {kvs : List (List Key × V)} {L : List (List Nat)} {n : List Nat} (h : Known s H Pr kvs L) (hn : n ∈ L) : ∃ l, valV kvs (keyN n) = some (.ref l) ∧ MvsAt H l (movesOf s n) := by
  obtain ⟨v, e, _, l, ev, _, m⟩ := dict_some h.each MovesOn.key hn
  have ev : v = .ref l := ev
  exact ⟨l, by rw [e, ev], m⟩
theorem dget {H : Hp} {d q : Addr} {n : List Nat} {kvs : List (List Key × V)} {o : Option V} (hd : Rd H d (.dT kvs)) (hq : H q = some (.tup (nums n))) (e : valV kvs (keyN n) = o) : DGet H d (.ref q) o :=
  .inr ⟨kvs, keyN n, q, hd, rfl, by rw [key_nums]; exact hq, e.symm⟩

section
variable {P : Program} {w : World} {K : PySem.W.Frag} {mg : Str → Option Value} {base : Heap} {C : Addr}

/-! ### next_layer -/
/-- as of the moves of n so far -/
def metOf (s : St) (made : Nat) (x : Nd × List (List Nat)) (n : List Nat) (j : Nat) : Nd × List (List Nat) := metAll made x (((movesOf s n).take j).map fun m => m.2.2)
def spLayer : Sp := fun vs H Q _ => ∃ (mv ly nd : Addr) (made : Nat) (s : St) (Pr : Addr → Prop) (kvs : List (List Key × V)) (L W : List (List Nat)) (ws : List V) (N : Nd), vs = [.ref mv, .ref ly, .ref nd, .int (made : Int)] ∧ Ok s ∧ H mv = some (.dT kvs) ∧ Known s H Pr kvs L ∧
  H ly = some (.lst ws) ∧ Paired (ArrAt H) ws W ∧ (∀ n ∈ W, n ∈ L) ∧ H nd = some (.dT (ndK N)) ∧ mv ≠ nd ∧ (N.map (·.1)).Nodup ∧ (∀ n ∈ N.map (·.1), n ∈ L) ∧
  ∀ H' fo vs', But nd H H' → H' nd = some (.dT (ndK (metAll made (N, []) (W.flatMap (nexts s))).1)) → H fo = none → H' fo = some (.lst vs') → Paired (ArrAt H') vs' (metAll made (N, []) (W.flatMap (nexts s))).2 → Q (.ref fo) H'
theorem scLayer : FnScope ["moves", "layer", "needed", "made", "found", "places", "car", "place", "after"] ["moves", "layer", "needed", "made"] (C8.fnScope sLayer) := C8.fnScope_by (by decide +kernel)
theorem ok_layer {f : Addr} {fd : FuncData} (F : C8.Def K mg "next_layer" sLayer f fd) (b : Binds K fd ["moves", "layer", "needed", "made"] []) : C8.Cal P w K mg base 1 "next_layer" spLayer [] := by
  refine C8.cal0 F b .nil scLayer (fun vs H Q E h => ?_) (fun cdv A outer s H vs Q E hr h => ?_)
  · obtain ⟨_, _, _, _, _, _, _, _, _, _, _, rfl, _⟩ := h
    rfl
  obtain ⟨mv, ly, nd, made, y, Pr, kvs, L, W, ws, N, rfl, hy, hm, hk, hl, hw, wL, hn, ne, nN, NL, q⟩ := h
  have hu := hu_of hr
  refine ⟨_, pss_cons (ps_set (i := 4) scLayer.nd rfl (.inl rfl) (pe_lst pa_nil))
    (pss_cons (ps_for PassesOwn.never rfl (pi_list (pv 1)) (pg_name (i := 5) scLayer.nd rfl (.inl rfl))
      (pss_one (ps_for PassesOwn.never rfl (pi_list (pe_dget hu (pv 0) (pv 5) (fun _ _ => rfl)))
        (pg_tup rfl (pgs_cons (pg_name (i := 6) scLayer.nd rfl (.inl rfl)) (pgs_cons (pg_name (i := 7) scLayer.nd rfl (.inl rfl)) (pgs_cons (pg_name (i := 8) scLayer.nd rfl (.inl rfl)) pgs_nil))))
        (pss_one (ps_if (pt_cmp (pc_dnotin hu (pv 8) (pv 2)))
          (pss_cons (ps_dput hu (pv 2) (pv 8) (pv 3) rfl)
          (pss_one (ps_expr (pe_bm PySem.F.plainAttrs_list PySem.F.slot_list_append PySem.F.type_list_append mt_append (pv 4) (pa_cons (pv 8) pa_nil)))))
          pss_nil)))))
    (pss_one (ps_ret (pv 4)))), ?_⟩
  refine ⟨by show 0 ≤ sizeLine; decide, fun fo hfo => ?_⟩
  have nfn : fo ≠ nd := (ne_of_none hn hfo).symm
  have lw : ws.length = W.length := Paired.length hw
  have b0 : But nd H (upd H fo (.lst [])) := fun b o _ e => same_new hfo b o e
  -- how long the dict may become
  have short : ∀ X : Nd, (X.map (·.1)).Nodup → (∀ n ∈ X.map (·.1), n ∈ L) → X.length ≤ 3125 := fun X h1 h2 => by
    have := can_len hy h1 fun n z => (hk.mem n).mp (h2 n z)
    rw [List.length_map] at this
    exact this
  refine ⟨_, rfl, ly, rfl, ⟨_, SqL.of (same_new hfo _ _ hl)⟩, for_list (K := K) (a := ly) (xs := ws) (fun i σ H' => ∃ vs u5 u6 u7 u8, σ = [some (.ref mv), some (.ref ly), some (.ref nd), some (.int (made : Int)), some (.ref fo), u5, u6, u7, u8] ∧ But nd H H' ∧
    H' nd = some (.dT (ndK (metAll made (N, []) ((W.take i).flatMap (nexts y))).1)) ∧ H' fo = some (.lst vs) ∧ Paired (ArrAt H') vs (metAll made (N, []) ((W.take i).flatMap (nexts y))).2)
    ⟨[], none, none, none, none, rfl, b0, by rw [upd_ne nfn.symm]; exact hn, upd_same, .nil⟩ ?_ ?_ ?_⟩
  · rintro i σ H' _ ⟨_, _, _, _, _, _, k, _⟩
    exact SqL.of ((k.keepS hn).lst _ _ hl)
  · rintro i x σ H' hx ⟨vs, u5, u6, u7, u8, rfl, k, hn', hf', hp'⟩
    have hi : i < W.length := by
      have := (List.getElem?_eq_some_iff.mp hx).1
      omega
    obtain ⟨x', hx', qn, rfl, hqn⟩ := pair_right hw (List.getElem?_eq_getElem hi)
    rw [hx] at hx'
    cases hx'
    have ks := k.keepS hn
    have hmL : W[i] ∈ L := wL _ (List.getElem_mem hi)
    obtain ⟨l, el, mvs, lv, lp⟩ := hk.list hmL
    have lm : mvs.length = (movesOf y W[i]).length := Paired.length lp
    have nlf : l ≠ fo := ne_of_none lv hfo
    refine ⟨_, rfl, _, rfl, mv, _, rfl, dget (.inl (k _ _ ne hm)) (ks.tup _ _ hqn) el, l, rfl, ⟨_, SqL.of (ks.lst _ _ lv)⟩, for_list (K := K) (a := l) (xs := mvs) (fun j σ H2 => ∃ vs v6 v7 v8, σ = [some (.ref mv), some (.ref ly), some (.ref nd), some (.int (made : Int)), some (.ref fo), some (.ref qn), v6, v7, v8] ∧ But nd H H2 ∧
      H2 nd = some (.dT (ndK (metOf y made (metAll made (N, []) ((W.take i).flatMap (nexts y))) W[i] j).1)) ∧ H2 fo = some (.lst vs) ∧ Paired (ArrAt H2) vs (metOf y made (metAll made (N, []) ((W.take i).flatMap (nexts y))) W[i] j).2)
      ⟨vs, u6, u7, u8, rfl, k, hn', hf', hp'⟩ ?_ ?_ ?_⟩
    · rintro j σ H2 _ ⟨_, _, _, _, _, k2, _⟩
      exact SqL.of ((k2.keepS hn).lst _ _ lv)
    · rintro j x σ H2 hx ⟨vs2, v6, v7, v8, rfl, k2, hn2, hf2, hp2⟩
      have hj : j < (movesOf y W[i]).length := by
        have := (List.getElem?_eq_some_iff.mp hx).1
        omega
      have ks2 := k2.keepS hn
      obtain ⟨z, hz, t, q5, rfl, ht5, hq5⟩ := pair_right lp (List.getElem?_eq_getElem hj)
      rw [hx] at hz
      cases hz
      have tj : (movesOf y W[i]).take (j + 1) = (movesOf y W[i]).take j ++ [(movesOf y W[i])[j]] := take_snoc hj
      have stepX : metOf y made (metAll made (N, []) ((W.take i).flatMap (nexts y))) W[i] (j + 1) = meet1 made (metOf y made (metAll made (N, []) ((W.take i).flatMap (nexts y))) W[i] j) ((movesOf y W[i])[j]).2.2 := by
        unfold metOf
        rw [tj, List.map_append, metAll_append]
        rfl
      -- what is known of the numbers so far
      have nodX : ((metOf y made (metAll made (N, []) ((W.take i).flatMap (nexts y))) W[i] j).1.map (·.1)).Nodup := by
        unfold metOf
        rw [← metAll_append]
        exact metAll_nodup _ _ nN
      have keyX : ∀ n ∈ (metOf y made (metAll made (N, []) ((W.take i).flatMap (nexts y))) W[i] j).1.map (·.1), n ∈ L := by
        intro n hn
        unfold metOf at hn
        rw [← metAll_append, metAll_keys] at hn
        rcases hn with hn | hn
        · exact NL n hn
        · rcases List.mem_append.mp hn with hn | hn
          · obtain ⟨p, hp, hn⟩ := List.mem_flatMap.mp hn
            exact (hk.mem n).mpr (((hk.mem p).mp (wL p (List.mem_of_mem_take hp))).next hn)
          · obtain ⟨m, hm, rfl⟩ := List.mem_map.mp hn
            refine (hk.mem _).mpr (((hk.mem _).mp hmL).next ?_)
            rw [nexts_eq hy.yd]
            exact List.mem_map.mpr ⟨m, List.mem_of_mem_take hm, rfl⟩
      have lenX := short _ nodX keyX
      have lenV : vs2.length ≤ 3125 := by
        have e1 : vs2.length = _ := Paired.length hp2
        have e2 := metAll_len (made := made) ((W.take i).flatMap (nexts y) ++ ((movesOf y W[i]).take j).map fun m => m.2.2) (N, [])
        rw [metAll_append] at e2
        have e3 : (metOf y made (metAll made (N, []) ((W.take i).flatMap (nexts y))) W[i] j).1.length + 0 = N.length + (metOf y made (metAll made (N, []) ((W.take i).flatMap (nexts y))) W[i] j).2.length := e2
        omega
      generalize hX : metOf y made (metAll made (N, []) ((W.take i).flatMap (nexts y))) W[i] j = X at *
      generalize hY : metOf y made (metAll made (N, []) ((W.take i).flatMap (nexts y))) W[i] (j + 1) = Y at *
      generalize hu' : ((movesOf y W[i])[j]).2.2 = un at *
      subst stepX
      have g5 := ks2.tup _ _ hq5
      refine ⟨t, _, rfl, SqT.of (ks2.tup _ _ ht5), rfl, _, _, rfl, _, _, rfl, _, _, rfl, rfl, ?_⟩
      refine ⟨_, rfl, _, rfl, nd, _, rfl, dget (.inl hn2) g5 rfl, _, rfl, ?_⟩
      by_cases c : un ∈ X.1.map (·.1)
      · obtain ⟨k9, _, e9⟩ := nd_in c
        rw [e9, meet1_old c]
        exact iteF ⟨vs2, _, _, _, rfl, k2, hn2, hf2, hp2⟩
      · rw [nd_none c, meet1_new c]
        refine iteT ⟨_, rfl, _, rfl, _, rfl, nd, _, rfl, DPut.t (k := keyN un) hn2 (by rw [key_nums]; exact g5) (by rw [ndK_len]; exact Nat.lt_of_le_of_lt lenX (by decide)), ?_⟩
        rw [nd_put c]
        have k3 : But nd H (upd H2 nd (.dT (ndK (X.1 ++ [(un, made)])))) := k2.put
        have t3 : KeepT H2 (upd H2 nd (.dT (ndK (X.1 ++ [(un, made)])))) := keepT_dT hn2
        have f3 : (upd H2 nd (.dT (ndK (X.1 ++ [(un, made)])))) fo = some (.lst vs2) := by rw [upd_ne nfn]; exact hf2
        have n3 : (upd H2 nd (.dT (ndK (X.1 ++ [(un, made)])))) nd = some (.dT (ndK (X.1 ++ [(un, made)]))) := upd_same
        have g3 := t3 _ _ g5
        generalize upd H2 nd (.dT (ndK (X.1 ++ [(un, made)]))) = H3 at *
        refine ⟨_, rfl, .inl ⟨rfl, _, SqL.of f3⟩, _, rfl, fo, vs2, _, rfl, rfl, f3, Nat.lt_of_le_of_lt lenV (by decide), ?_⟩
        have t4 : KeepT H3 (upd H3 fo (.lst (vs2 ++ [.ref q5]))) := keepT_lst f3
        exact ⟨_, _, _, _, rfl, k3.new hfo, by rw [upd_ne nfn.symm]; exact n3, upd_same, pair_snoc (pair_imp hp2 fun _ _ z => z.keep (t3.trans t4)) ⟨q5, rfl, t4 _ _ g3⟩⟩
    · rintro σ H2 ⟨vs2, v6, v7, v8, rfl, k2, hn2, hf2, hp2⟩
      have e : metOf y made (metAll made (N, []) ((W.take i).flatMap (nexts y))) W[i] mvs.length = metAll made (N, []) ((W.take (i + 1)).flatMap (nexts y)) := by
        unfold metOf
        rw [lm, List.take_length, ← nexts_eq hy.yd, ← metAll_append, take_snoc hi, List.flatMap_append, List.flatMap_cons, List.flatMap_nil, List.append_nil]
      rw [e] at hn2 hp2
      exact ⟨vs2, _, _, _, _, rfl, k2, hn2, hf2, hp2⟩
  · rintro σ H' ⟨vs, u5, u6, u7, u8, rfl, k, hn', hf', hp'⟩
    rw [lw, List.take_length] at hn' hp'
    exact ⟨_, rfl, q H' fo vs k hn' hfo hf' hp'⟩
end
end Cy

set_option Elab.async false
set_option maxRecDepth 100000
set_option maxHeartbeats 2000000
/-! moves_needed, first_nearer, first_plan. -/
namespace Cy
open PySem PySem.Spec PyProof.Rows L2
open Cr (nums)
open Sy66 (Car carOf done reach ends moved nexts legal arrangements)
section
variable {P : Program} {w : World} {K : PySem.W.Frag} {mg : Str → Option Value} {base : Heap} {C : Addr}

/-! ### moves_needed -/
theorem Ok.wantLt {y : St} (hy : Ok y) {n : List Nat} (hn : n.length = y.cars.length) : ∀ x ∈ y.wants, x.1 < n.length := fun x hx => by
  have := (hy.want x hx).1
  omega
theorem filter_snoc {A : Type} {p : A → Bool} {l : List A} {i : Nat} (hi : i < l.length) : (l.take (i + 1)).filter p = (l.take i).filter p ++ if p l[i] = true then [l[i]] else [] := by
  rw [take_snoc hi, List.filter_append]
  congr 1
  by_cases h : p l[i] = true <;> simp [h]
def spNeeded : Sp := fun vs H Q _ => ∃ (mv wd : Addr) (s : St) (Pr : Addr → Prop) (kvs : List (List Key × V)) (L : List (List Nat)), vs = [.ref mv, .ref wd] ∧ Ok s ∧ H mv = some (.dT kvs) ∧ Known s H Pr kvs L ∧ H wd = some (.dK (wantK s.wants)) ∧
  ∀ H' p N, Same H H' → H p = none → H' p = some (.dT (ndK N)) → Needs s N → Q (.ref p) H'
theorem scNeeded : FnScope ["moves", "wanted", "layer", "needed", "places", "made"] ["moves", "wanted"] (C8.fnScope sNeeded) := C8.fnScope_by (by decide +kernel)
theorem ok_needed {f : Addr} {fd : FuncData} (F : C8.Def K mg "moves_needed" sNeeded f fd) (b : Binds K fd ["moves", "wanted"] []) (cW : C8.Cal P w K mg base 1 "is_as_wanted" spWanted []) (cL : C8.Cal P w K mg base 1 "next_layer" spLayer []) :
    C8.Cal P w K mg base 2 "moves_needed" spNeeded [] := by
  refine C8.cal0 F b .nil scNeeded (fun vs H Q E h => ?_) (fun cdv A outer s H vs Q E hr h => ?_)
  · obtain ⟨_, _, _, _, _, _, rfl, _⟩ := h
    rfl
  obtain ⟨mv, wd, y, Pr, kvs, L, rfl, hy, hm, hk, hw, q⟩ := h
  have hu := hu_of hr
  refine ⟨_, pss_cons (ps_lock (ps_setLc (i := 2) (own := [("places", 4)]) (g := gName 4) rfl scNeeded.nd rfl rfl (sw_true rfl rfl rfl (by decide +kernel)) (pi_keys (pv 0)) (blkOk_by (N := ["moves", "wanted", "layer", "needed", "places", "made"]) (sc := C8.fnScope sNeeded) (by decide +kernel))
      (fun _ _ _ _ _ => pg_name (i := 4) scNeeded.nd rfl (Or.inl rfl)) (fun _ _ _ _ _ => pts_one (pt_val (C8.pe_c cW hr (by decide) rfl (pa_cons (pv 4) (pa_cons (pv 1) pa_nil))))) (fun _ _ _ _ _ => pv 4)))
    (pss_cons (ps_set (i := 3) scNeeded.nd rfl (.inl rfl) pe_dnewT)
    (pss_cons (ps_for PassesOwn.never rfl (pi_list (pv 2)) (pg_name (i := 4) scNeeded.nd rfl (.inl rfl)) (pss_one (ps_dput hu (pv 3) (pv 4) pe_int rfl)))
    (pss_cons (ps_set (i := 5) scNeeded.nd rfl (.inl rfl) pe_int)
    (pss_cons (ps_while PassesOwn.never (pt_truth (pv 2) (by intro _; rfl))
      (pss_cons (ps_set (i := 5) scNeeded.nd rfl (.inl rfl) (pe_op op_add (pv 5) pe_int))
      (pss_one (ps_set (i := 2) scNeeded.nd rfl (.inl rfl) (C8.pe_c cL hr (by decide) rfl (pa_cons (pv 0) (pa_cons (pv 2) (pa_cons (pv 3) (pa_cons (pv 5) pa_nil)))))))))
    (pss_one (ps_ret (pv 3))))))), ?_⟩
  have lk : kvs.length = L.length := Paired.length hk.each
  have lL := can_len hy hk.nodup fun n h => (hk.mem n).mp h
  have nmw : wd ≠ mv := (ne_of hm hw (by intro z; cases z)).symm
  refine ⟨mv, _, hm, True.intro, fun od => ?_⟩
  refine ⟨_, rfl, mv, od, rfl, .inr ⟨kvs, upd_same, fun D hD => ?_⟩⟩
  have nDm : D ≠ mv := (ne_of_none upd_same hD).symm
  have hD0 : H D = none := upd_none hD
  refine lc_it walk_keysT (fun i H' => H' mv = some (.frz od (.dT kvs)) ∧ (∀ b o, b ≠ mv → H b = some o → H' b = some o) ∧ ∃ vs, H' D = some (.lst vs) ∧ Paired (ArrAt H') vs ((L.take i).filter (done y)))
    ⟨by rw [upd_ne nDm.symm]; exact upd_same, fun b o h e => by rw [upd_ne (ne_of_none e hD0), upd_ne h]; exact e, [], upd_same, .nil⟩ (fun i H' _ h => h.1) ?_ ?_
  · rintro i x H1 H2 hi ⟨hm1, k1, vs, hd1, hp1⟩ ⟨rfl, k, v, qn, ek, rfl, hq⟩
    have hiL : i < L.length := by omega
    obtain ⟨kv, ekv, r1, _⟩ := pair_right hk.each (List.getElem?_eq_getElem hiL)
    rw [ek] at ekv
    cases ekv
    have r1 : k = keyN L[i] := r1
    subst r1
    rw [key_nums] at hq
    refine ⟨rfl, ?_⟩
    have cn := (hk.mem _).mp (List.getElem_mem hiL)
    refine ⟨_, rfl, _, rfl, qn, wd, L[i], y, rfl, hq, k1 _ _ nmw hw, hy.wantLt (cn.length hy), fun H3 s3 => ?_⟩
    refine ⟨_, rfl, ?_⟩
    have hd3 := s3 _ _ hd1
    by_cases c : done y L[i] = true
    · rw [c]
      refine iteT ⟨_, rfl, vs, hd3, ?_, ?_, fun b o h e => ?_, _, upd_same, ?_⟩
      · have e1 : vs.length = _ := Paired.length hp1
        have e2 := List.length_filter_le (done y) (L.take i)
        rw [List.length_take] at e2
        exact Nat.lt_of_le_of_lt (show vs.length ≤ 3125 by omega) (by decide)
      · rw [upd_ne nDm.symm]
        exact s3 _ _ hm1
      · rw [upd_ne (ne_of_none e hD0)]
        exact s3 _ _ (k1 b o h e)
      · have t3 : KeepT H3 (upd H3 D (.lst (vs ++ [.ref qn]))) := keepT_lst hd3
        rw [filter_snoc hiL, if_pos c]
        exact pair_snoc (pair_imp hp1 fun _ _ z => z.keep ((same_keepT s3).trans t3)) ⟨qn, rfl, t3 _ _ (s3 _ _ hq)⟩
    · rw [Bool.not_eq_true] at c
      rw [c]
      refine iteF ⟨s3 _ _ hm1, fun b o h e => s3 _ _ (k1 b o h e), vs, hd3, ?_⟩
      rw [filter_snoc hiL, if_neg (by rw [c]; decide), List.append_nil]
      exact pair_imp hp1 fun _ _ z => z.keep (same_keepT s3)
  · rintro H1 ⟨hm1, k1, ws, hd1, hp1⟩
    rw [lk, List.take_length] at hp1
    refine ⟨hm1, ?_⟩
    have s1 : Same H (upd H1 mv (.dT kvs)) := fun b o e => by
      by_cases z : b = mv
      · subst z
        rw [hm] at e
        cases e
        exact upd_same
      · rw [upd_ne z]
        exact k1 b o z e
    have hd2 : (upd H1 mv (.dT kvs)) D = some (.lst ws) := by rw [upd_ne nDm]; exact hd1
    have hp2 : Paired (ArrAt (upd H1 mv (.dT kvs))) ws (L.filter (done y)) := pair_imp hp1 fun _ _ ⟨q9, e9, h9⟩ => ⟨q9, e9, by rw [upd_ne fun z => by rw [z, hm1] at h9; cases h9]; exact h9⟩
    generalize upd H1 mv (.dT kvs) = H2 at *
    refine fun nd hnd => ?_
    have s3 : Same H (upd H2 nd (.dT [])) := s1.trans (same_new hnd)
    have hnd0 : H nd = none := s1.free hnd
    have nDn : D ≠ nd := ne_of_none hd2 hnd
    have nmn : mv ≠ nd := ne_of_none hm hnd0
    have lw : ws.length = (L.filter (done y)).length := Paired.length hp2
    have n0 : (L.filter (done y)).Nodup := hk.nodup.filter _
    refine ⟨_, rfl, D, rfl, ⟨_, SqL.of (same_new hnd _ _ hd2)⟩, for_list (K := K) (a := D) (xs := ws) (fun i σ H' => ∃ u4 u5, σ = [some (.ref mv), some (.ref wd), some (.ref D), some (.ref nd), u4, u5] ∧ Same H H' ∧ H' D = some (.lst ws) ∧ Paired (ArrAt H') ws (L.filter (done y)) ∧
      H' nd = some (.dT (ndK (((L.filter (done y)).take i).map fun n => (n, 0))))) ⟨none, none, rfl, s3, same_new hnd _ _ hd2, pair_imp hp2 fun _ _ z => z.keep (same_keepT (same_new hnd)), upd_same⟩ ?_ ?_ ?_⟩
    · rintro i σ H' _ ⟨_, _, _, _, h9, _⟩
      exact SqL.of h9
    · rintro i x σ H' hx ⟨u4, u5, rfl, hs, hd', hp', hn'⟩
      have hi : i < (L.filter (done y)).length := by
        have := (List.getElem?_eq_some_iff.mp hx).1
        omega
      obtain ⟨x', hx', qn, rfl, hqn⟩ := pair_right hp' (List.getElem?_eq_getElem hi)
      rw [hx] at hx'
      cases hx'
      have fresh0 : (L.filter (done y))[i] ∉ (((L.filter (done y)).take i).map fun n => (n, 0)).map (·.1) := by
        rw [List.map_map]
        intro z
        obtain ⟨n, hn, e⟩ := List.mem_map.mp z
        have e : n = (L.filter (done y))[i] := e
        obtain ⟨j, hj, ej⟩ := List.mem_iff_getElem.mp hn
        rw [List.length_take] at hj
        rw [List.getElem_take, e] at ej
        have := (List.getElem_inj n0).mp ej
        omega
      refine ⟨_, rfl, _, rfl, nd, _, rfl, DPut.t (k := keyN (L.filter (done y))[i]) hn' (by rw [key_nums]; exact hqn) ?_, ?_⟩
      · have e2 := List.length_filter_le (done y) L
        rw [ndK_len, List.length_map, List.length_take]
        exact Nat.lt_of_le_of_lt (show _ ≤ 3125 by omega) (by decide)
      · have e3 := nd_put (k := 0) fresh0
        have e4 : ((0 : Nat) : Int) = 0 := rfl
        rw [e4] at e3
        rw [e3]
        have t4 : KeepT H' (upd H' nd (.dT (ndK ((((L.filter (done y)).take i).map fun n => (n, 0)) ++ [((L.filter (done y))[i], 0)])))) := keepT_dT hn'
        refine ⟨_, _, rfl, same_put hs hnd0, by rw [upd_ne nDn]; exact hd', pair_imp hp' fun _ _ z => z.keep t4, ?_⟩
        rw [take_snoc hi, List.map_append]
        exact upd_same
    · rintro σ H' ⟨u4, u5, rfl, hs, hd', hp', hn'⟩
      rw [lw, List.take_length] at hn'
      -- layer by layer
      refine ⟨fun m σ H4 => ∃ ly ws W N d v4, σ = [some (.ref mv), some (.ref wd), some (.ref ly), some (.ref nd), v4, some (.int ((d : Nat) : Int))] ∧ Same H H4 ∧ H4 nd = some (.dT (ndK N)) ∧ H4 ly = some (.lst ws) ∧ Paired (ArrAt H4) ws W ∧
        Upto (nexts y) (fun n => n ∈ (reach y).filter (done y)) d N ∧ (∀ n, n ∈ W ↔ Dk (nexts y) (fun n => n ∈ (reach y).filter (done y)) d n) ∧ m = if W = [] then 0 else 4000 - N.length,
        ⟨_, D, ws, L.filter (done y), (L.filter (done y)).map fun n => (n, 0), 0, _, rfl, hs, hn', hd', hp', ⟨?_, fun n k => ?_⟩, fun n => ?_, rfl⟩, ?_⟩
      · rw [List.map_map]
        have : ((fun p : List Nat × Nat => p.1) ∘ fun n => (n, 0)) = id := rfl
        rw [this, List.map_id]
        exact n0
      · rw [List.mem_map]
        constructor
        · rintro ⟨a, ha, e⟩
          cases e
          obtain ⟨h1, h2⟩ := List.mem_filter.mp ha
          exact ⟨Nat.le_refl _, List.mem_filter.mpr ⟨(mem_reach hy).mpr ((hk.mem _).mp h1), h2⟩, fun j hj => by omega⟩
        · rintro ⟨h1, h2⟩
          have e : k = 0 := by omega
          subst e
          obtain ⟨h3, h4⟩ := List.mem_filter.mp (show n ∈ (reach y).filter (done y) from h2.1)
          exact ⟨n, List.mem_filter.mpr ⟨(hk.mem _).mpr ((mem_reach hy).mp h3), h4⟩, rfl⟩
      · constructor
        · intro h
          obtain ⟨h1, h2⟩ := List.mem_filter.mp h
          exact ⟨List.mem_filter.mpr ⟨(mem_reach hy).mpr ((hk.mem _).mp h1), h2⟩, fun j hj => by omega⟩
        · intro h
          obtain ⟨h3, h4⟩ := List.mem_filter.mp (show n ∈ (reach y).filter (done y) from h.1)
          exact List.mem_filter.mpr ⟨(hk.mem _).mpr ((mem_reach hy).mp h3), h4⟩
      · rintro m σ H4 ⟨ly, ws4, W, N, d, v4, rfl, s4, n4, l4, p4, up, hW, rfl⟩
        have lw4 : ws4.length = W.length := Paired.length p4
        refine ⟨_, rfl, _, .inl ⟨ws4, SqL.of l4, rfl⟩, ?_⟩
        cases ws4 with
        | nil =>
          have e : W = [] := List.length_eq_zero_iff.mp lw4.symm
          subst e
          refine iteF ⟨_, rfl, q H4 nd N s4 hnd0 n4 (Needs.of hy up.nodup (up.all fun n hn => ?_))⟩
          obtain ⟨p, hp, _⟩ := hn.pred
          have := (hW p).mpr hp
          cases this
        | cons w0 wr =>
          have hWne : W ≠ [] := fun e => by rw [e] at lw4; cases lw4
          refine iteT ⟨_, fun _ _ z => z, ?_⟩
          refine ⟨_, rfl, _, _, rfl, rfl, ?_⟩
          have dkc : ∀ {k n}, Dk (nexts y) (fun n => n ∈ (reach y).filter (done y)) k n → n ∈ L := fun h => (hk.mem _).mpr ((ends_dk hy).mp h).1
          refine ⟨_, rfl, _, rfl, _, rfl, _, rfl, mv, ly, nd, d + 1, y, Pr, kvs, L, W, w0 :: wr, N, by rw [show ((d + 1 : Nat) : Int) = (d : Int) + 1 by omega]; rfl, hy, s4 _ _ hm, hk.same s4, l4, p4, fun n h => dkc ((hW n).mp h), n4, nmn, up.nodup, fun n h => ?_, fun H5 fo vs5 k5 n5 f5 e5 p5 => ?_⟩
          · obtain ⟨k, _, hd⟩ := up.key.mp h
            exact dkc hd
          · obtain ⟨u1, u2⟩ := up.next hW (A := W.flatMap (nexts y)) fun n => by
              rw [List.mem_flatMap]
            have more := metAll_len (made := d + 1) (W.flatMap (nexts y)) (N, [])
            have more' : (metAll (d + 1) (N, []) (W.flatMap (nexts y))).1.length + 0 = N.length + (metAll (d + 1) (N, []) (W.flatMap (nexts y))).2.length := more
            have top' : (metAll (d + 1) (N, []) (W.flatMap (nexts y))).1.length ≤ 3125 := by
              have := can_len hy u1.nodup fun n h => by
                obtain ⟨k, _, hd⟩ := u1.key.mp h
                exact ((ends_dk hy).mp hd).1
              rw [List.length_map] at this
              exact this
            refine ⟨_, ?_, fo, vs5, _, _, d + 1, _, by rw [show ((d + 1 : Nat) : Int) = (d : Int) + 1 by omega]; rfl, fun b o e => k5 b o (ne_of_none e hnd0) (s4 b o e), n5, e5, p5, u1, u2, rfl⟩
            rw [if_neg hWne]
            by_cases z : (metAll (d + 1) (N, []) (W.flatMap (nexts y))).2 = []
            · rw [if_pos z]
              omega
            · rw [if_neg z]
              have := List.length_pos_iff.mpr z
              omega

/-! ### first_nearer -/
theorem find_at {A : Type} {p : A → Bool} : ∀ {l : List A} {i : Nat} (hi : i < l.length), p l[i] = true → (∀ m ∈ l.take i, p m = false) → l.find? p = some l[i]
  | [], _, hi, _, _ => absurd hi (Nat.not_lt_zero _)
  | a :: l, 0, _, h, _ => List.find?_cons_of_pos h
  | a :: l, i + 1, hi, h, hn => by
    rw [List.find?_cons_of_neg (by rw [hn a (by simp)]; decide)]
    exact find_at (l := l) (i := i) (by simpa using hi) (by simpa using h) fun m hm => hn m (by rw [List.take_succ_cons]; exact List.mem_cons_of_mem _ hm)
def spNearer : Sp := fun vs H Q _ => ∃ (mv nd qa : Addr) (s : St) (Pr : Addr → Prop) (kvs : List (List Key × V)) (L : List (List Nat)) (N : Nd) (n : List Nat), vs = [.ref mv, .ref nd, .ref qa] ∧ Ok s ∧ H mv = some (.dT kvs) ∧ Known s H Pr kvs L ∧ H nd = some (.dT (ndK N)) ∧ Needs s N ∧ N ≠ [] ∧
  H qa = some (.tup (nums n)) ∧ Can s n ∧ (nearer s N n = none → Q .non H) ∧ ∀ m v, nearer s N n = some m → MvAt H v m → Q v H
theorem scNearer : FnScope ["moves", "needed", "places", "move"] ["moves", "needed", "places"] (C8.fnScope sNearer) := C8.fnScope_by (by decide +kernel)
theorem ok_nearer {f : Addr} {fd : FuncData} (F : C8.Def K mg "first_nearer" sNearer f fd) (b : Binds K fd ["moves", "needed", "places"] []) : C8.Cal P w K mg base 1 "first_nearer" spNearer [] := by
  refine C8.cal0 F b .nil scNearer (fun vs H Q E h => ?_) (fun cdv A outer s H vs Q E hr h => ?_)
  · obtain ⟨_, _, _, _, _, _, _, _, _, rfl, _⟩ := h
    rfl
  obtain ⟨mv, nd, qa, y, Pr, kvs, L, N, n, rfl, hy, hm, hk, hn, need, ne, hq, cn, q1, q2⟩ := h
  have hu := hu_of hr
  refine ⟨_, pss_cons (ps_for PassesOwn.never rfl (pi_list (pe_dget hu (pv 0) (pv 2) (fun _ _ => rfl))) (pg_name (i := 3) scNearer.nd rfl (.inl rfl))
      (pss_one (ps_if (pt_cmpR op_lt (pe_dget hu (pv 1) (pe_ix ix_tup (pv 3) pe_int (fun _ _ => rfl)) (fun _ _ => rfl)) (pe_dget hu (pv 1) (pv 2) (fun _ _ => rfl)) (nomark _)) (pss_one (ps_ret (pv 3))) pss_nil)))
    (pss_one (ps_ret pe_non)), ?_⟩
  obtain ⟨l, el, mvs, lv, lp⟩ := hk.list ((hk.mem n).mpr cn)
  have lm : mvs.length = (movesOf y n).length := Paired.length lp
  obtain ⟨k0, m0, _⟩ := need.some hy ne cn
  refine ⟨_, rfl, _, rfl, mv, _, rfl, dget (.inl hm) hq el, l, rfl, ⟨_, SqL.of lv⟩, for_list (K := K) (a := l) (xs := mvs) (fun i σ H' => ∃ u3, σ = [some (.ref mv), some (.ref nd), some (.ref qa), u3] ∧ H' = H ∧ ∀ m ∈ (movesOf y n).take i, decide (numOf N m.2.2 < numOf N n) = false)
    ⟨none, rfl, rfl, fun m h => by cases h⟩ ?_ ?_ ?_⟩
  · rintro i σ H' _ ⟨_, _, rfl, _⟩
    exact SqL.of lv
  · rintro i x σ H' hx ⟨u3, rfl, rfl, no⟩
    have hi : i < (movesOf y n).length := by
      have := (List.getElem?_eq_some_iff.mp hx).1
      omega
    obtain ⟨x', hx', t, q5, rfl, ht5, hq5⟩ := pair_right lp (List.getElem?_eq_getElem hi)
    rw [hx] at hx'
    cases hx'
    have cu : Can y ((movesOf y n)[i]).2.2 := cn.next (by rw [nexts_eq hy.yd]; exact List.mem_map.mpr ⟨_, List.getElem_mem hi, rfl⟩)
    obtain ⟨k1, m1, _⟩ := need.some hy ne cu
    have at2 : atI [V.int (((movesOf y n)[i]).1 : Int), V.int (((movesOf y n)[i]).2.1 : Int), V.ref q5] 2 = some (.ref q5) := atI_nat (j := 2) rfl
    refine ⟨_, rfl, _, rfl, t, _, _, _, rfl, rfl, SqT.of ht5, at2, nd, _, rfl, dget (.inl hn) hq5 (nd_val need m1), _, rfl, _, rfl, nd, _, rfl, dget (.inl hn) hq (nd_val need m0), _, _, rfl, rfl, _, rfl, ?_⟩
    have e : decide ((k1 : Int) < (k0 : Int)) = decide (numOf N ((movesOf y n)[i]).2.2 < numOf N n) := by
      rw [need.num m1, need.num m0]
      exact decide_eq_decide.mpr Int.ofNat_lt
    rw [e]
    by_cases c : numOf N ((movesOf y n)[i]).2.2 < numOf N n
    · rw [decide_eq_true c]
      exact iteT ⟨_, rfl, q2 _ _ (find_at hi (decide_eq_true c) no) ⟨t, q5, rfl, ht5, hq5⟩⟩
    · rw [decide_eq_false c]
      refine iteF ⟨_, rfl, rfl, fun m h => ?_⟩
      rw [take_snoc hi] at h
      rcases List.mem_append.mp h with h | h
      · exact no m h
      · rw [List.mem_singleton.mp h]; exact decide_eq_false c
  · rintro σ H' ⟨u3, rfl, rfl, no⟩
    rw [lm, List.take_length] at no
    refine q1 ?_
    unfold nearer
    rw [List.find?_eq_none]
    intro m h
    rw [no m h]
    decide

/-! ### first_plan -/
theorem levels_few {s : St} : ∀ (f : Nat) (now : List (List Nat)) (seen : Nat), (Sy66.levels s f now seen).length ≤ f
  | 0, _, _ => Nat.le_refl _
  | f + 1, now, seen => by
    by_cases e : now = []
    · rw [e, levels_nil]; exact Nat.zero_le _
    · rw [levels_cons s f now seen e, List.length_cons]
      exact Nat.succ_le_succ (levels_few f _ _)
theorem need_few {y : St} (hy : Ok y) {n : List Nat} (cn : Can y n) {k : Nat} (h : Need y k n) : k ≤ 3200 := by
  have := (from_ends hy).length_lt.mpr ⟨n, (ends_dk hy).mpr ⟨cn, h⟩⟩
  have e : (ends y).length ≤ 3200 := levels_few 3200 _ _
  omega
def spPlan : Sp := fun vs H Q _ => ∃ (mv nd qa : Addr) (s : St) (Pr : Addr → Prop) (kvs : List (List Key × V)) (L : List (List Nat)) (N : Nd) (k : Nat), vs = [.ref mv, .ref nd, .ref qa] ∧ Ok s ∧ H mv = some (.dT kvs) ∧ Known s H Pr kvs L ∧ H nd = some (.dT (ndK N)) ∧ Needs s N ∧ N ≠ [] ∧
  H qa = some (.tup (nums s.at_)) ∧ Need s k s.at_ ∧ ∀ H' p ms, Same H H' → H p = none → MvsAt H' p ms → ms.map (fun m => (m.1, m.2.1)) = Sy66.plan s (ends s) k s.at_ → ms.length ≤ 3200 → Q (.ref p) H'
theorem scPlan : FnScope ["moves", "needed", "start", "plan", "move"] ["moves", "needed", "start"] (C8.fnScope sPlan) := C8.fnScope_by (by decide +kernel)
theorem ok_plan {f : Addr} {fd : FuncData} (F : C8.Def K mg "first_plan" sPlan f fd) (b : Binds K fd ["moves", "needed", "start"] []) (cN : C8.Cal P w K mg base 1 "first_nearer" spNearer []) : C8.Cal P w K mg base 2 "first_plan" spPlan [] := by
  refine C8.cal0 F b .nil scPlan (fun vs H Q E h => ?_) (fun cdv A outer s H vs Q E hr h => ?_)
  · obtain ⟨_, _, _, _, _, _, _, _, _, rfl, _⟩ := h
    rfl
  obtain ⟨mv, nd, qa, y, Pr, kvs, L, N, k, rfl, hy, hm, hk, hn, need, ne, hq, nk, q⟩ := h
  refine ⟨_, pss_cons (ps_set (i := 3) scPlan.nd rfl (.inl rfl) (pe_lst pa_nil))
    (pss_cons (ps_set (i := 4) scPlan.nd rfl (.inl rfl) (C8.pe_c cN hr (by decide) rfl (pa_cons (pv 0) (pa_cons (pv 1) (pa_cons (pv 2) pa_nil)))))
    (pss_cons (ps_while PassesOwn.never (pt_cmpR op_notN (pv 4) pe_non (nomark _))
      (pss_cons (ps_expr (pe_bm PySem.F.plainAttrs_list PySem.F.slot_list_append PySem.F.type_list_append mt_append (pv 3) (pa_cons (pv 4) pa_nil)))
      (pss_one (ps_set (i := 4) scPlan.nd rfl (.inl rfl) (C8.pe_c cN hr (by decide) rfl (pa_cons (pv 0) (pa_cons (pv 1) (pa_cons (pe_ix ix_tup (pv 4) pe_int (fun _ _ => rfl)) pa_nil))))))))
    (pss_one (ps_ret (pv 3))))), ?_⟩
  refine ⟨by show 0 ≤ sizeLine; decide, fun pl hpl => ?_⟩
  have s1 : Same H (upd H pl (.lst [])) := same_new hpl
  have few := need_few hy Can.self nk
  -- what holds ahead of each test
  let Iv : Nat → L2.St → Hp → Prop := fun m σ H' => ∃ vs ms n v, σ = [some (.ref mv), some (.ref nd), some (.ref qa), some (.ref pl), some v] ∧ Same H H' ∧ H' pl = some (.lst vs) ∧ Paired (MvAt H') vs ms ∧ Can y n ∧ Need y m n ∧
    ms.map (fun m => (m.1, m.2.1)) ++ Sy66.plan y (ends y) m n = Sy66.plan y (ends y) k y.at_ ∧ ms.length + m = k ∧ (nearer y N n = none → v = .non) ∧ ∀ mm, nearer y N n = some mm → MvAt H' v mm
  refine ⟨_, rfl, _, rfl, _, rfl, mv, nd, qa, y, Pr, kvs, L, N, y.at_, rfl, hy, s1 _ _ hm, hk.same s1, s1 _ _ hn, need, ne, s1 _ _ hq, Can.self, fun e => ?_, fun mm v e hv => ?_⟩
  all_goals refine ⟨Iv, ⟨k, [], [], y.at_, _, rfl, s1, upd_same, .nil, Can.self, nk, rfl, by simp, fun e2 => ?_, fun m2 e2 => ?_⟩, ?_⟩
  · rfl
  · rw [e] at e2; cases e2
  rotate_left
  · rw [e] at e2; cases e2
  · rw [e] at e2; cases e2; exact hv
  all_goals
    rintro m σ H' ⟨vs, ms, n, v, rfl, s2, p2, pp, cn, nn, ep, el, v0, v1⟩
    refine ⟨_, rfl, rfl, _, rfl, ?_⟩
    cases m with
    | zero =>
      have e0 := nearer_none need cn nn
      rw [v0 e0]
      refine iteF ⟨_, rfl, q H' pl ms s2 hpl ⟨vs, p2, pp⟩ ?_ (by omega)⟩
      rw [← ep, plan_zero, List.append_nil]
    | succ m =>
      obtain ⟨x, u, e1, cu, nu, eplan⟩ := nearer_some hy need cn nn
      obtain ⟨t, q5, rfl, ht5, hq5⟩ := v1 _ e1
      rw [decide_eq_false (show ¬ (V.ref t = V.non) from fun z => by cases z)]
      refine iteT ⟨fun σ' H'' => ∃ m', m' < m + 1 ∧ Iv m' σ' H'', fun _ _ z => z, ?_⟩
      have lv : vs.length = ms.length := Paired.length pp
      refine ⟨_, rfl, .inl ⟨rfl, _, SqL.of p2⟩, _, rfl, pl, vs, _, rfl, rfl, p2, Nat.lt_of_le_of_lt (show vs.length ≤ 3200 by omega) (by decide), ?_⟩
      have t3 : KeepT H' (upd H' pl (.lst (vs ++ [.ref t]))) := keepT_lst p2
      have s3 : Same H (upd H' pl (.lst (vs ++ [.ref t]))) := same_put s2 hpl
      have p3 : (upd H' pl (.lst (vs ++ [.ref t]))) pl = some (.lst (vs ++ [.ref t])) := upd_same
      have pp3 : Paired (MvAt (upd H' pl (.lst (vs ++ [.ref t])))) (vs ++ [.ref t]) (ms ++ [(x.1, x.2, u)]) := pair_snoc (pair_imp pp fun _ _ z => z.keep t3) ⟨t, q5, rfl, t3 _ _ ht5, t3 _ _ hq5⟩
      have g5 := t3 _ _ hq5
      have h5 := t3 _ _ ht5
      generalize upd H' pl (.lst (vs ++ [.ref t])) = H3 at *
      have at2 : atI [V.int (x.1 : Int), V.int (x.2 : Int), V.ref q5] 2 = some (.ref q5) := atI_nat (j := 2) rfl
      have fin : ∀ v', (nearer y N u = none → v' = .non) → (∀ mm, nearer y N u = some mm → MvAt H3 v' mm) → ∃ m', m' < m + 1 ∧ Iv m' [some (.ref mv), some (.ref nd), some (.ref qa), some (.ref pl), some v'] H3 := fun v' w0 w1 =>
        ⟨m, Nat.lt_succ_self _, _, _, u, v', rfl, s3, p3, pp3, cu, nu, by rw [← ep, eplan, List.map_append, List.append_assoc]; rfl, by rw [List.length_append, List.length_singleton]; omega, w0, w1⟩
      refine ⟨_, rfl, _, rfl, _, rfl, t, _, _, _, rfl, rfl, SqT.of h5, at2, mv, nd, q5, y, Pr, kvs, L, N, u, rfl, hy, s3 _ _ hm, hk.same s3, s3 _ _ hn, need, ne, g5, cu, fun e2 => fin _ (fun _ => rfl) (fun mm e3 => ?_), fun mm v' e2 hv' => fin _ (fun e3 => ?_) (fun m3 e3 => ?_)⟩
      · rw [e2] at e3; cases e3
      · rw [e2] at e3; cases e3
      · rw [e2] at e3; cases e3; exact hv'
end
end Cy

set_option Elab.async false
set_option maxRecDepth 100000
set_option maxHeartbeats 2000000
/-! The yard as an object; its methods. -/
namespace Cy
open PySem PySem.Spec PyProof.Rows L2
open Cr (nums)
open Sy66 (Car carOf done reach ends moved nexts legal arrangements lineLong)

/-! ### attributes by their places -/
theorem lookup_zip : ∀ {ks : List Str} {vs : List V} {i : Nat} {k : Str} {v : V}, ks.Nodup → ks[i]? = some k → vs[i]? = some v → List.lookup k (ks.zip vs) = some v
  | [], _, _, _, _, _, h, _ => by simp at h
  | _ :: _, [], _, _, _, _, _, h => by simp at h
  | a :: ks, b :: vs, 0, k, v, _, h1, h2 => by
    have e1 : a = k := Option.some.inj h1
    have e2 : b = v := Option.some.inj h2
    subst e1 e2
    show List.lookup a ((a, b) :: ks.zip vs) = _
    simp [List.lookup]
  | a :: ks, b :: vs, i + 1, k, v, hn, h1, h2 => by
    obtain ⟨n1, n2⟩ := List.nodup_cons.mp hn
    have ne : (k == a) = false := by
      rw [beq_eq_false_iff_ne]
      intro e
      subst e
      exact n1 (List.mem_of_getElem? (show ks[i]? = some k from by simpa using h1))
    show List.lookup k ((a, b) :: ks.zip vs) = _
    simp only [List.lookup, ne]
    exact lookup_zip n2 (by simpa using h1) (by simpa using h2)
theorem lookup_out : ∀ {ks : List Str} {vs : List V} {k : Str}, k ∉ ks → List.lookup k (ks.zip vs) = none
  | [], _, _, _ => rfl
  | _ :: _, [], _, _ => rfl
  | a :: ks, b :: vs, k, h => by
    have ne : (k == a) = false := by
      rw [beq_eq_false_iff_ne]
      exact fun e => h (e ▸ List.mem_cons_self ..)
    show List.lookup k ((a, b) :: ks.zip vs) = _
    simp only [List.lookup, ne]
    exact lookup_out fun z => h (List.mem_cons_of_mem _ z)
theorem put_zip : ∀ {ks : List Str} {vs : List V} {i : Nat} {k : Str} {v : V}, ks.Nodup → ks[i]? = some k → i < vs.length → putF k v (ks.zip vs) = ks.zip (vs.set i v)
  | [], _, _, _, _, _, h, _ => by simp at h
  | _ :: _, [], _, _, _, _, _, h => absurd h (Nat.not_lt_zero _)
  | a :: ks, b :: vs, 0, k, v, _, h1, _ => by
    have e1 : a = k := Option.some.inj h1
    subst e1
    exact if_pos rfl
  | a :: ks, b :: vs, i + 1, k, v, hn, h1, h2 => by
    obtain ⟨n1, n2⟩ := List.nodup_cons.mp hn
    have ne : ¬ a = k := fun e => n1 (by subst e; exact List.mem_of_getElem? (show ks[i]? = some a from by simpa using h1))
    show (if a = k then _ else (a, b) :: putF k v (ks.zip vs)) = (a, b) :: ks.zip (vs.set i v)
    rw [if_neg ne, put_zip n2 (by simpa using h1) (by simpa using h2)]
theorem put_new : ∀ {ks : List Str} {vs : List V} {k : Str} {v : V}, k ∉ ks → ks.length = vs.length → putF k v (ks.zip vs) = (ks ++ [k]).zip (vs ++ [v])
  | [], [], _, _, _, _ => rfl
  | [], _ :: _, _, _, _, h => by cases h
  | _ :: _, [], _, _, _, h => by cases h
  | a :: ks, b :: vs, k, v, h, hl => by
    have ne : ¬ a = k := fun e => h (e ▸ List.mem_cons_self ..)
    show (if a = k then _ else (a, b) :: putF k v (ks.zip vs)) = (a, b) :: (ks ++ [k]).zip (vs ++ [v])
    rw [if_neg ne, put_new (fun z => h (List.mem_cons_of_mem _ z)) (by simpa using hl)]
def yK : List Str := ["rows", "columns", "cars", "tracks", "places", "wanted", "moves_made", "known_moves"]
theorem yK_nd : yK.Nodup := by decide +kernel
theorem zip_len (vs : List V) (h : vs.length = 8) : (yK.zip vs).length < 1000 := by
  rw [List.length_zip, h]
  show min 8 8 < 1000
  decide
/-- what is set in order: the first i of the eight are there, or all of them -/
def Part (i : Nat) (vs : List V) (fs : List (Str × V)) : Prop := (fs = (yK.take i).zip vs ∧ vs.length = i) ∨ ∃ old, fs = yK.zip (vs ++ old) ∧ vs.length = i ∧ (vs ++ old).length = 8
theorem Part.put {i : Nat} {vs : List V} {fs : List (Str × V)} {k : Str} {v : V} (h : Part i vs fs) (hk : yK[i]? = some k) : Part (i + 1) (vs ++ [v]) (putF k v fs) := by
  have hi : i < 8 := (List.getElem?_eq_some_iff.mp hk).1
  have ek : yK.take (i + 1) = yK.take i ++ [k] := by rw [List.take_add_one, hk]; rfl
  rcases h with ⟨e, hl⟩ | ⟨old, e, hl, h8⟩
  · left
    refine ⟨?_, by rw [List.length_append, hl]; rfl⟩
    rw [e, ek]
    refine put_new ?_ ?_
    · have n := yK_nd.sublist (List.take_sublist (i + 1) yK)
      rw [ek, List.nodup_append] at n
      exact fun z => n.2.2 k z k (List.mem_singleton.mpr rfl) rfl
    · rw [List.length_take, hl]
      show min i 8 = i
      omega
  · right
    cases old with
    | nil => rw [List.append_nil] at h8; omega
    | cons o old =>
      refine ⟨old, ?_, by rw [List.length_append, hl]; rfl, by simp at h8 ⊢; omega⟩
      rw [e, put_zip yK_nd hk (by omega)]
      congr 1
      rw [List.set_append_right _ _ (by omega), hl, Nat.sub_self, List.append_assoc]
      rfl
theorem Part.few {i : Nat} {vs : List V} {fs : List (Str × V)} (h : Part i vs fs) : fs.length < 1000 := by
  have e : yK.length = 8 := rfl
  rcases h with ⟨rfl, hl⟩ | ⟨old, rfl, hl, h8⟩
  · rw [List.length_zip, List.length_take]; omega
  · exact zip_len _ h8
theorem Part.all {vs : List V} {fs : List (Str × V)} (h : Part 8 vs fs) : fs = yK.zip vs := by
  rcases h with ⟨e, hl⟩ | ⟨old, e, hl, h8⟩
  · exact e
  · have : old = [] := by
      rw [List.length_append] at h8
      exact List.length_eq_zero_iff.mp (by omega)
    rw [e, this, List.append_nil]

/-! ### the yard in the heap -/
def upN (c : Car) : Nat := if c.upright = true then 1 else 0
def CarAt (H : Hp) (a : Addr) (c : Car) : Prop := H a = some (.tup (nums [upN c, c.line, c.long]))
/-- the yard at y; Z: what stands outside of it -/
structure YardIn (H : Hp) (C : Addr) (Z : Addr → Prop) (y : Addr) (s : St) (dx aC aT aP aW : Addr) (cs ts : List Addr) (kn : V) : Prop where
  obj : H y = some (.ins C dx (yK.zip [.int (s.rows : Int), .int (s.cols : Int), .ref aC, .ref aT, .ref aP, .ref aW, .int (s.made : Int), kn]))
  cars : H aC = some (.lst (cs.map V.ref))
  car : Paired (CarAt H) cs s.cars
  track : TrackAt H aT ts s
  place : H aP = some (.tup (nums s.at_))
  want : H aW = some (.dK (wantK s.wants))
  known : kn = .non ∨ ∃ m, kn = .ref m ∧ KnownAt H (fun l => ¬ Z l) m s
  ny : ¬ Z y
  nC : ¬ Z aC
  nT : ¬ Z aT
  nW : ¬ Z aW
  nt : ∀ t ∈ ts, ¬ Z t
  apart : aC ≠ aT
  apt : ∀ t ∈ ts, t ≠ aC ∧ t ≠ aT
def YardAt (H : Hp) (C : Addr) (Z : Addr → Prop) (y : Addr) (s : St) : Prop := ∃ dx aC aT aP aW cs ts kn, YardIn H C Z y s dx aC aT aP aW cs ts kn
/-- what is outside is there -/
def Out (Z : Addr → Prop) (H : Hp) : Prop := ∀ b, Z b → ∃ o, H b = some o
def Keep (Z : Addr → Prop) (H H' : Hp) : Prop := ∀ b o, Z b → H b = some o → H' b = some o
theorem Out.new {Z : Addr → Prop} {H : Hp} {p : Addr} (h : Out Z H) (hp : H p = none) : ¬ Z p := fun z => by
  obtain ⟨o, e⟩ := h p z
  rw [hp] at e
  cases e
theorem Out.keep {Z : Addr → Prop} {H H' : Hp} (h : Out Z H) (k : Keep Z H H') : Out Z H' := fun b z => let ⟨o, e⟩ := h b z; ⟨o, k b o z e⟩
theorem Keep.same {Z : Addr → Prop} {H H' : Hp} (s : Same H H') : Keep Z H H' := fun b o _ e => s b o e
theorem Keep.trans {Z : Addr → Prop} {H H1 H2 : Hp} (a : Keep Z H H1) (b : Keep Z H1 H2) : Keep Z H H2 := fun c o z e => b c o z (a c o z e)
theorem Keep.but {Z : Addr → Prop} {H H' : Hp} {y : Addr} (ny : ¬ Z y) (b : But y H H') : Keep Z H H' := fun c o z e => b c o (fun q : c = y => ny (by rw [← q]; exact z)) e
theorem But.trans {z : Addr} {H H1 H2 : Hp} (a : But z H H1) (b : But z H1 H2) : But z H H2 := fun c o h e => b c o h (a c o h e)
theorem But.of {z : Addr} {H H' : Hp} (s : Same H H') : But z H H' := fun b o _ e => s b o e
theorem YardIn.same {H H' : Hp} {C : Addr} {Z : Addr → Prop} {y : Addr} {s : St} {dx aC aT aP aW : Addr} {cs ts : List Addr} {kn : V} (h : YardIn H C Z y s dx aC aT aP aW cs ts kn) (k : Same H H') : YardIn H' C Z y s dx aC aT aP aW cs ts kn :=
  ⟨k _ _ h.obj, k _ _ h.cars, pair_imp h.car fun _ _ q => k _ _ q, h.track.same k, k _ _ h.place, k _ _ h.want, h.known.imp id fun ⟨m, e, kvs, L, hm, hk⟩ => ⟨m, e, kvs, L, k _ _ hm, hk.same k⟩, h.ny, h.nC, h.nT, h.nW, h.nt, h.apart, h.apt⟩
/-- a list outside changes -/
theorem YardIn.put {H : Hp} {C : Addr} {Z : Addr → Prop} {y : Addr} {s : St} {dx aC aT aP aW : Addr} {cs ts : List Addr} {kn : V} (h : YardIn H C Z y s dx aC aT aP aW cs ts kn) {z : Addr} {zs : List V} {o : HO} (hz : H z = some (.lst zs)) (zz : Z z) :
    YardIn (upd H z o) C Z y s dx aC aT aP aW cs ts kn := by
  have t := keepT_lst (o := o) hz
  have ne : ∀ {b : Addr} {u : HO}, H b = some u → (∀ xs, u ≠ .lst xs) → upd H z o b = some u := fun {b u} e n => by rw [upd_ne (ne_of e hz (n _))]; exact e
  have nl : ∀ {b : Addr} {u : HO}, H b = some u → ¬ Z b → upd H z o b = some u := fun {b u} e n => by rw [upd_ne fun q : b = z => n (by rw [q]; exact zz)]; exact e
  refine ⟨ne h.obj fun xs q => (by cases q), nl h.cars h.nC, pair_imp h.car fun _ _ q => t _ _ q, ⟨nl h.track.lst h.nT, ?_⟩, t _ _ h.place, ne h.want fun xs q => (by cases q), h.known.imp id fun ⟨m, e, kvs, L, hm, hk⟩ => ⟨m, e, kvs, L, ne hm fun xs q => (by cases q), ?_⟩, h.ny, h.nC, h.nT, h.nW, h.nt, h.apart, h.apt⟩
  · have gen : ∀ {as : List Addr} {cars : List Car}, Paired (fun (t : Addr) (c : Car) => H t = some (.lst (nums (Cy.track s c)))) as cars → (∀ t ∈ as, ¬ Z t) → Paired (fun (t : Addr) (c : Car) => upd H z o t = some (.lst (nums (Cy.track s c)))) as cars := by
      intro as cars p
      induction p with
      | nil => intro _; exact .nil
      | cons r _ ih => intro n; exact .cons (nl r (n _ (List.mem_cons_self ..))) (ih fun t ht => n t (List.mem_cons_of_mem _ ht))
    exact gen h.track.each h.nt
  · exact ⟨pair_imp hk.each fun _ _ ⟨a, l, b, c, vs, d1, d2⟩ => ⟨a, l, b, c, vs, nl d1 c, pair_imp d2 fun _ _ q => q.keep t⟩, hk.nodup, hk.mem⟩
end Cy

set_option Elab.async false
set_option maxRecDepth 100000
set_option maxHeartbeats 2000000
/-! The yard's methods. -/
namespace Cy
open PySem PySem.Spec PyProof.Rows L2
open Cr (nums)
open Sy66 (Car carOf done reach ends moved nexts legal arrangements lineLong)

/-- one cell more of a mask -/
def maskUp (s : St) (c : Car) (o i : Nat) : Nat := (List.range i).foldl (fun a i => a ||| 2 ^ spot s c (o + i)) 0
theorem maskUp_succ (s : St) (c : Car) (o i : Nat) : maskUp s c o (i + 1) = maskUp s c o i ||| 2 ^ spot s c (o + i) := by
  unfold maskUp
  rw [List.range_succ, List.foldl_append]
  rfl
section
variable {P : Program} {w : World} {K : PySem.W.Frag} {mg : Str → Option Value} {base : Heap} {C : Addr}

/-! ### many_lines, line_cells -/
def spLines (C : Addr) (f : Nat → Int → Int → Int) : Sp := fun vs H Q _ => ∃ (y dx : Addr) (u : Nat) (r c : Int) (rest : List V), vs = [.ref y, .int (u : Int)] ∧ H y = some (.ins C dx (yK.zip (.int r :: .int c :: rest))) ∧ Q (.int (f u r c)) H
abbrev fMany (u : Nat) (r c : Int) : Int := if u = 0 then r else c
abbrev fCells (u : Nat) (r c : Int) : Int := if u = 0 then c else r
theorem scMany : FnScope ["self", "upright"] ["self", "upright"] (C8.fnScope sManyLines) := C8.fnScope_by (by decide +kernel)
theorem ok_many {f : Addr} {fd : FuncData} {qual : Str} (me : Meth K C "many_lines" f) (F : C8.Fun K "many_lines" qual sManyLines f fd) (b : Binds K fd ["self", "upright"] []) (T : Txt K mg C) : C8.Met P w K mg base 1 C "many_lines" (spLines C fMany) [] := by
  refine C8.met0 T.cl me F b scMany (fun vs H Q E h => ?_) (fun cdv A outer s H vs Q E hr h => ?_)
  · obtain ⟨_, _, _, _, _, _, rfl, _⟩ := h
    rfl
  obtain ⟨y, dx, u, r, c, rest, rfl, hy, q⟩ := h
  refine ⟨_, pss_one (ps_ret (pe_ifExp (pt_truth (pv 1) (by intro _; rfl)) (pe_fld (pv 0) rfl) (pe_fld (pv 0) rfl))), ?_⟩
  refine ⟨_, rfl, _, rfl, ?_⟩
  rw [nat_ne0]
  by_cases z : u = 0
  · rw [decide_eq_true z]
    have q : Q (.int r) H := by rw [show r = fMany u r c from (if_pos z).symm]; exact q
    exact iteF ⟨_, rfl, y, C, dx, _, _, rfl, hy, T.cl, T.nR, lookup_zip yK_nd (i := 0) rfl rfl, q⟩
  · rw [decide_eq_false z]
    have q : Q (.int c) H := by rw [show c = fMany u r c from (if_neg z).symm]; exact q
    exact iteT ⟨_, rfl, y, C, dx, _, _, rfl, hy, T.cl, T.nCo, lookup_zip yK_nd (i := 1) rfl rfl, q⟩
theorem scCells : FnScope ["self", "upright"] ["self", "upright"] (C8.fnScope sLineCells) := C8.fnScope_by (by decide +kernel)
theorem ok_cells {f : Addr} {fd : FuncData} {qual : Str} (me : Meth K C "line_cells" f) (F : C8.Fun K "line_cells" qual sLineCells f fd) (b : Binds K fd ["self", "upright"] []) (T : Txt K mg C) : C8.Met P w K mg base 1 C "line_cells" (spLines C fCells) [] := by
  refine C8.met0 T.cl me F b scCells (fun vs H Q E h => ?_) (fun cdv A outer s H vs Q E hr h => ?_)
  · obtain ⟨_, _, _, _, _, _, rfl, _⟩ := h
    rfl
  obtain ⟨y, dx, u, r, c, rest, rfl, hy, q⟩ := h
  refine ⟨_, pss_one (ps_ret (pe_ifExp (pt_truth (pv 1) (by intro _; rfl)) (pe_fld (pv 0) rfl) (pe_fld (pv 0) rfl))), ?_⟩
  refine ⟨_, rfl, _, rfl, ?_⟩
  rw [nat_ne0]
  by_cases z : u = 0
  · rw [decide_eq_true z]
    have q : Q (.int c) H := by rw [show c = fCells u r c from (if_pos z).symm]; exact q
    exact iteF ⟨_, rfl, y, C, dx, _, _, rfl, hy, T.cl, T.nCo, lookup_zip yK_nd (i := 1) rfl rfl, q⟩
  · rw [decide_eq_false z]
    have q : Q (.int r) H := by rw [show r = fCells u r c from (if_neg z).symm]; exact q
    exact iteT ⟨_, rfl, y, C, dx, _, _, rfl, hy, T.cl, T.nR, lookup_zip yK_nd (i := 0) rfl rfl, q⟩

/-! ### begin, __init__ -/
/-- a yard without cars -/
structure Bare (H H' : Hp) (C y : Addr) (r c : Nat) (dx aC aT aP aW : Addr) : Prop where
  but : But y H H'
  obj : H' y = some (.ins C dx (yK.zip [.int (r : Int), .int (c : Int), .ref aC, .ref aT, .ref aP, .ref aW, .int 0, .non]))
  cars : H' aC = some (.lst [])
  tracks : H' aT = some (.lst [])
  place : H' aP = some (.tup [])
  want : H' aW = some (.dK [])
  nC : H aC = none
  nT : H aT = none
  nW : H aW = none
  apart : aC ≠ aT
def spBegin (C : Addr) : Sp := fun vs H Q _ => ∃ (y dx : Addr) (fs : List (Str × V)) (r c : Nat), vs = [.ref y, .int (r : Int), .int (c : Int)] ∧ H y = some (.ins C dx fs) ∧ Part 0 [] fs ∧
  ∀ H' aC aT aP aW, Bare H H' C y r c dx aC aT aP aW → Q .non H'
theorem scBegin : FnScope ["self", "rows", "columns"] ["self", "rows", "columns"] (C8.fnScope sBegin) := C8.fnScope_by (by decide +kernel)
theorem ok_begin {f : Addr} {fd : FuncData} {qual : Str} (me : Meth K C "begin" f) (F : C8.Fun K "begin" qual sBegin f fd) (b : Binds K fd ["self", "rows", "columns"] []) (T : Txt K mg C) : C8.Met P w K mg base 1 C "begin" (spBegin C) [] := by
  refine C8.met0 T.cl me F b scBegin (fun vs H Q E h => ?_) (fun cdv A outer s H vs Q E hr h => ?_)
  · obtain ⟨_, _, _, _, _, rfl, _⟩ := h
    rfl
  obtain ⟨y, dx, fs, r, c, rfl, hy, p0, q⟩ := h
  refine ⟨_, pss_cons (ps_fld (pv 0) (pv 1) rfl) (pss_cons (ps_fld (pv 0) (pv 2) rfl) (pss_cons (ps_fld (pv 0) (pe_lst pa_nil) rfl) (pss_cons (ps_fld (pv 0) (pe_lst pa_nil) rfl)
    (pss_cons (ps_fld (pv 0) (pe_tup pa_nil) rfl) (pss_cons (ps_fld (pv 0) pe_dnewK rfl) (pss_cons (ps_fld (pv 0) pe_int rfl) (pss_one (ps_fld (pv 0) pe_non rfl)))))))), ?_⟩
  have p1 := p0.put (v := .int (r : Int)) (k := "rows") rfl
  have p2 := p1.put (v := .int (c : Int)) (k := "columns") rfl
  refine ⟨_, rfl, _, rfl, y, C, dx, fs, rfl, hy, T.cl, T.nR, p0.few, ?_⟩
  refine ⟨_, rfl, _, rfl, y, C, dx, _, rfl, upd_same, T.cl, T.nCo, p1.few, ?_⟩
  have b2 : But y H (upd (upd H y (.ins C dx (putF "rows" (.int (r : Int)) fs))) y (.ins C dx (putF "columns" (.int (c : Int)) (putF "rows" (.int (r : Int)) fs)))) := fun b o h e => by rw [upd_ne h, upd_ne h]; exact e
  have y2 : (upd (upd H y (.ins C dx (putF "rows" (.int (r : Int)) fs))) y (.ins C dx (putF "columns" (.int (c : Int)) (putF "rows" (.int (r : Int)) fs)))) y = _ := upd_same
  have f2 : ∀ p, (upd (upd H y (.ins C dx (putF "rows" (.int (r : Int)) fs))) y (.ins C dx (putF "columns" (.int (c : Int)) (putF "rows" (.int (r : Int)) fs)))) p = none → H p = none := fun p h => upd_none (upd_none h)
  generalize upd (upd H y (.ins C dx (putF "rows" (.int (r : Int)) fs))) y (.ins C dx (putF "columns" (.int (c : Int)) (putF "rows" (.int (r : Int)) fs))) = H2 at *
  generalize putF "columns" (.int (c : Int)) (putF "rows" (.int (r : Int)) fs) = fs2 at *
  refine ⟨by show 0 ≤ sizeLine; decide, fun aC hC => ?_⟩
  have nCy : y ≠ aC := ne_of_none y2 hC
  have p3 := p2.put (v := .ref aC) (k := "cars") rfl
  refine ⟨_, rfl, y, C, dx, fs2, rfl, by rw [upd_ne nCy]; exact y2, T.cl, T.nCa, p2.few, ?_⟩
  have b3 : But y H (upd (upd H2 aC (.lst [])) y (.ins C dx (putF "cars" (.ref aC) fs2))) := fun b o h e => by rw [upd_ne h, upd_ne (ne_of_none (b2 b o h e) hC)]; exact b2 b o h e
  have y3 : (upd (upd H2 aC (.lst [])) y (.ins C dx (putF "cars" (.ref aC) fs2))) y = _ := upd_same
  have c3 : (upd (upd H2 aC (.lst [])) y (.ins C dx (putF "cars" (.ref aC) fs2))) aC = some (.lst []) := by rw [upd_ne nCy.symm]; exact upd_same
  have f3 : ∀ p, (upd (upd H2 aC (.lst [])) y (.ins C dx (putF "cars" (.ref aC) fs2))) p = none → H p = none := fun p h => f2 p (upd_none (upd_none h))
  have hC0 := f2 aC hC
  generalize upd (upd H2 aC (.lst [])) y (.ins C dx (putF "cars" (.ref aC) fs2)) = H3 at *
  generalize putF "cars" (.ref aC) fs2 = fs3 at *
  refine ⟨by show 0 ≤ sizeLine; decide, fun aT hT => ?_⟩
  have nTy : y ≠ aT := ne_of_none y3 hT
  have nCT : aC ≠ aT := ne_of_none c3 hT
  have p4 := p3.put (v := .ref aT) (k := "tracks") rfl
  refine ⟨_, rfl, y, C, dx, fs3, rfl, by rw [upd_ne nTy]; exact y3, T.cl, T.nT, p3.few, ?_⟩
  have b4 : But y H (upd (upd H3 aT (.lst [])) y (.ins C dx (putF "tracks" (.ref aT) fs3))) := fun b o h e => by rw [upd_ne h, upd_ne (ne_of_none (b3 b o h e) hT)]; exact b3 b o h e
  have y4 : (upd (upd H3 aT (.lst [])) y (.ins C dx (putF "tracks" (.ref aT) fs3))) y = _ := upd_same
  have c4 : (upd (upd H3 aT (.lst [])) y (.ins C dx (putF "tracks" (.ref aT) fs3))) aC = some (.lst []) := by rw [upd_ne nCy.symm, upd_ne nCT]; exact c3
  have t4 : (upd (upd H3 aT (.lst [])) y (.ins C dx (putF "tracks" (.ref aT) fs3))) aT = some (.lst []) := by rw [upd_ne nTy.symm]; exact upd_same
  have f4 : ∀ p, (upd (upd H3 aT (.lst [])) y (.ins C dx (putF "tracks" (.ref aT) fs3))) p = none → H p = none := fun p h => f3 p (upd_none (upd_none h))
  have hT0 := f3 aT hT
  generalize upd (upd H3 aT (.lst [])) y (.ins C dx (putF "tracks" (.ref aT) fs3)) = H4 at *
  generalize putF "tracks" (.ref aT) fs3 = fs4 at *
  refine ⟨by show 0 ≤ sizeLine; decide, fun aP hP => ?_⟩
  have nPy : y ≠ aP := ne_of_none y4 hP
  have p5 := p4.put (v := .ref aP) (k := "places") rfl
  refine ⟨_, rfl, y, C, dx, fs4, rfl, by rw [upd_ne nPy]; exact y4, T.cl, T.nP, p4.few, ?_⟩
  have b5 : But y H (upd (upd H4 aP (.tup [])) y (.ins C dx (putF "places" (.ref aP) fs4))) := fun b o h e => by rw [upd_ne h, upd_ne (ne_of_none (b4 b o h e) hP)]; exact b4 b o h e
  have y5 : (upd (upd H4 aP (.tup [])) y (.ins C dx (putF "places" (.ref aP) fs4))) y = _ := upd_same
  have c5 : (upd (upd H4 aP (.tup [])) y (.ins C dx (putF "places" (.ref aP) fs4))) aC = some (.lst []) := by rw [upd_ne nCy.symm, upd_ne (ne_of_none c4 hP)]; exact c4
  have t5 : (upd (upd H4 aP (.tup [])) y (.ins C dx (putF "places" (.ref aP) fs4))) aT = some (.lst []) := by rw [upd_ne nTy.symm, upd_ne (ne_of_none t4 hP)]; exact t4
  have q5 : (upd (upd H4 aP (.tup [])) y (.ins C dx (putF "places" (.ref aP) fs4))) aP = some (.tup []) := by rw [upd_ne nPy.symm]; exact upd_same
  have f5 : ∀ p, (upd (upd H4 aP (.tup [])) y (.ins C dx (putF "places" (.ref aP) fs4))) p = none → H p = none := fun p h => f4 p (upd_none (upd_none h))
  generalize upd (upd H4 aP (.tup [])) y (.ins C dx (putF "places" (.ref aP) fs4)) = H5 at *
  generalize putF "places" (.ref aP) fs4 = fs5 at *
  intro aW hW
  have nWy : y ≠ aW := ne_of_none y5 hW
  have p6 := p5.put (v := .ref aW) (k := "wanted") rfl
  refine ⟨_, rfl, y, C, dx, fs5, rfl, by rw [upd_ne nWy]; exact y5, T.cl, T.nW, p5.few, ?_⟩
  have b6 : But y H (upd (upd H5 aW (.dK [])) y (.ins C dx (putF "wanted" (.ref aW) fs5))) := fun b o h e => by rw [upd_ne h, upd_ne (ne_of_none (b5 b o h e) hW)]; exact b5 b o h e
  have y6 : (upd (upd H5 aW (.dK [])) y (.ins C dx (putF "wanted" (.ref aW) fs5))) y = _ := upd_same
  have c6 : (upd (upd H5 aW (.dK [])) y (.ins C dx (putF "wanted" (.ref aW) fs5))) aC = some (.lst []) := by rw [upd_ne nCy.symm, upd_ne (ne_of_none c5 hW)]; exact c5
  have t6 : (upd (upd H5 aW (.dK [])) y (.ins C dx (putF "wanted" (.ref aW) fs5))) aT = some (.lst []) := by rw [upd_ne nTy.symm, upd_ne (ne_of_none t5 hW)]; exact t5
  have q6 : (upd (upd H5 aW (.dK [])) y (.ins C dx (putF "wanted" (.ref aW) fs5))) aP = some (.tup []) := by rw [upd_ne nPy.symm, upd_ne (ne_of_none q5 hW)]; exact q5
  have w6 : (upd (upd H5 aW (.dK [])) y (.ins C dx (putF "wanted" (.ref aW) fs5))) aW = some (.dK []) := by rw [upd_ne nWy.symm]; exact upd_same
  have hW0 := f5 aW hW
  generalize upd (upd H5 aW (.dK [])) y (.ins C dx (putF "wanted" (.ref aW) fs5)) = H6 at *
  generalize putF "wanted" (.ref aW) fs5 = fs6 at *
  have p7 := p6.put (v := .int 0) (k := "moves_made") rfl
  have p8 := p7.put (v := .non) (k := "known_moves") rfl
  refine ⟨_, rfl, y, C, dx, fs6, rfl, y6, T.cl, T.nM, p6.few, ?_⟩
  refine ⟨_, rfl, y, C, dx, _, rfl, upd_same, T.cl, T.nK, p7.few, ?_⟩
  have st : ∀ {b : Addr} {o u v : HO}, b ≠ y → H6 b = some o → upd (upd H6 y u) y v b = some o := fun {b o u v} h e => by rw [upd_ne h, upd_ne h]; exact e
  refine q _ aC aT aP aW ⟨fun b o h e => st h (b6 b o h e), ?_, st nCy.symm c6, st nTy.symm t6, st nPy.symm q6, st nWy.symm w6, hC0, hT0, hW0, nCT⟩
  rw [upd_same, p8.all]
  rfl
def spInit (C : Addr) : Sp := fun vs H Q _ => ∃ (y dx : Addr), vs = [.ref y] ∧ H y = some (.ins C dx []) ∧ ∀ H' aC aT aP aW, Bare H H' C y 1 1 dx aC aT aP aW → Q .non H'
theorem scInit : FnScope ["self"] ["self"] (C8.fnScope sInit) := C8.fnScope_by (by decide +kernel)
theorem ok_init_ {f : Addr} {fd : FuncData} {qual : Str} (M : Mk K C f) (hm : mg "Yard" = some (.ref C)) (F : C8.Fun K "__init__" qual sInit f fd) (b : Binds K fd ["self"] []) (cB : C8.Met P w K mg base 1 C "begin" (spBegin C) []) :
    C8.Mak P w K mg base 2 "Yard" C (spInit C) [] := by
  refine C8.mak0 M hm F b .nil scInit (fun vs H Q E h => ?_) (fun cdv A outer s H vs Q E hr h => ?_)
  · obtain ⟨_, _, rfl, _⟩ := h
    rfl
  obtain ⟨y, dx, rfl, hy, q⟩ := h
  refine ⟨_, pss_one (ps_expr (C8.pe_mt cB hr (by decide) (pv 0) (pa_cons pe_int (pa_cons pe_int pa_nil)))), ?_⟩
  exact ⟨_, rfl, y, dx, [], rfl, hy, rfl, y, dx, [], 1, 1, rfl, hy, .inl ⟨rfl, rfl⟩, fun H' aC aT aP aW h => q H' aC aT aP aW h⟩
end
end Cy

set_option Elab.async false
set_option maxRecDepth 100000
set_option maxHeartbeats 2000000
/-! new_track, take_in. -/
namespace Cy
open PySem PySem.Spec PyProof.Rows L2
open Cr (nums)
open Sy66 (Car carOf done reach ends moved nexts legal arrangements lineLong)
section
variable {P : Program} {w : World} {K : PySem.W.Frag} {mg : Str → Option Value} {base : Heap} {C : Addr}

/-! ### new_track -/
def spTrack (C : Addr) : Sp := fun vs H Q _ => ∃ (y dx : Addr) (u k n o : Nat) (s : St) (rest : List V), vs = [.ref y, .int (u : Int), .int (k : Int), .int (n : Int)] ∧ H y = some (.ins C dx (yK.zip (.int (s.rows : Int) :: .int (s.cols : Int) :: rest))) ∧ Ok s ∧ CarFits s u k o n ∧
  ∀ H' p, Same H H' → H p = none → H' p = some (.lst (nums (Cy.track s ⟨u == 1, k, n⟩))) → Q (.ref p) H'
theorem scTrack : FnScope ["self", "upright", "line", "length", "first", "step", "track", "place", "cells", "spot"] ["self", "upright", "line", "length"] (C8.fnScope sNewTrack) := C8.fnScope_by (by decide +kernel)
theorem shl_one (n : Nat) : (1 : Int) * 2 ^ ((n : Int)).toNat = ((2 ^ n : Nat) : Int) := by
  rw [Int.toNat_natCast, Int.one_mul, Int.natCast_pow]
  rfl
theorem ok_track {f : Addr} {fd : FuncData} {qual : Str} (me : Meth K C "new_track" f) (F : C8.Fun K "new_track" qual sNewTrack f fd) (b : Binds K fd ["self", "upright", "line", "length"] []) (T : Txt K mg C) (cL : C8.Met P w K mg base 1 C "line_cells" (spLines C fCells) []) :
    C8.Met P w K mg base 2 C "new_track" (spTrack C) [] := by
  refine C8.met0 T.cl me F b scTrack (fun vs H Q E h => ?_) (fun cdv A outer s H vs Q E hr h => ?_)
  · obtain ⟨_, _, _, _, _, _, _, _, rfl, _⟩ := h
    rfl
  obtain ⟨y, dx, u, k, n, o, s, rest, rfl, hy, ok, ⟨f1, f2, f3, f4, f5⟩, q⟩ := h
  refine ⟨_, C8.pss_cut (ps_set (i := 4) scTrack.nd rfl (.inl rfl) (pe_ifExp (pt_truth (pv 1) (by intro _; rfl)) (pv 2) (pe_op op_mul (pv 2) (pe_fld (pv 0) rfl))))
    (C8.pss_cut (ps_set (i := 5) scTrack.nd rfl (.inl rfl) (pe_ifExp (pt_truth (pv 1) (by intro _; rfl)) (pe_fld (pv 0) rfl) pe_int))
    (pss_cons (ps_set (i := 6) scTrack.nd rfl (.inl rfl) (pe_lst pa_nil))
    (pss_cons (ps_for PassesOwn.never rfl (pi_range1 rfl T.range (pa_cons (pe_op op_add (pe_op op_sub (C8.pe_mt cL hr (by decide) (pv 0) (pa_cons (pv 1) pa_nil)) (pv 3)) pe_int) pa_nil)) (pg_name (i := 7) scTrack.nd rfl (.inl rfl))
      (pss_cons (ps_set (i := 8) scTrack.nd rfl (.inl rfl) pe_int)
      (pss_cons (ps_for PassesOwn.never rfl (pi_range2 rfl T.range (pa_cons (pv 7) (pa_cons (pe_op op_add (pv 7) (pv 3)) pa_nil))) (pg_name (i := 9) scTrack.nd rfl (.inl rfl))
        (pss_one (ps_set (i := 8) scTrack.nd rfl (.inl rfl) (pe_op op_or (pv 8) (pe_op op_shl pe_int (pe_op op_add (pv 4) (pe_op op_mul (pv 5) (pv 9))))))))
      (pss_one (ps_expr (pe_bm PySem.F.plainAttrs_list PySem.F.slot_list_append PySem.F.type_list_append mt_append (pv 6) (pa_cons (pv 8) pa_nil)))))))
    (pss_one (ps_ret (pv 6)))))), ?_⟩
  have hrow := ok.yd.rows
  have hcol := ok.yd.cols
  have k5 : k ≤ 4 := by
    by_cases z : u = 1
    · rw [if_pos z] at f4; omega
    · rw [if_neg z] at f4; omega
  have kc : k * s.cols ≤ 20 := by
    have := Nat.mul_le_mul k5 hcol.2
    omega
  have ll : lineLong s ⟨u == 1, k, n⟩ ≤ 5 := by
    unfold Sy66.lineLong
    split
    · exact hrow.2
    · exact hcol.2
  have u01 : u = 0 ∨ u = 1 := by omega
  refine ⟨fun σ H' => H = H' ∧ ∃ a : Nat, a ≤ 20 ∧ (u = 0 → a = k * s.cols) ∧ (u = 1 → a = k) ∧ σ = [some (.ref y), some (.int (u : Int)), some (.int (k : Int)), some (.int (n : Int)), some (.int (a : Int)), none, none, none, none, none], ?_, ?_⟩
  · refine ⟨_, rfl, _, rfl, ?_⟩
    rw [nat_ne0]
    rcases u01 with rfl | rfl
    · refine iteF ⟨_, rfl, _, rfl, y, C, dx, _, _, rfl, hy, T.cl, T.nCo, lookup_zip yK_nd (i := 1) rfl rfl, _, _, rfl, rfl, .inl ⟨by omega, by omega⟩, rfl, k * s.cols, kc, fun _ => rfl, (by intro h; cases h), ?_⟩
      rw [Int.natCast_mul]
      rfl
    · exact iteT ⟨_, rfl, rfl, k, by omega, fun h => (by cases h), fun _ => rfl, rfl⟩
  rintro σ H' ⟨rfl, a, ha, a0, a1, rfl⟩
  refine ⟨fun σ H' => H = H' ∧ ∃ b : Nat, b ≤ 5 ∧ (∀ x, a + b * x = spot s ⟨u == 1, k, n⟩ x) ∧ σ = [some (.ref y), some (.int (u : Int)), some (.int (k : Int)), some (.int (n : Int)), some (.int (a : Int)), some (.int (b : Int)), none, none, none, none], ?_, ?_⟩
  · refine ⟨_, rfl, _, rfl, ?_⟩
    rw [nat_ne0]
    rcases u01 with rfl | rfl
    · refine iteF ⟨rfl, 1, by decide, fun x => ?_, rfl⟩
      rw [a0 rfl, Nat.one_mul]
      rfl
    · refine iteT ⟨_, rfl, y, C, dx, _, _, rfl, hy, T.cl, T.nCo, lookup_zip yK_nd (i := 1) rfl rfl, rfl, s.cols, hcol.2, fun x => ?_, rfl⟩
      rw [a1 rfl]
      show k + s.cols * x = x * s.cols + k
      rw [Nat.mul_comm, Nat.add_comm]
  rintro σ H' ⟨rfl, c, hc, hsp, rfl⟩
  refine ⟨by show 0 ≤ sizeLine; decide, fun p hp => ?_⟩
  have s1 : Same H (upd H p (.lst [])) := same_new hp
  have ef : fCells u (s.rows : Int) (s.cols : Int) - (n : Int) + 1 = ((many s ⟨u == 1, k, n⟩ : Nat) : Int) := by
    rw [show many s ⟨u == 1, k, n⟩ = lineLong s ⟨u == 1, k, n⟩ + 1 - n from rfl]
    rcases u01 with rfl | rfl
    · have e : lineLong s ⟨0 == 1, k, n⟩ = s.cols := rfl
      rw [e] at f5 ⊢
      show (s.cols : Int) - n + 1 = _
      omega
    · have e : lineLong s ⟨1 == 1, k, n⟩ = s.rows := rfl
      rw [e] at f5 ⊢
      show (s.rows : Int) - n + 1 = _
      omega
  have m5 : many s ⟨u == 1, k, n⟩ ≤ 5 := by
    unfold many
    show lineLong s ⟨u == 1, k, n⟩ + 1 - n ≤ 5
    omega
  refine ⟨_, rfl, y, dx, _, rfl, s1 _ _ hy, lookup_out (ks := yK) (by decide +kernel), _, rfl, y, dx, u, _, _, rest, rfl, s1 _ _ hy, _, rfl, _, _, rfl, rfl, _, _, rfl, rfl, _, rfl, ?_⟩
  rw [ef]
  refine ⟨by omega, by omega, ?_⟩
  rw [Int.toNat_natCast]
  refine for_range (lo := 0) (n := many s ⟨u == 1, k, n⟩) (fun i σ H' => ∃ v7 v8 v9, σ = [some (.ref y), some (.int (u : Int)), some (.int (k : Int)), some (.int (n : Int)), some (.int (a : Int)), some (.int (c : Int)), some (.ref p), v7, v8, v9] ∧ Same H H' ∧ H' p = some (.lst (nums ((Cy.track s ⟨u == 1, k, n⟩).take i))))
    ⟨none, none, none, rfl, s1, upd_same⟩ ?_ ?_
  · rintro i σ H' hi ⟨v7, v8, v9, rfl, hs, hp'⟩
    rw [Int.zero_add]
    refine ⟨_, rfl, _, rfl, _, rfl, _, _, rfl, rfl, (i : Int), (i : Int) + n, rfl, ⟨by omega, by omega, by omega, by omega⟩, ?_⟩
    rw [show ((i : Int) + (n : Int) - (i : Int)).toNat = n by omega]
    refine for_range (lo := (i : Int)) (n := n) (fun j σ H2 => ∃ v9, σ = [some (.ref y), some (.int (u : Int)), some (.int (k : Int)), some (.int (n : Int)), some (.int (a : Int)), some (.int (c : Int)), some (.ref p), some (.int (i : Int)), some (.int ((maskUp s ⟨u == 1, k, n⟩ i j : Nat) : Int)), v9] ∧ H2 = H')
      ⟨v9, rfl, rfl⟩ ?_ ?_
    · rintro j σ H2 hj ⟨v9, rfl, rfl⟩
      have hx : c * (i + j) ≤ 50 := by
        have := Nat.mul_le_mul hc (show i + j ≤ 10 by omega)
        omega
      have em : ((c : Nat) : Int) * ((i : Int) + (j : Int)) = ((c * (i + j) : Nat) : Int) := by rw [Int.natCast_mul, Int.natCast_add]
      have ea : (a : Int) + (c : Int) * ((i : Int) + (j : Int)) = ((spot s ⟨u == 1, k, n⟩ (i + j) : Nat) : Int) := by rw [em, ← hsp (i + j), Int.natCast_add]
      have sp : spot s ⟨u == 1, k, n⟩ (i + j) ≤ 100 := by rw [← hsp]; omega
      refine ⟨_, rfl, _, rfl, _, rfl, _, rfl, _, _, rfl, rfl, .inl ⟨by omega, by omega⟩, _, _, rfl, rfl, _, _, rfl, rfl, ?_, ?_⟩
      · rw [ea]
        exact ⟨by omega, by omega, by decide⟩
      · rw [ea]
        refine ⟨_, _, rfl, rfl, some (.int ((i : Int) + (j : Int))), ?_, rfl⟩
        rw [maskUp_succ, ← or_nat, ← shl_one]
        rfl
    · rintro σ H2 ⟨v9, rfl, rfl⟩
      refine ⟨_, rfl, .inl ⟨rfl, _, SqL.of hp'⟩, _, rfl, p, _, _, rfl, rfl, hp', ?_, some (.int (i : Int)), _, v9, rfl, same_put hs hp, ?_⟩
      · rw [nums_len, List.length_take]
        exact Nat.lt_of_le_of_lt (show _ ≤ 100 by omega) (by decide)
      · rw [upd_same, List.take_add_one, track_at hi, nums_app]
        rfl
  · rintro σ H' ⟨v7, v8, v9, rfl, hs, hp'⟩
    rw [show many s ⟨u == 1, k, n⟩ = (Cy.track s ⟨u == 1, k, n⟩).length from (track_len ..).symm, List.take_length] at hp'
    exact ⟨_, rfl, q H' p hs hp hp'⟩
end
end Cy

set_option Elab.async false
set_option maxRecDepth 100000
set_option maxHeartbeats 2000000
/-! take_in. -/
namespace Cy
open PySem PySem.Spec PyProof.Rows L2
open Cr (nums)
open Sy66 (Car carOf done reach ends moved nexts legal arrangements lineLong)
section
variable {P : Program} {w : World} {K : PySem.W.Frag} {mg : Str → Option Value} {base : Heap} {C : Addr}
theorem fld {v0 v1 v2 v3 v4 v5 v6 v7 : V} {i : Nat} {k : Str} {v : V} (h1 : yK[i]? = some k) (h2 : [v0, v1, v2, v3, v4, v5, v6, v7][i]? = some v) : List.lookup k (yK.zip [v0, v1, v2, v3, v4, v5, v6, v7]) = some v := lookup_zip yK_nd h1 h2
theorem pair_mem {α β : Type} {R S : α → β → Prop} {xs : List α} {ys : List β} (h : Paired R xs ys) (f : ∀ a b, a ∈ xs → R a b → S a b) : Paired S xs ys := by
  induction h with
  | nil => exact .nil
  | cons r _ ih => exact .cons (f _ _ (List.mem_cons_self ..) r) (ih fun a b m => f a b (List.mem_cons_of_mem _ m))
def spTake (C : Addr) : Sp := fun vs H Q _ => ∃ (y : Addr) (u k n o : Nat) (s : St) (Z : Addr → Prop), vs = [.ref y, .int (u : Int), .int (k : Int), .int (n : Int), .int (o : Int)] ∧ YardAt H C Z y s ∧ Out Z H ∧ Ok s ∧ CarFits s u k o n ∧ s.cars.length < 5 ∧
  ∀ H', YardAt H' C Z y (addCar s ⟨u == 1, k, n⟩ o) → Keep Z H H' → Q .non H'
theorem scTake : FnScope ["self", "upright", "line", "length", "place"] ["self", "upright", "line", "length", "place"] (C8.fnScope sTakeIn) := C8.fnScope_by (by decide +kernel)
theorem ok_take {f : Addr} {fd : FuncData} {qual : Str} (me : Meth K C "take_in" f) (F : C8.Fun K "take_in" qual sTakeIn f fd) (b : Binds K fd ["self", "upright", "line", "length", "place"] []) (T : Txt K mg C) (cT : C8.Met P w K mg base 2 C "new_track" (spTrack C) []) :
    C8.Met P w K mg base 3 C "take_in" (spTake C) [] := by
  refine C8.met0 T.cl me F b scTake (fun vs H Q E h => ?_) (fun cdv A outer s H vs Q E hr h => ?_)
  · obtain ⟨_, _, _, _, _, _, _, rfl, _⟩ := h
    rfl
  obtain ⟨y, u, k, n, o, s, Z, rfl, ⟨dx, aC, aT, aP, aW, cs, ts, kn, h⟩, hZ, ok, cf, h5, q⟩ := h
  refine ⟨_, pss_cons (ps_expr (pe_bm PySem.F.plainAttrs_list PySem.F.slot_list_append PySem.F.type_list_append mt_append (pe_fld (pv 0) rfl) (pa_cons (pe_tup (pa_cons (pv 1) (pa_cons (pv 2) (pa_cons (pv 3) pa_nil)))) pa_nil)))
    (pss_cons (ps_expr (pe_bm PySem.F.plainAttrs_list PySem.F.slot_list_append PySem.F.type_list_append mt_append (pe_fld (pv 0) rfl) (pa_cons (C8.pe_mt cT hr (by decide) (pv 0) (pa_cons (pv 1) (pa_cons (pv 2) (pa_cons (pv 3) pa_nil)))) pa_nil)))
    (pss_cons (ps_fld (pv 0) (pe_op op_catA (pe_fld (pv 0) rfl) (pe_tup (pa_cons (pv 4) pa_nil))) rfl)
    (pss_one (ps_fld (pv 0) pe_non rfl)))), ?_⟩
  have u1 : upN ⟨u == 1, k, n⟩ = u := by
    have := cf.1
    rcases (show u = 0 ∨ u = 1 by omega) with rfl | rfl <;> rfl
  have lc : cs.length = s.cars.length := Paired.length h.car
  have lt : ts.length = s.cars.length := h.track.len
  have yC : y ≠ aC := ne_of h.obj h.cars (by intro z; cases z)
  have yT : y ≠ aT := ne_of h.obj h.track.lst (by intro z; cases z)
  have CT := h.apart
  refine ⟨_, rfl, y, C, dx, _, _, rfl, h.obj, T.cl, T.nCa, fld (i := 2) rfl rfl, .inl ⟨rfl, _, SqL.of h.cars⟩, _, rfl, _, rfl, _, rfl, (by show 3 ≤ sizeLine; decide), fun t ht => ?_⟩
  have s1 : Same H (upd H t (.tup [.int (u : Int), .int (k : Int), .int (n : Int)])) := same_new ht
  have e1 : (upd H t (.tup [.int (u : Int), .int (k : Int), .int (n : Int)])) t = some (.tup (nums [u, k, n])) := upd_same
  generalize upd H t (.tup [.int (u : Int), .int (k : Int), .int (n : Int)]) = H1 at *
  refine ⟨aC, cs.map V.ref, _, rfl, rfl, s1 _ _ h.cars, Nat.lt_of_le_of_lt (show _ ≤ 5 by rw [List.length_map]; omega) (by decide), ?_⟩
  have b2 : But aC H1 (upd H1 aC (.lst (cs.map V.ref ++ [.ref t]))) := fun b o h e => by rw [upd_ne h]; exact e
  have c2 : (upd H1 aC (.lst (cs.map V.ref ++ [.ref t]))) aC = some (.lst (cs.map V.ref ++ [.ref t])) := upd_same
  have f2 : ∀ p, (upd H1 aC (.lst (cs.map V.ref ++ [.ref t]))) p = none → H p = none := fun p hp => by
    cases e : H p with
    | none => rfl
    | some o => have := s1 _ _ e; rw [upd_none hp] at this; cases this
  generalize upd H1 aC (.lst (cs.map V.ref ++ [.ref t])) = H2 at *
  have k2 : ∀ b o, b ≠ aC → H b = some o → H2 b = some o := fun b o h e => b2 b o h (s1 _ _ e)
  have t2 : H2 t = some (.tup (nums [u, k, n])) := b2 _ _ (ne_of_none h.cars ht).symm e1
  refine ⟨_, rfl, y, C, dx, _, _, rfl, k2 _ _ yC h.obj, T.cl, T.nT, fld (i := 3) rfl rfl, .inl ⟨rfl, _, SqL.of (k2 _ _ CT.symm h.track.lst)⟩, _, rfl, y, dx, _, rfl, k2 _ _ yC h.obj, lookup_out (ks := yK) (by decide +kernel), _, rfl, _, rfl, _, rfl,
    y, dx, u, k, n, o, s, _, rfl, k2 _ _ yC h.obj, ok, cf, fun H3 p s3 hp e3 => ?_⟩
  have hp0 : H p = none := f2 p hp
  refine ⟨aT, ts.map V.ref, _, rfl, rfl, s3 _ _ (k2 _ _ CT.symm h.track.lst), Nat.lt_of_le_of_lt (show _ ≤ 5 by rw [List.length_map]; omega) (by decide), ?_⟩
  have k4 : ∀ b o, b ≠ aC → b ≠ aT → H b = some o → (upd H3 aT (.lst (ts.map V.ref ++ [.ref p]))) b = some o := fun b o h1 h2 e => by rw [upd_ne h2]; exact s3 _ _ (k2 _ _ h1 e)
  have c4 : (upd H3 aT (.lst (ts.map V.ref ++ [.ref p]))) aC = some (.lst (cs.map V.ref ++ [.ref t])) := by rw [upd_ne CT]; exact s3 _ _ c2
  have d4 : (upd H3 aT (.lst (ts.map V.ref ++ [.ref p]))) aT = some (.lst (ts.map V.ref ++ [.ref p])) := upd_same
  have t4 : (upd H3 aT (.lst (ts.map V.ref ++ [.ref p]))) t = some (.tup (nums [u, k, n])) := by rw [upd_ne (ne_of_none h.track.lst ht).symm]; exact s3 _ _ t2
  have p4 : (upd H3 aT (.lst (ts.map V.ref ++ [.ref p]))) p = some (.lst (nums (Cy.track s ⟨u == 1, k, n⟩))) := by rw [upd_ne (ne_of_none h.track.lst hp0).symm]; exact e3
  generalize upd H3 aT (.lst (ts.map V.ref ++ [.ref p])) = H4 at *
  have y4 := k4 _ _ yC yT h.obj
  have q4 : H4 aP = some (.tup (nums s.at_)) := k4 _ _ (ne_of h.place h.cars (by intro z; cases z)) (ne_of h.place h.track.lst (by intro z; cases z)) h.place
  refine ⟨_, rfl, y, C, dx, _, _, rfl, y4, T.cl, T.nP, fld (i := 4) rfl rfl, _, rfl, (by show 1 ≤ sizeLine; decide), fun q5 hq5 => ?_⟩
  have s5 : Same H4 (upd H4 q5 (.tup [.int (o : Int)])) := same_new hq5
  have e5 : (upd H4 q5 (.tup [.int (o : Int)])) q5 = some (.tup (nums [o])) := upd_same
  generalize upd H4 q5 (.tup [.int (o : Int)]) = H5 at *
  -- behind the new arrangement
  have fin : ∀ H6 aP', Same H5 H6 → H6 aP' = some (.tup (nums (s.at_ ++ [o]))) → tVar 0 (start ["self", "upright", "line", "length", "place"] [.ref y, .int (u : Int), .int (k : Int), .int (n : Int), .int (o : Int)]) H6 fun x H7 => ∃ a C dx fs, x = .ref a ∧ H7 a = some (.ins C dx fs) ∧ Cls K C ∧ NoAttr K C "places" ∧ fs.length < 1000 ∧
      sFld K (tVar 0) (tC .non) "known_moves" { nx := fun _ H' => Q .non H', rt := Q } (start ["self", "upright", "line", "length", "place"] [.ref y, .int (u : Int), .int (k : Int), .int (n : Int), .int (o : Int)]) (upd H7 a (.ins C dx (putF "places" (.ref aP') fs))) := by
    intro H6 aP' s6 e6
    have s46 : Same H4 H6 := s5.trans s6
    refine ⟨_, rfl, y, C, dx, _, rfl, s46 _ _ y4, T.cl, T.nP, zip_len _ rfl, ?_⟩
    rw [put_zip yK_nd (i := 4) rfl (by show 4 < 8; decide)]
    refine ⟨_, rfl, y, C, dx, _, rfl, upd_same, T.cl, T.nK, zip_len _ rfl, ?_⟩
    rw [put_zip yK_nd (i := 7) rfl (by show 7 < 8; decide)]
    have st : ∀ {b : Addr} {o u v : HO}, b ≠ y → H6 b = some o → upd (upd H6 y u) y v b = some o := fun {b o u v} h e => by rw [upd_ne h, upd_ne h]; exact e
    have ty : t ≠ y := (ne_of_none h.obj ht).symm
    have py : p ≠ y := (ne_of_none h.obj hp0).symm
    refine q _ ⟨dx, aC, aT, aP', aW, cs ++ [t], ts ++ [p], .non, upd_same, ?_, ?_, ⟨?_, ?_⟩, st (ne_of e6 (s46 _ _ y4) (by intro z; cases z)) e6, st (ne_of h.want h.obj (by intro z; cases z)) (s46 _ _ (k4 _ _ (ne_of h.want h.cars (by intro z; cases z)) (ne_of h.want h.track.lst (by intro z; cases z)) h.want)), .inl rfl, h.ny, h.nC, h.nT, h.nW, ?_, CT, ?_⟩ ?_
    · rw [List.map_append]
      exact st yC.symm (s46 _ _ c4)
    · refine pair_snoc (pair_mem h.car fun a c _ e => ?_) ?_
      · exact st (ne_of e h.obj (by intro z; cases z)) (s46 _ _ (k4 _ _ (ne_of e h.cars (by intro z; cases z)) (ne_of e h.track.lst (by intro z; cases z)) e))
      · show _ = some (HO.tup (nums [upN ⟨u == 1, k, n⟩, k, n]))
        rw [u1]
        exact st ty (s46 _ _ t4)
    · rw [List.map_append]
      exact st yT.symm (s46 _ _ d4)
    · refine pair_snoc (pair_mem h.track.each fun a c m e => ?_) ?_
      · exact st (ne_of e h.obj (by intro z; cases z)) (s46 _ _ (k4 _ _ (h.apt a m).1 (h.apt a m).2 e))
      · exact st py (s46 _ _ p4)
    · intro a ha
      rcases List.mem_append.mp ha with ha | ha
      · exact h.nt a ha
      · rw [List.mem_singleton.mp ha]
        exact hZ.new hp0
    · intro a ha
      rcases List.mem_append.mp ha with ha | ha
      · exact h.apt a ha
      · rw [List.mem_singleton.mp ha]
        exact ⟨(ne_of_none h.cars hp0).symm, (ne_of_none h.track.lst hp0).symm⟩
    · intro b o' z e
      have nb : ∀ {x : Addr}, ¬ Z x → b ≠ x := fun {x} nx (q : b = x) => nx (by rw [← q]; exact z)
      exact st (nb h.ny) (s46 _ _ (k4 _ _ (nb h.nC) (nb h.nT) e))
  have l5 : s.at_.length ≤ 5 := by have := ok.len; omega
  refine ⟨aP, q5, nums s.at_, nums [o], rfl, rfl, SqT.of (s5 _ _ q4), SqT.of e5, ?_, fun z => ?_, fun _ z => ?_, fun _ _ r hr2 => ?_⟩
  · rw [nums_len]
    exact Nat.le_trans (show _ ≤ 100 by show s.at_.length + 1 ≤ 100; omega) (by decide)
  · refine fin H5 q5 (Same.refl _) ?_
    have : s.at_ = [] := by
      have := congrArg List.length z
      rw [nums_len] at this
      exact List.length_eq_zero_iff.mp this
    rw [this]
    exact e5
  · cases z
  · refine fin _ r (same_new hr2) ?_
    rw [nums_app]
    exact upd_same
end
end Cy

set_option Elab.async false
set_option maxRecDepth 100000
set_option maxHeartbeats 2000000
/-! refused, listed, begin, fits. -/
namespace Cy
open PySem PySem.Spec PyProof.Rows L2
open Cr (nums)
open Sy66 (Car carOf done reach ends moved nexts legal arrangements lineLong)

/-- a constant of the module -/
theorem gcI {mg : Str → Option Value} {x : Str} {n : Int} (h : ∃ t, mg x = some (.int n t)) : ∃ u, mg x = some u ∧ RelV (.int n) u := let ⟨t, e⟩ := h; ⟨_, e, t, rfl⟩
/-- lo <= n <= hi -/
theorem chain_in {lo hi n : Int} {i : Nat} {σ : L2.St} {H : Hp} {Q : VK} (h : σ[i]? = some (some (.int n))) (q : Q (.bl (decide (lo ≤ n ∧ n ≤ hi))) H) :
    tChain (rI0 fun i j => .bl (decide (i ≤ j))) (rI0 fun i j => .bl (decide (i ≤ j))) (tC (.int lo)) (tVar i) (tC (.int hi)) σ H Q := by
  refine ⟨_, h, _, _, rfl, rfl, _, rfl, ?_⟩
  by_cases c : lo ≤ n
  · rw [decide_eq_true c]
    refine iteT ⟨_, _, rfl, rfl, ?_⟩
    have e : decide (lo ≤ n ∧ n ≤ hi) = decide (n ≤ hi) := decide_eq_decide.mpr ⟨fun h => h.2, fun h => ⟨c, h⟩⟩
    rw [e] at q
    exact q
  · rw [decide_eq_false c]
    refine iteF ?_
    rw [decide_eq_false fun z => c z.1] at q
    exact q
theorem YardAt.same {H H' : Hp} {C : Addr} {Z : Addr → Prop} {y : Addr} {s : St} (h : YardAt H C Z y s) (k : Same H H') : YardAt H' C Z y s := let ⟨a, b, c, d, e, f, g, i, z⟩ := h; ⟨a, b, c, d, e, f, g, i, z.same k⟩

/-- what a call is promised -/
def After (C y : Addr) (x : Sy66.Call) (H : Hp) (Q : VK) (Z : Addr → Prop) (s : St) : Prop :=
  ∀ H' p, YardAt H' C Z y (Sy66.step s x).1 → Keep Z H H' → ¬ Z p → H' p = some (.lst ((Sy66Neutral.out (Sy66.step s x).2).map V.int)) → Q (.ref p) H'
def Told (C y : Addr) (x : Sy66.Call) (H : Hp) (Q : VK) : Prop := ∃ Z s, YardAt H C Z y s ∧ Out Z H ∧ Ok s ∧ After C y x H Q Z s
/-- where nothing changes and one number is told -/
theorem After.num {C y : Addr} {x : Sy66.Call} {H : Hp} {Q : VK} {Z : Addr → Prop} {s : St} {v : Int} (q : After C y x H Q Z s) (e : Sy66.step s x = (s, Sy66.ok v)) {H1 : Hp} {p : Addr} (h : YardAt H1 C Z y s) (k : Keep Z H H1) (hZ : Out Z H) (hp : H1 p = none) : Q (.ref p) (upd H1 p (.lst [.int v])) := by
  refine q _ p ?_ (k.trans (.same (same_new hp))) ((hZ.keep k).new hp) ?_
  · rw [e]; exact h.same (same_new hp)
  · rw [e]; exact upd_same
section
variable {P : Program} {w : World} {K : PySem.W.Frag} {mg : Str → Option Value} {base : Heap} {C : Addr}

/-! ### refused, listed -/
def spRefused : Sp := fun vs H Q _ => ∃ r : Int, vs = [.int r] ∧ ∀ p, H p = none → Q (.ref p) (upd H p (.lst [.int (-r)]))
theorem scRefused : FnScope ["reason"] ["reason"] (C8.fnScope sRefused) := C8.fnScope_by (by decide +kernel)
theorem ok_refused {f : Addr} {fd : FuncData} (F : C8.Def K mg "refused" sRefused f fd) (b : Binds K fd ["reason"] []) : C8.Cal P w K mg base 1 "refused" spRefused [] := by
  refine C8.cal0 F b .nil scRefused (fun vs H Q E h => ?_) (fun cdv A outer s H vs Q E hr h => ?_)
  · obtain ⟨_, rfl, _⟩ := h
    rfl
  obtain ⟨r, rfl, q⟩ := h
  refine ⟨_, pss_one (ps_ret (pe_lst (pa_cons (pe_un un_neg (pv 0)) pa_nil))), ?_⟩
  exact ⟨_, rfl, _, rfl, by show 1 ≤ sizeLine; decide, fun p hp => q p hp⟩
def spListed : Sp := fun vs H Q _ => ∃ (a : Addr) (xs : List V), vs = [.ref a] ∧ (H a = some (.lst xs) ∨ H a = some (.tup xs)) ∧ xs.length ≤ 10000 ∧ ∀ H' p, Same H H' → H p = none → H' p = some (.lst (.int (xs.length : Int) :: xs)) → Q (.ref p) H'
theorem scListed : FnScope ["numbers"] ["numbers"] (C8.fnScope sListed) := C8.fnScope_by (by decide +kernel)
theorem ok_listed {f : Addr} {fd : FuncData} (F : C8.Def K mg "listed" sListed f fd) (b : Binds K fd ["numbers"] []) (T : Txt K mg C) : C8.Cal P w K mg base 1 "listed" spListed [] := by
  refine C8.cal0 F b .nil scListed (fun vs H Q E h => ?_) (fun cdv A outer s H vs Q E hr h => ?_)
  · obtain ⟨_, _, rfl, _⟩ := h
    rfl
  obtain ⟨a, xs, rfl, ha, few, q⟩ := h
  refine ⟨_, pss_one (ps_ret (pe_op op_cat (pe_lst (pa_cons (pe_callB call_len_seq (by rfl) T.len PySem.boot_len (pa_cons (pv 0) pa_nil)) pa_nil)) (pe_callTy call_list_of (by rfl) T.list (by decide +kernel) (pa_cons (pv 0) pa_nil)))), ?_⟩
  have g : ∀ H', Same H H' → SqL K H' a xs ∨ SqT K H' a xs := fun H' s => ha.imp (fun e => SqL.of (s _ _ e)) fun e => SqT.of (s _ _ e)
  refine ⟨_, rfl, a, xs, rfl, g H (Same.refl _), by show 1 ≤ sizeLine; decide, fun p hp => ?_⟩
  refine ⟨_, rfl, a, xs, rfl, g _ (same_new hp), fun l hl => ?_⟩
  have pl : p ≠ l := ne_of_none upd_same hl
  refine ⟨p, l, _, _, rfl, rfl, by rw [upd_ne pl]; exact upd_same, upd_same, ?_, fun r hr2 => ?_⟩
  · exact Nat.le_trans (show 1 + xs.length ≤ 10001 by omega) (by decide)
  · refine q _ r (((same_new hp).trans (same_new hl)).trans (same_new hr2)) (upd_none (upd_none hr2)) ?_
    exact upd_same

/-! ### begin -/
def spBeginC (C : Addr) : Sp := fun vs H Q _ => ∃ (y : Addr) (r c : Nat), vs = [.ref y, .int (r : Int), .int (c : Int)] ∧ Told C y (.begins r c) H Q
theorem scBeginC : FnScope ["yard", "rows", "columns"] ["yard", "rows", "columns"] (C8.fnScope sBeginC) := C8.fnScope_by (by decide +kernel)
theorem step_begins {s : St} {r c : Nat} : Sy66.step s (.begins r c) = if r < 1 ∨ 5 < r ∨ c < 1 ∨ 5 < c then (s, Sy66.ok (-1)) else ({ Sy66.init with rows := r, cols := c }, Sy66.ok (r * c : Nat)) := rfl
theorem ok_beginC {f : Addr} {fd : FuncData} (F : C8.Def K mg "begin" sBeginC f fd) (b : Binds K fd ["yard", "rows", "columns"] []) (T : Txt K mg C) (cR : C8.Cal P w K mg base 1 "refused" spRefused []) (cB : C8.Met P w K mg base 1 C "begin" (spBegin C) []) :
    C8.Cal P w K mg base 2 "begin" (spBeginC C) [] := by
  refine C8.cal0 F b .nil scBeginC (fun vs H Q E h => ?_) (fun cdv A outer s H vs Q E hr h => ?_)
  · obtain ⟨_, _, _, rfl, _⟩ := h
    rfl
  obtain ⟨y, r, c, rfl, Z, s, h, hZ, ok, q⟩ := h
  refine ⟨_, pss_cons (ps_if (PW.pt (pw_or (pt_not (pt_chain op_le op_le pe_int (pv 1) (C8.pe_gc rfl (gcI T.c5)))) (pw_or1 (pt_not (pt_chain op_le op_le pe_int (pv 2) (C8.pe_gc rfl (gcI T.c5)))))))
      (pss_one (ps_ret (C8.pe_c cR hr (by decide) rfl (pa_cons (C8.pe_gc rfl (gcI T.c1)) pa_nil)))) pss_nil)
    (pss_cons (ps_expr (C8.pe_mt cB hr (by decide) (pv 0) (pa_cons (pv 1) (pa_cons (pv 2) pa_nil))))
    (pss_one (ps_ret (pe_lst (pa_cons (pe_op op_mul (pv 1) (pv 2)) pa_nil))))), ?_⟩
  have no : (r < 1 ∨ 5 < r ∨ c < 1 ∨ 5 < c) → spRefused [.int 1] H Q (fun _ _ _ => False) := fun z => ⟨1, rfl, fun p hp => q.num (by rw [step_begins, if_pos z]) h (fun b o _ e => e) hZ hp⟩
  refine chain_in rfl ⟨_, rfl, ?_⟩
  by_cases g1 : (1 : Int) ≤ (r : Int) ∧ (r : Int) ≤ 5
  · rw [decide_eq_true g1]
    refine iteF (chain_in rfl ⟨_, rfl, ?_⟩)
    by_cases g2 : (1 : Int) ≤ (c : Int) ∧ (c : Int) ≤ 5
    · rw [decide_eq_true g2]
      refine iteF ?_
      obtain ⟨dx, aC, aT, aP, aW, cs, ts, kn, g⟩ := h
      refine ⟨_, rfl, y, dx, _, rfl, g.obj, lookup_out (ks := yK) (by decide +kernel), _, rfl, _, rfl, y, dx, _, r, c, rfl, g.obj, .inr ⟨_, rfl, rfl, rfl⟩, fun H' aC' aT' aP' aW' B => ?_⟩
      refine ⟨_, rfl, _, rfl, _, _, rfl, rfl, .inl ⟨by omega, by omega⟩, by show 1 ≤ sizeLine; decide, fun p hp => ?_⟩
      have e : Sy66.step s (.begins r c) = ({ Sy66.init with rows := r, cols := c }, Sy66.ok (r * c : Nat)) := by rw [step_begins, if_neg (by omega)]
      have kp : Keep Z H H' := Keep.but g.ny B.but
      have hZ' := hZ.keep kp
      refine q _ p ?_ (kp.trans (.same (same_new hp))) (hZ'.new hp) ?_
      · rw [e]
        refine YardAt.same (H := H') ?_ (same_new hp)
        exact ⟨dx, aC', aT', aP', aW', [], [], .non, B.obj, B.cars, .nil, ⟨B.tracks, .nil⟩, B.place, B.want, .inl rfl, g.ny, hZ.new B.nC, hZ.new B.nT, hZ.new B.nW, fun t ht => (by cases ht), B.apart, fun t ht => (by cases ht)⟩
      · rw [e, upd_same]
        show _ = some (HO.lst [V.int ((r * c : Nat) : Int)])
        rw [Int.natCast_mul]
    · rw [decide_eq_false g2]
      exact iteT (no (by omega))
  · rw [decide_eq_false g1]
    exact iteT (iteT (no (by omega)))

/-! ### fits -/
def spFits (C : Addr) : Sp := fun vs H Q _ => ∃ (y dx : Addr) (u k o n : Nat) (s : St) (rest : List V), vs = [.ref y, .int (u : Int), .int (k : Int), .int (o : Int), .int (n : Int)] ∧ H y = some (.ins C dx (yK.zip (.int (s.rows : Int) :: .int (s.cols : Int) :: rest))) ∧
  (CarFits s u k o n → Q (.bl true) H) ∧ (¬ CarFits s u k o n → Q (.bl false) H)
theorem scFits : FnScope ["yard", "upright", "line", "place", "length"] ["yard", "upright", "line", "place", "length"] (C8.fnScope sFits) := C8.fnScope_by (by decide +kernel)
theorem ok_fits {f : Addr} {fd : FuncData} (F : C8.Def K mg "fits" sFits f fd) (b : Binds K fd ["yard", "upright", "line", "place", "length"] []) (T : Txt K mg C) (cM : C8.Met P w K mg base 1 C "many_lines" (spLines C fMany) []) (cL : C8.Met P w K mg base 1 C "line_cells" (spLines C fCells) []) :
    C8.Cal P w K mg base 2 "fits" (spFits C) [] := by
  refine C8.cal0 F b .nil scFits (fun vs H Q E h => ?_) (fun cdv A outer s H vs Q E hr h => ?_)
  · obtain ⟨_, _, _, _, _, _, _, _, rfl, _⟩ := h
    rfl
  obtain ⟨y, dx, u, k, o, n, s, rest, rfl, hy, q1, q2⟩ := h
  refine ⟨_, pss_cons (ps_if (PW.pt (pw_or (pt_cmpR op_gt (pv 1) pe_int (nomark _)) (pw_or1 (pt_not (pt_chain op_le op_le (C8.pe_gc rfl (gcI T.c7)) (pv 4) (C8.pe_gc rfl (gcI T.c8))))))) (pss_one (ps_ret pe_bl)) pss_nil)
    (pss_one (ps_ret (pe_and (pe_cmpR op_lt (pv 2) (C8.pe_mt cM hr (by decide) (pv 0) (pa_cons (pv 1) pa_nil)) (nomark _)) (pe_one (pe_cmpR op_le (pe_op op_add (pv 3) (pv 4)) (C8.pe_mt cL hr (by decide) (pv 0) (pa_cons (pv 1) pa_nil)) (nomark _)))))), ?_⟩
  refine ⟨_, rfl, _, _, rfl, rfl, _, rfl, ?_⟩
  by_cases g1 : (u : Int) > 1
  · rw [decide_eq_true g1]
    exact iteT (iteT (q2 fun z => by have := z.1; omega))
  rw [decide_eq_false g1]
  refine iteF (chain_in rfl ⟨_, rfl, ?_⟩)
  by_cases g2 : (2 : Int) ≤ (n : Int) ∧ (n : Int) ≤ 5
  rotate_left
  · rw [decide_eq_false g2]
    exact iteT (q2 fun z => by have := z.2.1; have := z.2.2.1; omega)
  rw [decide_eq_true g2]
  refine iteF ⟨_, rfl, _, rfl, y, dx, _, rfl, hy, lookup_out (ks := yK) (by decide +kernel), _, rfl, y, dx, u, _, _, rest, rfl, hy, _, _, rfl, rfl, _, rfl, ?_⟩
  have u01 : u = 0 ∨ u = 1 := by omega
  have em : fMany u (s.rows : Int) (s.cols : Int) = ((if u = 1 then s.cols else s.rows : Nat) : Int) := by rcases u01 with rfl | rfl <;> rfl
  have ec : fCells u (s.rows : Int) (s.cols : Int) = ((lineLong s ⟨u == 1, k, n⟩ : Nat) : Int) := by rcases u01 with rfl | rfl <;> rfl
  rw [em]
  by_cases g3 : (k : Int) < ((if u = 1 then s.cols else s.rows : Nat) : Int)
  · rw [decide_eq_true g3]
    refine iteT ⟨_, rfl, _, rfl, _, _, rfl, rfl, _, rfl, y, dx, _, rfl, hy, lookup_out (ks := yK) (by decide +kernel), _, rfl, y, dx, u, _, _, rest, rfl, hy, ?_⟩
    rw [ec]
    refine ⟨_, _, rfl, rfl, ?_⟩
    show Q (.bl (decide ((o : Int) + (n : Int) ≤ ((lineLong s ⟨u == 1, k, n⟩ : Nat) : Int)))) H
    by_cases g4 : (o : Int) + (n : Int) ≤ ((lineLong s ⟨u == 1, k, n⟩ : Nat) : Int)
    · rw [decide_eq_true g4]
      exact q1 ⟨by omega, by omega, by omega, by omega, by omega⟩
    · rw [decide_eq_false g4]
      exact q2 fun z => g4 (by have := z.2.2.2.2; omega)
  · rw [decide_eq_false g3]
    exact iteF (q2 fun z => g3 (by have := z.2.2.2.1; omega))
end
end Cy

set_option Elab.async false
set_option maxRecDepth 100000
set_option maxHeartbeats 2000000
/-! add_car, move_car. -/
namespace Cy
open PySem PySem.Spec PyProof.Rows L2
open Cr (nums)
open Sy66 (Car carOf done reach ends moved nexts legal arrangements lineLong)

/-! ### a car more -/
theorem legal_old {s : St} {x : Car} {o : Nat} {l : List Nat} (hl : l.length ≤ s.cars.length) : legal (addCar s x o) l = true ↔ legal s l = true := by
  rw [legal_iff, legal_iff]
  have e : ∀ i, i < l.length → carOf (addCar s x o) i = carOf s i := fun i hi => carOf_add (by omega)
  have ec : ∀ i q, i < l.length → cells (addCar s x o) i q = cells s i q := fun i q hi => by
    show Sy66.cellsOf (addCar s x o) (carOf (addCar s x o) i) q = Sy66.cellsOf s (carOf s i) q
    rw [e i hi]
    rfl
  constructor
  · rintro ⟨h1, h2⟩
    refine ⟨fun i hi => ?_, fun i j hi hj => ?_⟩
    · have := h1 i hi
      rw [e i hi] at this
      exact this
    · have := h2 i j hi hj
      rw [ec i _ hi, ec j _ (by omega)] at this
      exact this
  · rintro ⟨h1, h2⟩
    refine ⟨fun i hi => ?_, fun i j hi hj => ?_⟩
    · rw [e i hi]
      exact h1 i hi
    · rw [ec i _ hi, ec j _ (by omega)]
      exact h2 i j hi hj
theorem taken_old {s : St} {x : Car} {o : Nat} {l : List Nat} (hl : l.length ≤ s.cars.length) : takenN (addCar s x o) l = takenN s l := by
  have e : ∀ m, m ≤ l.length → takenUp (addCar s x o) l m = takenUp s l m := by
    intro m
    induction m with
    | zero => intro _; rfl
    | succ m ih =>
      intro h
      rw [takenUp_succ, takenUp_succ, ih (by omega), carOf_add (by omega)]
      rfl
  rw [← takenUp_all, ← takenUp_all, e _ (Nat.le_refl _)]
theorem legal_add {s : St} (ok : Ok s) {u k o n : Nat} (cf : CarFits s u k o n) : legal (addCar s ⟨u == 1, k, n⟩ o) (s.at_ ++ [o]) = true ↔ maskN s ⟨u == 1, k, n⟩ o &&& takenN s s.at_ = 0 := by
  have len := ok.len
  rw [legal_snoc, legal_old (by omega), taken_old (by omega), len, carOf_last]
  constructor
  · exact fun h => h.2.2
  · exact fun h => ⟨ok.legal, cf.2.2.2.2, h⟩
theorem step_car {s : St} {u k o n : Nat} : Sy66.step s (.car u k o n) = if 1 < u ∨ n < 2 ∨ 5 < n ∨ (if u = 1 then s.cols else s.rows) ≤ k ∨ lineLong s ⟨u == 1, k, n⟩ < o + n then (s, Sy66.ok (-1)) else if 5 ≤ s.cars.length then (s, Sy66.ok (-5)) else
      if legal (addCar s ⟨u == 1, k, n⟩ o) (s.at_ ++ [o]) = false then (s, Sy66.ok (-6)) else (addCar s ⟨u == 1, k, n⟩ o, Sy66.ok (s.cars.length : Nat)) := rfl
theorem car_no {s : St} {u k o n : Nat} (h : ¬ CarFits s u k o n) : 1 < u ∨ n < 2 ∨ 5 < n ∨ (if u = 1 then s.cols else s.rows) ≤ k ∨ lineLong s ⟨u == 1, k, n⟩ < o + n := by
  unfold CarFits at h
  omega
theorem car_yes {s : St} {u k o n : Nat} (h : CarFits s u k o n) : ¬ (1 < u ∨ n < 2 ∨ 5 < n ∨ (if u = 1 then s.cols else s.rows) ≤ k ∨ lineLong s ⟨u == 1, k, n⟩ < o + n) := by
  obtain ⟨h1, h2, h3, h4, h5⟩ := h
  omega
theorem Ok.room {s : St} (ok : Ok s) : ∀ i, i < s.at_.length → s.at_.getD i 0 < many s (carOf s i) := fun i hi => at_lt ok.yd ok.legal hi (by have := ok.len; omega)
section
variable {P : Program} {w : World} {K : PySem.W.Frag} {mg : Str → Option Value} {base : Heap} {C : Addr}
def spAddCar (C : Addr) : Sp := fun vs H Q _ => ∃ (y : Addr) (u k o n : Nat), vs = [.ref y, .int (u : Int), .int (k : Int), .int (o : Int), .int (n : Int)] ∧ Told C y (.car u k o n) H Q
theorem scAddCar : FnScope ["yard", "upright", "line", "place", "length", "track"] ["yard", "upright", "line", "place", "length"] (C8.fnScope sAddCar) := C8.fnScope_by (by decide +kernel)
theorem ok_addCar {f : Addr} {fd : FuncData} (F : C8.Def K mg "add_car" sAddCar f fd) (b : Binds K fd ["yard", "upright", "line", "place", "length"] []) (T : Txt K mg C) (cR : C8.Cal P w K mg base 1 "refused" spRefused []) (cF : C8.Cal P w K mg base 2 "fits" (spFits C) [])
    (cT : C8.Cal P w K mg base 1 "taken_cells" spTaken []) (cN : C8.Met P w K mg base 2 C "new_track" (spTrack C) []) (cI : C8.Met P w K mg base 3 C "take_in" (spTake C) []) : C8.Cal P w K mg base 4 "add_car" (spAddCar C) [] := by
  refine C8.cal0 F b .nil scAddCar (fun vs H Q E h => ?_) (fun cdv A outer s H vs Q E hr h => ?_)
  · obtain ⟨_, _, _, _, _, rfl, _⟩ := h
    rfl
  obtain ⟨y, u, k, o, n, rfl, Z, s, h0, hZ, ok, q⟩ := h
  refine ⟨_, pss_cons (ps_if (pt_not (pt_val (C8.pe_c cF hr (by decide) rfl (pa_cons (pv 0) (pa_cons (pv 1) (pa_cons (pv 2) (pa_cons (pv 3) (pa_cons (pv 4) pa_nil)))))))) (pss_one (ps_ret (C8.pe_c cR hr (by decide) rfl (pa_cons (C8.pe_gc rfl (gcI T.c1)) pa_nil)))) pss_nil)
    (pss_cons (ps_if (pt_cmpR op_eq (pe_callB call_len_seq (by rfl) T.len PySem.boot_len (pa_cons (pe_fld (pv 0) rfl) pa_nil)) (C8.pe_gc rfl (gcI T.c6)) (nomark _)) (pss_one (ps_ret (C8.pe_c cR hr (by decide) rfl (pa_cons (C8.pe_gc rfl (gcI T.c3)) pa_nil)))) pss_nil)
    (pss_cons (ps_set (i := 5) scAddCar.nd rfl (.inl rfl) (C8.pe_mt cN hr (by decide) (pv 0) (pa_cons (pv 1) (pa_cons (pv 2) (pa_cons (pv 4) pa_nil)))))
    (pss_cons (ps_if (pt_truth (pe_op op_and (pe_ix ix_list (pv 5) (pv 3) (fun _ _ => rfl)) (C8.pe_c cT hr (by decide) rfl (pa_cons (pe_fld (pv 0) rfl) (pa_cons (pe_fld (pv 0) rfl) pa_nil)))) (by intro _; rfl)) (pss_one (ps_ret (C8.pe_c cR hr (by decide) rfl (pa_cons (C8.pe_gc rfl (gcI T.c4)) pa_nil)))) pss_nil)
    (pss_cons (ps_expr (C8.pe_mt cI hr (by decide) (pv 0) (pa_cons (pv 1) (pa_cons (pv 2) (pa_cons (pv 4) (pa_cons (pv 3) pa_nil))))))
    (pss_one (ps_ret (pe_lst (pa_cons (pe_op op_sub (pe_callB call_len_seq (by rfl) T.len PySem.boot_len (pa_cons (pe_fld (pv 0) rfl) pa_nil)) pe_int) pa_nil)))))))), ?_⟩
  obtain ⟨dx, aC, aT, aP, aW, cs, ts, kn, h⟩ := h0
  have hY : YardAt H C Z y s := ⟨dx, aC, aT, aP, aW, cs, ts, kn, h⟩
  have lt : ts.length = s.cars.length := h.track.len
  have nomet : List.lookup (Str.ofString "new_track") (yK.zip [.int (s.rows : Int), .int (s.cols : Int), .ref aC, .ref aT, .ref aP, .ref aW, .int (s.made : Int), kn]) = none := lookup_out (ks := yK) (by decide +kernel)
  refine ⟨_, rfl, _, rfl, _, rfl, _, rfl, _, rfl, y, dx, u, k, o, n, s, _, rfl, h.obj, fun cf => ⟨_, rfl, ?_⟩, fun nf => ⟨_, rfl, ?_⟩⟩
  rotate_left
  · exact iteT ⟨1, rfl, fun p hp => q.num (by rw [step_car, if_pos (car_no nf)]) hY (fun b o _ e => e) hZ hp⟩
  have hf := car_yes cf
  refine iteF ⟨_, rfl, y, C, dx, _, _, rfl, h.obj, T.cl, T.nT, fld (i := 3) rfl rfl, aT, _, rfl, .inl (SqL.of h.track.lst), rfl, _, rfl, ?_⟩
  by_cases g5 : s.cars.length = 5
  · rw [decide_eq_true (show V.int ((ts.map V.ref).length : Int) = V.int 5 by rw [List.length_map, lt, g5]; rfl)]
    exact iteT ⟨5, rfl, fun p hp => q.num (by rw [step_car, if_neg hf, if_pos (by omega)]) hY (fun b o _ e => e) hZ hp⟩
  have five := ok.yd.cars
  rw [decide_eq_false (show ¬ V.int ((ts.map V.ref).length : Int) = V.int 5 from fun z => g5 (by
    rw [List.length_map, lt] at z
    exact Int.ofNat.inj (V.int.inj z)))]
  refine iteF ⟨_, rfl, y, dx, _, rfl, h.obj, nomet, _, rfl, _, rfl, _, rfl, y, dx, u, k, n, o, s, _, rfl, h.obj, ok, cf, fun H1 p s1 hp e1 => ?_⟩
  have h1 := h.same s1
  have om : o < many s ⟨u == 1, k, n⟩ := by
    show o < lineLong s ⟨u == 1, k, n⟩ + 1 - n
    have := cf.2.2.2.2
    omega
  refine ⟨_, rfl, _, rfl, p, _, _, _, rfl, rfl, SqL.of e1, atI_nat (track_nums om), _, rfl, y, C, dx, _, _, rfl, h1.obj, T.cl, T.nT, fld (i := 3) rfl rfl, _, rfl, y, C, dx, _, _, rfl, h1.obj, T.cl, T.nP, fld (i := 4) rfl rfl,
    aT, aP, ts, s, s.at_, rfl, h1.track, h1.place, by have := ok.len; omega, ok.room, fun H2 s2 => ⟨_, _, rfl, rfl, _, rfl, ?_⟩⟩
  rw [and_nat, nat_ne0]
  have k2 : Keep Z H H2 := .same (s1.trans s2)
  have hY2 : YardAt H2 C Z y s := hY.same (s1.trans s2)
  by_cases g6 : maskN s ⟨u == 1, k, n⟩ o &&& takenN s s.at_ = 0
  · rw [decide_eq_true g6]
    have hl := (legal_add ok cf).mpr g6
    have e : Sy66.step s (.car u k o n) = (addCar s ⟨u == 1, k, n⟩ o, Sy66.ok (s.cars.length : Nat)) := by rw [step_car, if_neg hf, if_neg (by omega), if_neg (by rw [hl]; decide)]
    refine iteF ⟨_, rfl, y, dx, _, rfl, (h1.same s2).obj, lookup_out (ks := yK) (by decide +kernel), _, rfl, _, rfl, _, rfl, _, rfl, y, u, k, n, o, s, Z, rfl, hY2, hZ.keep k2, ok, cf, by omega, fun H3 hY3 k3 => ?_⟩
    have hY3' := hY3
    obtain ⟨dx', aC', aT', aP', aW', cs', ts', kn', h3⟩ := hY3
    refine ⟨_, rfl, y, C, dx', _, _, rfl, h3.obj, T.cl, T.nT, fld (i := 3) rfl rfl, aT', _, rfl, .inl (SqL.of h3.track.lst), _, _, rfl, rfl, by show 1 ≤ sizeLine; decide, fun r hr2 => ?_⟩
    refine q _ r ?_ ((k2.trans k3).trans (.same (same_new hr2))) ((hZ.keep (k2.trans k3)).new hr2) ?_
    · rw [e]; exact hY3'.same (same_new hr2)
    · rw [e, upd_same]
      have lt' : (ts'.map V.ref).length = s.cars.length + 1 := by
        rw [List.length_map, h3.track.len]
        show (s.cars ++ [_]).length = _
        rw [List.length_append]
        rfl
      rw [lt']
      show some (HO.lst [V.int (((s.cars.length + 1 : Nat) : Int) - 1)]) = some (HO.lst [V.int ((s.cars.length : Nat) : Int)])
      rw [show (((s.cars.length + 1 : Nat) : Int) - 1) = ((s.cars.length : Nat) : Int) by omega]
  · rw [decide_eq_false g6]
    have hl : legal (addCar s ⟨u == 1, k, n⟩ o) (s.at_ ++ [o]) = false := by
      cases e : legal (addCar s ⟨u == 1, k, n⟩ o) (s.at_ ++ [o]) with
      | false => rfl
      | true => exact absurd ((legal_add ok cf).mp e) g6
    exact iteT ⟨6, rfl, fun r hr2 => q.num (by rw [step_car, if_neg hf, if_neg (by omega), if_pos hl]) hY2 k2 hZ hr2⟩
end
end Cy

set_option Elab.async false
set_option maxRecDepth 100000
set_option maxHeartbeats 2000000
/-! move_car. -/
namespace Cy
open PySem PySem.Spec PyProof.Rows L2
open Cr (nums)
open Sy66 (Car carOf done reach ends moved nexts legal arrangements lineLong)

/-! ### answers -/
theorem ints_nums (l : List Nat) : (Sy66.ints l).map V.int = nums l := by
  unfold Sy66.ints
  rw [List.map_map]
  rfl
theorem ints_len (l : List Nat) : (Sy66.ints l).length = l.length := List.length_map ..
theorem out_one (v : Int) (l : List Nat) : (Sy66Neutral.out ⟨v, [Sy66.ints l]⟩).map V.int = .int v :: .int (l.length : Int) :: nums l := by
  show V.int v :: V.int ((Sy66.ints l).length : Int) :: (Sy66.ints l ++ []).map V.int = _
  rw [List.append_nil, ints_nums, ints_len]
/-! ### a member of a list -/
theorem in_nums {o : Nat} {l : List Nat} : inV (.int (o : Int)) (nums l) = decide (o ∈ l) := by
  unfold inV
  induction l with
  | nil => rfl
  | cons a l ih =>
    show (((a : Int) == (o : Int)) || _) = _
    have e1 : ((nums l).any fun y => eqV y (.int (o : Int))) = decide (o ∈ l) := ih
    have e2 : ((l.map fun x : Nat => V.int (x : Int)).any fun y => eqV y (.int (o : Int))) = decide (o ∈ l) := e1
    rw [e2]
    by_cases c : a = o
    · subst c
      simp
    · have : ((a : Int) == (o : Int)) = false := by
        rw [beq_eq_false_iff_ne]
        exact fun z => c (Int.ofNat.inj z)
      rw [this, Bool.false_or]
      exact decide_eq_decide.mpr ⟨fun h => List.mem_cons_of_mem _ h, fun h => (List.mem_cons.mp h).resolve_left fun z => c z.symm⟩
/-! ### where a move leads -/
def goes (s : St) (l : List Nat) : St := { s with at_ := l, made := s.made + 1 }
theorem step_move {s : St} {k o : Nat} : Sy66.step s (.move k o) = if s.cars.length ≤ k then (s, Sy66.ok (-2)) else (match moved s s.at_ k o with
      | none => (s, Sy66.ok (-6))
      | some l => (goes s l, ⟨((s.made + 1 : Nat) : Int), [Sy66.ints l]⟩)) := rfl
theorem can_goes {s : St} (ok : Ok s) {u : List Nat} (hu : u ∈ nexts s s.at_) (n : List Nat) : Can s n ↔ Can (goes s u) n := by
  have b := nexts_back ok.yd ok.legal hu
  constructor
  · rintro ⟨j, w⟩
    exact ⟨j + 1, Wk.front (s := s) b w⟩
  · rintro ⟨j, w⟩
    exact ⟨j + 1, Wk.front (s := s) hu w⟩
theorem known_goes {s : St} (ok : Ok s) {u : List Nat} (hu : u ∈ nexts s s.at_) {H : Hp} {Pr : Addr → Prop} {m : Addr} (h : KnownAt H Pr m s) : KnownAt H Pr m (goes s u) := by
  obtain ⟨kvs, L, hm, hk⟩ := h
  exact ⟨kvs, L, hm, hk.each, hk.nodup, fun n => (hk.mem n).trans (can_goes ok hu n)⟩
theorem moved_way {s : St} (ok : Ok s) {k o : Nat} (hk : k < s.cars.length) : o ∈ waysOf s s.at_ k ↔ moved s s.at_ k o = some (s.at_.set k o) := by
  rw [mem_waysOf ok.yd, moved_iff (by have := (ok.yd.long _ (carOf_mem hk)).1; omega)]
  exact ⟨fun h => ⟨h, rfl⟩, fun h => h.1⟩
theorem moved_not {s : St} (ok : Ok s) {k o : Nat} (hk : k < s.cars.length) (h : o ∉ waysOf s s.at_ k) : moved s s.at_ k o = none := by
  cases e : moved s s.at_ k o with
  | none => rfl
  | some u =>
    rw [mem_waysOf ok.yd] at h
    exact absurd ((moved_iff (by have := (ok.yd.long _ (carOf_mem hk)).1; omega)).mp e).1 h
section
variable {P : Program} {w : World} {K : PySem.W.Frag} {mg : Str → Option Value} {base : Heap} {C : Addr}
def spMoveCar (C : Addr) : Sp := fun vs H Q _ => ∃ (y : Addr) (k o : Nat), vs = [.ref y, .int (k : Int), .int (o : Int)] ∧ Told C y (.move k o) H Q
theorem scMoveCar : FnScope ["yard", "car", "place", "track", "stands_at", "others"] ["yard", "car", "place"] (C8.fnScope sMoveCar) := C8.fnScope_by (by decide +kernel)
theorem ok_moveCar {f : Addr} {fd : FuncData} (F : C8.Def K mg "move_car" sMoveCar f fd) (b : Binds K fd ["yard", "car", "place"] []) (T : Txt K mg C) (cR : C8.Cal P w K mg base 1 "refused" spRefused []) (cT : C8.Cal P w K mg base 1 "taken_cells" spTaken [])
    (cY : C8.Cal P w K mg base 1 "ways" spWays []) (cW : C8.Cal P w K mg base 1 "with_place" spWith []) (cL : C8.Cal P w K mg base 1 "listed" spListed []) : C8.Cal P w K mg base 2 "move_car" (spMoveCar C) [] := by
  refine C8.cal0 F b .nil scMoveCar (fun vs H Q E h => ?_) (fun cdv A outer s H vs Q E hr h => ?_)
  · obtain ⟨_, _, _, rfl, _⟩ := h
    rfl
  obtain ⟨y, k, o, rfl, Z, s, h0, hZ, ok, q⟩ := h
  refine ⟨_, pss_cons (ps_if (pt_cmpR op_ge (pv 1) (pe_callB call_len_seq (by rfl) T.len PySem.boot_len (pa_cons (pe_fld (pv 0) rfl) pa_nil)) (nomark _)) (pss_one (ps_ret (C8.pe_c cR hr (by decide) rfl (pa_cons (C8.pe_gc rfl (gcI T.c2)) pa_nil)))) pss_nil)
    (pss_cons (ps_set (i := 3) scMoveCar.nd rfl (.inl rfl) (pe_ix ix_list (pe_fld (pv 0) rfl) (pv 1) (fun _ _ => rfl)))
    (pss_cons (ps_set (i := 4) scMoveCar.nd rfl (.inl rfl) (pe_ix ix_tup (pe_fld (pv 0) rfl) (pv 1) (fun _ _ => rfl)))
    (pss_cons (ps_set (i := 5) scMoveCar.nd rfl (.inl rfl) (pe_op op_xor (C8.pe_c cT hr (by decide) rfl (pa_cons (pe_fld (pv 0) rfl) (pa_cons (pe_fld (pv 0) rfl) pa_nil))) (pe_ix ix_list (pv 3) (pv 4) (fun _ _ => rfl))))
    (pss_cons (ps_if (pt_cmpR op_notIn_seq (pv 2) (C8.pe_c cY hr (by decide) rfl (pa_cons (pv 3) (pa_cons (pv 4) (pa_cons (pv 5) pa_nil)))) (by rfl)) (pss_one (ps_ret (C8.pe_c cR hr (by decide) rfl (pa_cons (C8.pe_gc rfl (gcI T.c4)) pa_nil)))) pss_nil)
    (pss_cons (ps_fld (pv 0) (C8.pe_c cW hr (by decide) rfl (pa_cons (pe_fld (pv 0) rfl) (pa_cons (pv 1) (pa_cons (pv 2) pa_nil)))) rfl)
    (pss_cons (ps_fld (pv 0) (pe_op op_add (pe_fld (pv 0) rfl) pe_int) rfl)
    (pss_one (ps_ret (pe_op op_cat (pe_lst (pa_cons (pe_fld (pv 0) rfl) pa_nil)) (C8.pe_c cL hr (by decide) rfl (pa_cons (pe_fld (pv 0) rfl) pa_nil))))))))))), ?_⟩
  obtain ⟨dx, aC, aT, aP, aW, cs, ts, kn, h⟩ := h0
  have hY : YardAt H C Z y s := ⟨dx, aC, aT, aP, aW, cs, ts, kn, h⟩
  have lt : ts.length = s.cars.length := h.track.len
  have len := ok.len
  have five := ok.yd.cars
  refine ⟨_, rfl, _, rfl, y, C, dx, _, _, rfl, h.obj, T.cl, T.nT, fld (i := 3) rfl rfl, aT, _, rfl, .inl (SqL.of h.track.lst), _, _, rfl, rfl, _, rfl, ?_⟩
  rw [List.length_map, lt]
  by_cases g : s.cars.length ≤ k
  · rw [decide_eq_true (show (s.cars.length : Int) ≤ (k : Int) by omega)]
    exact iteT ⟨2, rfl, fun p hp => q.num (by rw [step_move, if_pos g]) hY (fun b o _ e => e) hZ hp⟩
  rw [decide_eq_false (show ¬ (s.cars.length : Int) ≤ (k : Int) by omega)]
  have hk : k < s.cars.length := by omega
  obtain ⟨tr, htr, hcells⟩ := h.track.at hk
  have room := ok.room k (by omega)
  refine iteF ⟨_, rfl, y, C, dx, _, _, rfl, h.obj, T.cl, T.nT, fld (i := 3) rfl rfl, _, rfl, aT, _, _, _, rfl, rfl, SqL.of h.track.lst, atI_nat htr, ?_⟩
  refine ⟨_, rfl, y, C, dx, _, _, rfl, h.obj, T.cl, T.nP, fld (i := 4) rfl rfl, _, rfl, aP, _, _, _, rfl, rfl, SqT.of h.place, atI_nat (nums_getD (show k < s.at_.length by omega)), ?_⟩
  refine ⟨_, rfl, y, C, dx, _, _, rfl, h.obj, T.cl, T.nT, fld (i := 3) rfl rfl, _, rfl, y, C, dx, _, _, rfl, h.obj, T.cl, T.nP, fld (i := 4) rfl rfl, aT, aP, ts, s, s.at_, rfl, h.track, h.place, by omega, ok.room, fun H1 s1 => ?_⟩
  refine ⟨_, rfl, _, rfl, tr, _, _, _, rfl, rfl, SqL.of (s1 _ _ hcells), atI_nat (track_nums room), _, _, rfl, rfl, ?_⟩
  refine ⟨_, rfl, _, rfl, _, rfl, _, rfl, tr, track s (carOf s k), s.at_.getD k 0, takenN s s.at_ ^^^ maskN s (carOf s k) (s.at_.getD k 0), (by rw [← xor_nat]; rfl), s1 _ _ hcells, by rw [track_len]; exact room, ?_, fun H2 r lo hi s2 nr er sp => ?_⟩
  · have := many_le ok.yd hk
    rw [track_len]
    omega
  rw [span_is ok.yd ok.legal len (by omega) sp] at er
  have s12 := s1.trans s2
  have h2 := h.same s12
  refine ⟨r, _, rfl, .inl (SqL.of er), rfl, nums_flat _, _, rfl, ?_⟩
  show if (!inV (V.int (o : Int)) (nums (waysOf s s.at_ k))) = true then _ else _
  rw [in_nums]
  by_cases g2 : o ∈ waysOf s s.at_ k
  rotate_left
  · rw [decide_eq_false g2]
    exact iteT ⟨6, rfl, fun p hp => q.num (by rw [step_move, if_neg g, moved_not ok hk g2]) (hY.same s12) (.same s12) hZ hp⟩
  rw [decide_eq_true g2]
  have hm := (moved_way ok hk).mp g2
  have e : Sy66.step s (.move k o) = (goes s (s.at_.set k o), ⟨((s.made + 1 : Nat) : Int), [Sy66.ints (s.at_.set k o)]⟩) := by rw [step_move, if_neg g, hm]
  have hu : s.at_.set k o ∈ nexts s s.at_ := by
    rw [nexts_eq ok.yd]
    exact List.mem_map.mpr ⟨(k, o, s.at_.set k o), (mem_movesOf ok.yd).mpr ⟨(mem_waysOf ok.yd).mp g2, rfl⟩, rfl⟩
  refine iteF ⟨_, rfl, y, C, dx, _, _, rfl, h2.obj, T.cl, T.nP, fld (i := 4) rfl rfl, _, rfl, _, rfl, aP, s.at_, k, o, rfl, h2.place, by omega, by omega, fun H3 aP' s3 e3 => ?_⟩
  have h3 := h2.same s3
  refine ⟨_, rfl, y, C, dx, _, rfl, h3.obj, T.cl, T.nP, zip_len _ rfl, ?_⟩
  rw [put_zip yK_nd (i := 4) rfl (by show 4 < 8; decide)]
  refine ⟨_, rfl, y, C, dx, _, _, rfl, upd_same, T.cl, T.nM, lookup_zip yK_nd (i := 6) rfl rfl, _, _, rfl, rfl, _, rfl, y, C, dx, _, rfl, upd_same, T.cl, T.nM, zip_len _ rfl, ?_⟩
  rw [put_zip yK_nd (i := 6) rfl (by show 6 < 8; decide)]
  have kp3 : Keep Z H H3 := .same (s12.trans s3)
  have st : ∀ {b : Addr} {o u v : HO}, b ≠ y → H3 b = some o → upd (upd H3 y u) y v b = some o := fun {b o u v} h e => by rw [upd_ne h, upd_ne h]; exact e
  have nt : ∀ {b : Addr} {xs : List V}, H3 b = some (.tup xs) → b ≠ y := fun {b xs} e => ne_of e h3.obj (by intro z; cases z)
  have nl : ∀ {b : Addr} {xs : List V}, H3 b = some (.lst xs) → b ≠ y := fun {b xs} e => ne_of e h3.obj (by intro z; cases z)
  have nd : ∀ {b : Addr} {xs : List (List Key × V)}, H3 b = some (.dT xs) → b ≠ y := fun {b xs} e => ne_of e h3.obj (by intro z; cases z)
  have made : ((s.made : Int) + 1) = (((s.made + 1 : Nat) : Nat) : Int) := by omega
  have hY4 : ∀ u, YardIn (upd (upd H3 y u) y (.ins C dx (yK.zip [.int (s.rows : Int), .int (s.cols : Int), .ref aC, .ref aT, .ref aP', .ref aW, .int (((s.made + 1 : Nat) : Nat) : Int), kn]))) C Z y (goes s (s.at_.set k o)) dx aC aT aP' aW cs ts kn := fun u =>
    ⟨upd_same, st (nl h3.cars) h3.cars, pair_imp h3.car fun _ _ e => st (nt e) e, ⟨st (nl h3.track.lst) h3.track.lst, pair_imp h3.track.each fun _ _ e => st (nl e) e⟩, st (nt e3) e3, st (ne_of h3.want h3.obj (by intro z; cases z)) h3.want,
      h3.known.imp id fun ⟨m, em, hk⟩ => ⟨m, em, known_goes ok hu (by
        obtain ⟨kvs, L, a, hkk⟩ := hk
        refine ⟨kvs, L, st (nd a) a, pair_imp hkk.each fun _ _ ⟨x1, l, x2, x3, vs, x4, x5⟩ => ⟨x1, l, x2, x3, vs, st (nl x4) x4, pair_imp x5 fun _ _ mv => mv.keep fun b xs e => st (nt e) e⟩, hkk.nodup, hkk.mem⟩)⟩,
      h3.ny, h3.nC, h3.nT, h3.nW, h3.nt, h3.apart, h3.apt⟩
  rw [show [V.int (s.rows : Int), V.int (s.cols : Int), V.ref aC, V.ref aT, V.ref aP, V.ref aW, V.int (s.made : Int), kn].set 4 (V.ref aP') = [V.int (s.rows : Int), V.int (s.cols : Int), V.ref aC, V.ref aT, V.ref aP', V.ref aW, V.int (s.made : Int), kn] from rfl] at *
  rw [show [V.int (s.rows : Int), V.int (s.cols : Int), V.ref aC, V.ref aT, V.ref aP', V.ref aW, V.int (s.made : Int), kn].set 6 (V.int ((s.made : Int) + 1)) = [V.int (s.rows : Int), V.int (s.cols : Int), V.ref aC, V.ref aT, V.ref aP', V.ref aW, V.int ((s.made : Int) + 1), kn] from rfl, made]
  have h4 := hY4 (.ins C dx (yK.zip [V.int (s.rows : Int), V.int (s.cols : Int), V.ref aC, V.ref aT, V.ref aP', V.ref aW, V.int (s.made : Int), kn]))
  have k4 : Keep Z H (upd (upd H3 y (.ins C dx (yK.zip [V.int (s.rows : Int), V.int (s.cols : Int), V.ref aC, V.ref aT, V.ref aP', V.ref aW, V.int (s.made : Int), kn]))) y (.ins C dx (yK.zip [.int (s.rows : Int), .int (s.cols : Int), .ref aC, .ref aT, .ref aP', .ref aW, .int (((s.made + 1 : Nat) : Nat) : Int), kn]))) := fun b o z e =>
    st (fun q : b = y => h.ny (by rw [← q]; exact z)) (kp3 b o z e)
  generalize upd (upd H3 y _) y _ = H4 at *
  refine ⟨_, rfl, y, C, dx, _, .int ((s.made + 1 : Nat) : Int), rfl, h4.obj, T.cl, T.nM, fld (i := 6) rfl rfl, by show 1 ≤ sizeLine; decide, fun p hp => ?_⟩
  have s5 : Same H4 (upd H4 p (.lst [.int (((s.made + 1 : Nat) : Nat) : Int)])) := same_new hp
  have e5 : (upd H4 p (.lst [.int (((s.made + 1 : Nat) : Nat) : Int)])) p = some (.lst [.int (((s.made + 1 : Nat) : Nat) : Int)]) := upd_same
  generalize upd H4 p (.lst [.int (((s.made + 1 : Nat) : Nat) : Int)]) = H5 at *
  have h5 := h4.same s5
  refine ⟨_, rfl, y, C, dx, _, _, rfl, h5.obj, T.cl, T.nP, fld (i := 4) rfl rfl, aP', nums (s.at_.set k o), rfl, .inr h5.place, by rw [nums_len, List.length_set]; omega, fun H6 l s6 nl6 e6 => ?_⟩
  have l5 : (s.at_.set k o).length ≤ 5 := by rw [List.length_set]; omega
  refine ⟨p, l, _, _, rfl, rfl, s6 _ _ e5, e6, Nat.le_trans (show _ ≤ 100 by show 1 + ((nums (s.at_.set k o)).length + 1) ≤ 100; rw [nums_len]; omega) (by decide), fun r6 hr6 => ?_⟩
  have k6 := k4.trans (.same (s5.trans s6))
  refine q _ r6 ?_ (k6.trans (.same (same_new hr6))) ((hZ.keep k6).new hr6) ?_
  · rw [e]
    exact ⟨dx, aC, aT, aP', aW, cs, ts, kn, (h5.same s6).same (same_new hr6)⟩
  · rw [e, upd_same, out_one, nums_len]
    rfl
end
end Cy

set_option Elab.async false
set_option maxRecDepth 100000
set_option maxHeartbeats 2000000
/-! want_car, free_car. -/
namespace Cy
open PySem PySem.Spec PyProof.Rows L2
open Cr (nums)
open Sy66 (Car carOf done reach ends moved nexts legal arrangements lineLong)

def leave (s : St) (k : Nat) : List (Nat × Nat) := s.wants.filter fun (x : Nat × Nat) => x.1 != k
def wish (s : St) (w : List (Nat × Nat)) : St := { s with wants := w }
theorem step_want {s : St} {k o : Nat} : Sy66.step s (.want k o) = if s.cars.length ≤ k then (s, Sy66.ok (-2)) else if lineLong s (carOf s k) < o + (carOf s k).long then (s, Sy66.ok (-1)) else
      (wish s (leave s k ++ [(k, o)]), Sy66.ok ((leave s k ++ [(k, o)]).length : Nat)) := rfl
theorem step_free {s : St} {k : Nat} : Sy66.step s (.free k) = if s.cars.length ≤ k then (s, Sy66.ok (-2)) else (wish s (leave s k), Sy66.ok ((leave s k).length : Nat)) := rfl
theorem key_ne {a k : Nat} : decide ((Sum.inl (a : Int) : Key) ≠ Sum.inl (k : Int)) = (a != k) := by
  by_cases c : a = k
  · subst c
    simp
  · have h : ¬ (Sum.inl (a : Int) : Key) = Sum.inl (k : Int) := fun z => c (Int.ofNat.inj (Sum.inl.inj z))
    rw [decide_eq_true h]
    exact (bne_iff_ne.mpr c).symm
theorem drop_want (ws : List (Nat × Nat)) (k : Nat) : dropK (wantK ws) (Sum.inl (k : Int)) = wantK (ws.filter fun (x : Nat × Nat) => x.1 != k) := by
  induction ws with
  | nil => rfl
  | cons x ws ih =>
    show (List.filter _ ((Sum.inl (x.1 : Int), V.int (x.2 : Int)) :: wantK ws)) = _
    rw [List.filter_cons, List.filter_cons]
    show (if decide ((Sum.inl (x.1 : Int) : Key) ≠ Sum.inl (k : Int)) = true then _ else _) = _
    rw [key_ne]
    have ih' : List.filter (fun kv : Key × V => decide (kv.1 ≠ Sum.inl (k : Int))) (wantK ws) = wantK (ws.filter fun (x : Nat × Nat) => x.1 != k) := ih
    by_cases c : (x.1 != k) = true
    · rw [if_pos c, if_pos c, ih']
      rfl
    · rw [if_neg c, if_neg c, ih']
theorem want_out {ws : List (Nat × Nat)} {k : Nat} (h : ∀ x ∈ ws, x.1 ≠ k) : valV (wantK ws) (Sum.inl (k : Int)) = none := by
  induction ws with
  | nil => rfl
  | cons x ws ih =>
    show valV ((Sum.inl (x.1 : Int), V.int (x.2 : Int)) :: wantK ws) _ = none
    rw [valV_neg fun z => h x (List.mem_cons_self ..) (Int.ofNat.inj (Sum.inl.inj z))]
    exact ih fun y hy => h y (List.mem_cons_of_mem _ hy)
theorem want_none {ws : List (Nat × Nat)} {k : Nat} (h : valV (wantK ws) (Sum.inl (k : Int)) = none) : (ws.filter fun (x : Nat × Nat) => x.1 != k) = ws := by
  induction ws with
  | nil => rfl
  | cons x ws ih =>
    have h : valV ((Sum.inl (x.1 : Int), V.int (x.2 : Int)) :: wantK ws) (Sum.inl (k : Int)) = none := h
    by_cases c : x.1 = k
    · subst c
      rw [valV_pos rfl] at h
      cases h
    · rw [valV_neg fun z => c (Int.ofNat.inj (Sum.inl.inj z))] at h
      rw [List.filter_cons_of_pos (p := fun (x : Nat × Nat) => x.1 != k) (bne_iff_ne.mpr c), ih h]
theorem leave_out (s : St) (k : Nat) : ∀ x ∈ leave s k, x.1 ≠ k := fun _ hx => bne_iff_ne.mp (List.mem_filter.mp hx).2
theorem leave_few (s : St) (k : Nat) : (leave s k).length ≤ s.wants.length := List.length_filter_le _ _
theorem wants_few {s : St} (ok : Ok s) : s.wants.length ≤ 5 := by
  have h := nodup_len (r := List.range s.cars.length) ok.keys fun k hk => by
    obtain ⟨x, hx, rfl⟩ := List.mem_map.mp hk
    exact List.mem_range.mpr (ok.want x hx).1
  rw [List.length_map, List.length_range] at h
  exact Nat.le_trans h ok.yd.cars
/-- the wanted cars change -/
theorem YardIn.wish {H : Hp} {C : Addr} {Z : Addr → Prop} {y : Addr} {s : St} {dx aC aT aP aW : Addr} {cs ts : List Addr} {kn : V} (h : YardIn H C Z y s dx aC aT aP aW cs ts kn) (w : List (Nat × Nat)) : YardIn (upd H aW (.dK (wantK w))) C Z y (Cy.wish s w) dx aC aT aP aW cs ts kn := by
  have ne : ∀ {b : Addr} {o : HO}, H b = some o → (∀ xs, o ≠ .dK xs) → upd H aW (.dK (wantK w)) b = some o := fun {b o} e n => by rw [upd_ne (ne_of e h.want (n _))]; exact e
  have nt : ∀ {b : Addr} {xs : List V}, H b = some (.tup xs) → upd H aW (.dK (wantK w)) b = some (.tup xs) := fun e => ne e fun xs q => by cases q
  have nl : ∀ {b : Addr} {xs : List V}, H b = some (.lst xs) → upd H aW (.dK (wantK w)) b = some (.lst xs) := fun e => ne e fun xs q => by cases q
  exact ⟨ne h.obj fun xs q => (by cases q), nl h.cars, pair_imp h.car fun _ _ e => nt e, ⟨nl h.track.lst, pair_imp h.track.each fun _ _ e => nl e⟩, nt h.place, upd_same,
    h.known.imp id fun ⟨m, em, kvs, L, a, hkk⟩ => ⟨m, em, kvs, L, ne a fun xs q => (by cases q), pair_imp hkk.each fun _ _ ⟨x1, l, x2, x3, vs, x4, x5⟩ => ⟨x1, l, x2, x3, vs, nl x4, pair_imp x5 fun _ _ mv => mv.keep fun b xs e => nt e⟩, hkk.nodup, hkk.mem⟩,
    h.ny, h.nC, h.nT, h.nW, h.nt, h.apart, h.apt⟩
theorem YardIn.leave {H : Hp} {C : Addr} {Z : Addr → Prop} {y : Addr} {s : St} {dx aC aT aP aW : Addr} {cs ts : List Addr} {kn : V} (h : YardIn H C Z y s dx aC aT aP aW cs ts kn) {k : Nat} (e : valV (wantK s.wants) (Sum.inl (k : Int)) = none) : YardIn H C Z y (Cy.wish s (Cy.leave s k)) dx aC aT aP aW cs ts kn := by
  have e2 : Cy.leave s k = s.wants := want_none e
  rw [e2]
  exact h
section
variable {P : Program} {w : World} {K : PySem.W.Frag} {mg : Str → Option Value} {base : Heap} {C : Addr}
def spWantCar (C : Addr) : Sp := fun vs H Q _ => ∃ (y : Addr) (k o : Nat), vs = [.ref y, .int (k : Int), .int (o : Int)] ∧ Told C y (.want k o) H Q
theorem scWantCar : FnScope ["yard", "car", "place"] ["yard", "car", "place"] (C8.fnScope sWantCar) := C8.fnScope_by (by decide +kernel)
theorem ok_wantCar {f : Addr} {fd : FuncData} (F : C8.Def K mg "want_car" sWantCar f fd) (b : Binds K fd ["yard", "car", "place"] []) (T : Txt K mg C) (cR : C8.Cal P w K mg base 1 "refused" spRefused []) : C8.Cal P w K mg base 2 "want_car" (spWantCar C) [] := by
  refine C8.cal0 F b .nil scWantCar (fun vs H Q E h => ?_) (fun cdv A outer s H vs Q E hr h => ?_)
  · obtain ⟨_, _, _, rfl, _⟩ := h
    rfl
  obtain ⟨y, k, o, rfl, Z, s, h0, hZ, ok, q⟩ := h
  have hu := hu_of hr
  refine ⟨_, pss_cons (ps_if (pt_cmpR op_ge (pv 1) (pe_callB call_len_seq (by rfl) T.len PySem.boot_len (pa_cons (pe_fld (pv 0) rfl) pa_nil)) (nomark _)) (pss_one (ps_ret (C8.pe_c cR hr (by decide) rfl (pa_cons (C8.pe_gc rfl (gcI T.c2)) pa_nil)))) pss_nil)
    (pss_cons (ps_if (pt_cmpR op_ge (pv 2) (pe_callB call_len_seq (by rfl) T.len PySem.boot_len (pa_cons (pe_ix ix_list (pe_fld (pv 0) rfl) (pv 1) (fun _ _ => rfl)) pa_nil)) (nomark _)) (pss_one (ps_ret (C8.pe_c cR hr (by decide) rfl (pa_cons (C8.pe_gc rfl (gcI T.c1)) pa_nil)))) pss_nil)
    (C8.pss_cut (ps_expr (pe_dpop2 (pe_fld (pv 0) rfl) (pv 1) pe_non ⟨by rfl, by rfl, by rfl, by rfl⟩))
    (pss_cons (ps_dput hu (pe_fld (pv 0) rfl) (pv 1) (pv 2) rfl)
    (pss_one (ps_ret (pe_lst (pa_cons (pe_callB call_lenD (by rfl) T.len PySem.boot_len (pa_cons (pe_fld (pv 0) rfl) pa_nil)) pa_nil))))))), ?_⟩
  obtain ⟨dx, aC, aT, aP, aW, cs, ts, kn, h⟩ := h0
  have hY : YardAt H C Z y s := ⟨dx, aC, aT, aP, aW, cs, ts, kn, h⟩
  have lt : ts.length = s.cars.length := h.track.len
  have five := wants_few ok
  refine ⟨_, rfl, _, rfl, y, C, dx, _, _, rfl, h.obj, T.cl, T.nT, fld (i := 3) rfl rfl, aT, _, rfl, .inl (SqL.of h.track.lst), _, _, rfl, rfl, _, rfl, ?_⟩
  rw [List.length_map, lt]
  by_cases g : s.cars.length ≤ k
  · rw [decide_eq_true (show (s.cars.length : Int) ≤ (k : Int) by omega)]
    exact iteT ⟨2, rfl, fun p hp => q.num (by rw [step_want, if_pos g]) hY (fun b o _ e => e) hZ hp⟩
  rw [decide_eq_false (show ¬ (s.cars.length : Int) ≤ (k : Int) by omega)]
  have hk : k < s.cars.length := by omega
  obtain ⟨tr, htr, hcells⟩ := h.track.at hk
  have lm := lt_many (o := o) ok.yd hk
  refine iteF ⟨_, rfl, _, rfl, y, C, dx, _, _, rfl, h.obj, T.cl, T.nT, fld (i := 3) rfl rfl, _, rfl, aT, _, _, _, rfl, rfl, SqL.of h.track.lst, atI_nat htr, tr, _, rfl, .inl (SqL.of hcells), _, _, rfl, rfl, _, rfl, ?_⟩
  rw [nums_len, track_len]
  by_cases g2 : o < many s (carOf s k)
  rotate_left
  · rw [decide_eq_true (show ((many s (carOf s k) : Nat) : Int) ≤ (o : Int) by omega)]
    exact iteT ⟨1, rfl, fun p hp => q.num (by rw [step_want, if_neg g, if_pos (by omega)]) hY (fun b o _ e => e) hZ hp⟩
  rw [decide_eq_false (show ¬ ((many s (carOf s k) : Nat) : Int) ≤ (o : Int) by omega)]
  have e : Sy66.step s (.want k o) = (wish s (leave s k ++ [(k, o)]), Sy66.ok ((leave s k ++ [(k, o)]).length : Nat)) := by rw [step_want, if_neg g, if_neg (by omega)]
  refine iteF ⟨fun σ' H' => σ' = start ["yard", "car", "place"] [.ref y, .int (k : Int), .int (o : Int)] ∧ Keep Z H H' ∧ YardIn H' C Z y (wish s (leave s k)) dx aC aT aP aW cs ts kn, ⟨_, rfl, y, C, dx, _, _, rfl, h.obj, T.cl, T.nW, fld (i := 5) rfl rfl, aW, rfl, .inl ⟨_, .inl h.want⟩, _, rfl, _, Sum.inl (k : Int), h.want, rfl, fun v hv => ⟨rfl, ?_, ?_⟩, fun hv => ⟨rfl, fun b o _ e => e, h.leave hv⟩⟩, ?_⟩
  · exact fun b o z e => by rw [upd_ne fun q : b = aW => h.nW (by rw [← q]; exact z)]; exact e
  · rw [drop_want]
    exact h.wish _
  rintro σ' H1 ⟨rfl, k1, h1⟩
  have few := leave_few s k
  refine ⟨_, rfl, _, rfl, y, C, dx, _, _, rfl, h1.obj, T.cl, T.nW, fld (i := 5) rfl rfl, _, rfl, aW, _, rfl, DPut.k (k := Sum.inl (k : Int)) h1.want ?_, ?_⟩
  · rw [wantK_len]
    exact Nat.lt_of_le_of_lt (show (leave s k).length ≤ 5 by omega) (by decide)
  have ep : putK (wantK (wish s (leave s k)).wants) (Sum.inl (k : Int)) (.int (o : Int)) = wantK (leave s k ++ [(k, o)]) := by
    show putK (wantK (leave s k)) _ _ = _
    rw [putK_new _ (want_out (leave_out s k))]
    unfold wantK
    rw [List.map_append]
    rfl
  rw [ep]
  have h2 := h1.wish (leave s k ++ [(k, o)])
  have k2 : Keep Z H (upd H1 aW (.dK (wantK (leave s k ++ [(k, o)])))) := k1.trans fun b o z e => by rw [upd_ne fun q : b = aW => h.nW (by rw [← q]; exact z)]; exact e
  generalize upd H1 aW (.dK (wantK (leave s k ++ [(k, o)]))) = H2 at *
  refine ⟨_, rfl, y, C, dx, _, _, rfl, h2.obj, T.cl, T.nW, fld (i := 5) rfl rfl, aW, _, rfl, h2.want, by show 1 ≤ sizeLine; decide, fun p hp => ?_⟩
  refine q _ p ?_ (k2.trans (.same (same_new hp))) ((hZ.keep k2).new hp) ?_
  · rw [e]
    exact ⟨dx, aC, aT, aP, aW, cs, ts, kn, h2.same (same_new hp)⟩
  · rw [e, upd_same, wantK_len]
    rfl
def spFreeCar (C : Addr) : Sp := fun vs H Q _ => ∃ (y : Addr) (k : Nat), vs = [.ref y, .int (k : Int)] ∧ Told C y (.free k) H Q
theorem scFreeCar : FnScope ["yard", "car"] ["yard", "car"] (C8.fnScope sFreeCar) := C8.fnScope_by (by decide +kernel)
theorem ok_freeCar {f : Addr} {fd : FuncData} (F : C8.Def K mg "free_car" sFreeCar f fd) (b : Binds K fd ["yard", "car"] []) (T : Txt K mg C) (cR : C8.Cal P w K mg base 1 "refused" spRefused []) : C8.Cal P w K mg base 2 "free_car" (spFreeCar C) [] := by
  refine C8.cal0 F b .nil scFreeCar (fun vs H Q E h => ?_) (fun cdv A outer s H vs Q E hr h => ?_)
  · obtain ⟨_, _, rfl, _⟩ := h
    rfl
  obtain ⟨y, k, rfl, Z, s, h0, hZ, ok, q⟩ := h
  have hu := hu_of hr
  refine ⟨_, pss_cons (ps_if (pt_cmpR op_ge (pv 1) (pe_callB call_len_seq (by rfl) T.len PySem.boot_len (pa_cons (pe_fld (pv 0) rfl) pa_nil)) (nomark _)) (pss_one (ps_ret (C8.pe_c cR hr (by decide) rfl (pa_cons (C8.pe_gc rfl (gcI T.c2)) pa_nil)))) pss_nil)
    (C8.pss_cut (ps_expr (pe_dpop2 (pe_fld (pv 0) rfl) (pv 1) pe_non ⟨by rfl, by rfl, by rfl, by rfl⟩))
    (pss_one (ps_ret (pe_lst (pa_cons (pe_callB call_lenD (by rfl) T.len PySem.boot_len (pa_cons (pe_fld (pv 0) rfl) pa_nil)) pa_nil))))), ?_⟩
  obtain ⟨dx, aC, aT, aP, aW, cs, ts, kn, h⟩ := h0
  have hY : YardAt H C Z y s := ⟨dx, aC, aT, aP, aW, cs, ts, kn, h⟩
  have lt : ts.length = s.cars.length := h.track.len
  refine ⟨_, rfl, _, rfl, y, C, dx, _, _, rfl, h.obj, T.cl, T.nT, fld (i := 3) rfl rfl, aT, _, rfl, .inl (SqL.of h.track.lst), _, _, rfl, rfl, _, rfl, ?_⟩
  rw [List.length_map, lt]
  by_cases g : s.cars.length ≤ k
  · rw [decide_eq_true (show (s.cars.length : Int) ≤ (k : Int) by omega)]
    exact iteT ⟨2, rfl, fun p hp => q.num (by rw [step_free, if_pos g]) hY (fun b o _ e => e) hZ hp⟩
  rw [decide_eq_false (show ¬ (s.cars.length : Int) ≤ (k : Int) by omega)]
  have e : Sy66.step s (.free k) = (wish s (leave s k), Sy66.ok ((leave s k).length : Nat)) := by rw [step_free, if_neg g]
  refine iteF ⟨fun σ' H' => σ' = start ["yard", "car"] [.ref y, .int (k : Int)] ∧ Keep Z H H' ∧ YardIn H' C Z y (wish s (leave s k)) dx aC aT aP aW cs ts kn, ⟨_, rfl, y, C, dx, _, _, rfl, h.obj, T.cl, T.nW, fld (i := 5) rfl rfl, aW, rfl, .inl ⟨_, .inl h.want⟩, _, rfl, _, Sum.inl (k : Int), h.want, rfl, fun v hv => ⟨rfl, ?_, ?_⟩, fun hv => ⟨rfl, fun b o _ e => e, h.leave hv⟩⟩, ?_⟩
  · exact fun b o z e => by rw [upd_ne fun q : b = aW => h.nW (by rw [← q]; exact z)]; exact e
  · rw [drop_want]
    exact h.wish _
  rintro σ' H2 ⟨rfl, k2, h2⟩
  refine ⟨_, rfl, y, C, dx, _, _, rfl, h2.obj, T.cl, T.nW, fld (i := 5) rfl rfl, aW, _, rfl, h2.want, by show 1 ≤ sizeLine; decide, fun p hp => ?_⟩
  refine q _ p ?_ (k2.trans (.same (same_new hp))) ((hZ.keep k2).new hp) ?_
  · rw [e]
    exact ⟨dx, aC, aT, aP, aW, cs, ts, kn, h2.same (same_new hp)⟩
  · rw [e, upd_same, wantK_len]
    rfl
end
end Cy

set_option Elab.async false
set_option maxRecDepth 100000
set_option maxHeartbeats 2000000
/-! moves_about, needed_about, count_fewest, tell_reach. -/
namespace Cy
open PySem PySem.Spec PyProof.Rows L2
open Cr (nums)
open Sy66 (Car carOf done reach ends moved nexts legal arrangements lineLong)

theorem YardIn.knownAt {H : Hp} {C : Addr} {Z : Addr → Prop} {y : Addr} {s : St} {dx aC aT aP aW m : Addr} {cs ts : List Addr} (h : YardIn H C Z y s dx aC aT aP aW cs ts (.ref m)) : KnownAt H (fun l => ¬ Z l) m s := by
  rcases h.known with e | ⟨m', e, k⟩
  · cases e
  · cases e
    exact k
/-- the known moves are found -/
theorem YardIn.find {H H1 : Hp} {C : Addr} {Z : Addr → Prop} {y : Addr} {s : St} {dx aC aT aP aW m : Addr} {cs ts : List Addr} {kn : V} (h : YardIn H C Z y s dx aC aT aP aW cs ts kn) (hZ : Out Z H) (s1 : Same H H1) (k : KnownAt H1 (fun l => H l = none) m s) :
    YardIn (upd H1 y (.ins C dx (yK.zip [.int (s.rows : Int), .int (s.cols : Int), .ref aC, .ref aT, .ref aP, .ref aW, .int (s.made : Int), .ref m]))) C Z y s dx aC aT aP aW cs ts (.ref m) := by
  have h1 := h.same s1
  have st : ∀ {b : Addr} {o v : HO}, H1 b = some o → (∀ C d fs, o ≠ .ins C d fs) → upd H1 y v b = some o := fun {b o v} e n => by rw [upd_ne (ne_of e h1.obj (n _ _ _))]; exact e
  have nt : ∀ {b : Addr} {xs : List V} {v : HO}, H1 b = some (.tup xs) → upd H1 y v b = some (.tup xs) := fun e => st e fun _ _ _ q => by cases q
  have nl : ∀ {b : Addr} {xs : List V} {v : HO}, H1 b = some (.lst xs) → upd H1 y v b = some (.lst xs) := fun e => st e fun _ _ _ q => by cases q
  obtain ⟨kvs, L, a, hkk⟩ := k
  exact ⟨upd_same, nl h1.cars, pair_imp h1.car fun _ _ e => nt e, ⟨nl h1.track.lst, pair_imp h1.track.each fun _ _ e => nl e⟩, nt h1.place, st h1.want (fun _ _ _ q => by cases q),
    .inr ⟨m, rfl, kvs, L, st a (fun _ _ _ q => by cases q), pair_imp hkk.each fun _ _ ⟨x1, l, x2, x3, vs, x4, x5⟩ => ⟨x1, l, x2, hZ.new x3, vs, nl x4, pair_imp x5 fun _ _ mv => mv.keep fun b xs e => nt e⟩, hkk.nodup, hkk.mem⟩,
    h1.ny, h1.nC, h1.nT, h1.nW, h1.nt, h1.apart, h1.apt⟩
/-- a new list is the answer -/
theorem After.list {C y : Addr} {x : Sy66.Call} {H : Hp} {Q : VK} {Z : Addr → Prop} {s s' : St} {a : Sy66.Ans} {xs : List V} (q : After C y x H Q Z s) (e : Sy66.step s x = (s', a)) (ex : (Sy66Neutral.out a).map V.int = xs) {H1 : Hp} {p : Addr} (h : YardAt H1 C Z y s') (k : Keep Z H H1) (hZ : Out Z H) (hp : H1 p = none) : Q (.ref p) (upd H1 p (.lst xs)) := by
  refine q _ p ?_ (k.trans (.same (same_new hp))) ((hZ.keep k).new hp) ?_
  · rw [e]; exact h.same (same_new hp)
  · rw [e, upd_same, ex]
section
variable {P : Program} {w : World} {K : PySem.W.Frag} {mg : Str → Option Value} {base : Heap} {C : Addr}
def spAbout (C : Addr) : Sp := fun vs H Q _ => ∃ (y : Addr) (s : St) (Z : Addr → Prop) (dx aC aT aP aW : Addr) (cs ts : List Addr) (kn : V), vs = [.ref y] ∧ YardIn H C Z y s dx aC aT aP aW cs ts kn ∧ Out Z H ∧ Ok s ∧
  ∀ H' m, But y H H' → YardIn H' C Z y s dx aC aT aP aW cs ts (.ref m) → Q (.ref m) H'
theorem scAbout : FnScope ["yard"] ["yard"] (C8.fnScope sAbout) := C8.fnScope_by (by decide +kernel)
theorem ok_about {f : Addr} {fd : FuncData} (F : C8.Def K mg "moves_about" sAbout f fd) (b : Binds K fd ["yard"] []) (T : Txt K mg C) (cM : C8.Cal P w K mg base 3 "moves_by_arrangement" spMovesBy []) : C8.Cal P w K mg base 4 "moves_about" (spAbout C) [] := by
  refine C8.cal0 F b .nil scAbout (fun vs H Q E h => ?_) (fun cdv A outer s H vs Q E hr h => ?_)
  · obtain ⟨_, _, _, _, _, _, _, _, _, _, _, rfl, _⟩ := h
    rfl
  obtain ⟨y, s, Z, dx, aC, aT, aP, aW, cs, ts, kn, rfl, h, hZ, ok, q⟩ := h
  refine ⟨_, pss_cons (ps_if (pt_cmpR op_isN (pe_fld (pv 0) rfl) pe_non (nomark _)) (pss_one (ps_fld (pv 0) (C8.pe_c cM hr (by decide) rfl (pa_cons (pe_fld (pv 0) rfl) (pa_cons (pe_fld (pv 0) rfl) pa_nil))) rfl)) pss_nil)
    (pss_one (ps_ret (pe_fld (pv 0) rfl))), ?_⟩
  refine ⟨_, rfl, y, C, dx, _, _, rfl, h.obj, T.cl, T.nK, fld (i := 7) rfl rfl, rfl, _, rfl, ?_⟩
  rcases h.known with e | ⟨m, e, k⟩
  · rw [decide_eq_true e]
    refine iteT ⟨_, rfl, y, C, dx, _, _, rfl, h.obj, T.cl, T.nT, fld (i := 3) rfl rfl, _, rfl, y, C, dx, _, _, rfl, h.obj, T.cl, T.nP, fld (i := 4) rfl rfl, aT, aP, ts, s, rfl, h.track, h.place, ok, fun H1 m s1 hm k => ?_⟩
    have f := h.find hZ s1 k
    have bt : But y H (upd H1 y (.ins C dx (yK.zip [.int (s.rows : Int), .int (s.cols : Int), .ref aC, .ref aT, .ref aP, .ref aW, .int (s.made : Int), .ref m]))) := (But.of s1).put
    refine ⟨_, rfl, y, C, dx, _, rfl, (h.same s1).obj, T.cl, T.nK, zip_len _ rfl, ?_⟩
    rw [put_zip yK_nd (i := 7) rfl (by show 7 < 8; decide)]
    exact ⟨_, rfl, y, C, dx, _, _, rfl, f.obj, T.cl, T.nK, fld (i := 7) rfl rfl, q _ m bt f⟩
  · rw [decide_eq_false (show ¬ kn = .non from fun z => by rw [e] at z; cases z)]
    subst e
    exact iteF ⟨_, rfl, y, C, dx, _, _, rfl, h.obj, T.cl, T.nK, fld (i := 7) rfl rfl, q H m (fun b o _ e => e) h⟩

/-! ### needed_about -/
def spNeedAbout (C : Addr) : Sp := fun vs H Q _ => ∃ (y : Addr) (s : St) (Z : Addr → Prop) (dx aC aT aP aW : Addr) (cs ts : List Addr) (kn : V), vs = [.ref y] ∧ YardIn H C Z y s dx aC aT aP aW cs ts kn ∧ Out Z H ∧ Ok s ∧
  ∀ H' m p N, But y H H' → YardIn H' C Z y s dx aC aT aP aW cs ts (.ref m) → ¬ Z p → p ≠ m → H' p = some (.dT (ndK N)) → Needs s N → Q (.ref p) H'
theorem scNeedAbout : FnScope ["yard"] ["yard"] (C8.fnScope sNeedAbout) := C8.fnScope_by (by decide +kernel)
theorem ok_needAbout {f : Addr} {fd : FuncData} (F : C8.Def K mg "needed_about" sNeedAbout f fd) (b : Binds K fd ["yard"] []) (T : Txt K mg C) (cA : C8.Cal P w K mg base 4 "moves_about" (spAbout C) []) (cN : C8.Cal P w K mg base 2 "moves_needed" spNeeded []) :
    C8.Cal P w K mg base 5 "needed_about" (spNeedAbout C) [] := by
  refine C8.cal0 F b .nil scNeedAbout (fun vs H Q E h => ?_) (fun cdv A outer s H vs Q E hr h => ?_)
  · obtain ⟨_, _, _, _, _, _, _, _, _, _, _, rfl, _⟩ := h
    rfl
  obtain ⟨y, s, Z, dx, aC, aT, aP, aW, cs, ts, kn, rfl, h, hZ, ok, q⟩ := h
  refine ⟨_, pss_one (ps_ret (C8.pe_c cN hr (by decide) rfl (pa_cons (C8.pe_c cA hr (by decide) rfl (pa_cons (pv 0) pa_nil)) (pa_cons (pe_fld (pv 0) rfl) pa_nil)))), ?_⟩
  refine ⟨_, rfl, y, s, Z, dx, aC, aT, aP, aW, cs, ts, kn, rfl, h, hZ, ok, fun H1 m b1 h1 => ?_⟩
  obtain ⟨kvs, L, hm, hk⟩ := h1.knownAt
  refine ⟨_, rfl, y, C, dx, _, _, rfl, h1.obj, T.cl, T.nW, fld (i := 5) rfl rfl, m, aW, s, _, kvs, L, rfl, ok, hm, hk, h1.want, fun H2 p N s2 np e2 nd => ?_⟩
  exact q H2 m p N (b1.same s2) (h1.same s2) ((hZ.keep (Keep.but h.ny b1)).new np) (ne_of_none hm np).symm e2 nd

/-! ### count_fewest -/
def spFewest (C : Addr) (x : Sy66.Call) : Sp := fun vs H Q _ => ∃ (y : Addr), vs = [.ref y] ∧ Told C y x H Q
theorem scFewest : FnScope ["yard", "needed"] ["yard"] (C8.fnScope sFewest) := C8.fnScope_by (by decide +kernel)
theorem step_fewest {s : St} : Sy66.step s .fewest = (s, match Sy66.distance (ends s) s.at_ with
      | none => Sy66.ok (-6)
      | some k => Sy66.ok (k : Nat)) := rfl
theorem ok_fewest {f : Addr} {fd : FuncData} (F : C8.Def K mg "count_fewest" sFewest f fd) (b : Binds K fd ["yard"] []) (T : Txt K mg C) (cR : C8.Cal P w K mg base 1 "refused" spRefused []) (cA : C8.Cal P w K mg base 5 "needed_about" (spNeedAbout C) []) :
    C8.Cal P w K mg base 6 "count_fewest" (spFewest C .fewest) [] := by
  refine C8.cal0 F b .nil scFewest (fun vs H Q E h => ?_) (fun cdv A outer s H vs Q E hr h => ?_)
  · obtain ⟨_, rfl, _⟩ := h
    rfl
  obtain ⟨y, rfl, Z, s, ⟨dx, aC, aT, aP, aW, cs, ts, kn, h⟩, hZ, ok, q⟩ := h
  have hu := hu_of hr
  refine ⟨_, pss_cons (ps_set (i := 1) scFewest.nd rfl (.inl rfl) (C8.pe_c cA hr (by decide) rfl (pa_cons (pv 0) pa_nil)))
    (pss_cons (ps_if (pt_not (Cr.pt_dT (pv 1))) (pss_one (ps_ret (C8.pe_c cR hr (by decide) rfl (pa_cons (C8.pe_gc rfl (gcI T.c4)) pa_nil)))) pss_nil)
    (pss_one (ps_ret (pe_lst (pa_cons (pe_dget hu (pv 1) (pe_fld (pv 0) rfl) (fun _ _ => rfl)) pa_nil))))), ?_⟩
  refine ⟨_, rfl, y, s, Z, dx, aC, aT, aP, aW, cs, ts, kn, rfl, h, hZ, ok, fun H1 m p N b1 h1 pz pm e1 nd => ?_⟩
  have k1 := Keep.but h.ny b1
  have hY : YardAt H1 C Z y s := ⟨dx, aC, aT, aP, aW, cs, ts, _, h1⟩
  refine ⟨_, rfl, p, ndK N, rfl, .inl e1, ?_⟩
  by_cases g : N = []
  · rw [show (!(ndK N).isEmpty) = false by rw [g]; rfl]
    exact iteT ⟨6, rfl, fun r hr2 => q.num (by rw [step_fewest, (dist_none ok Can.self).mpr (nd.empty.mp g)]) hY k1 hZ hr2⟩
  · have e0 : (!(ndK N).isEmpty) = true := by
      cases N with
      | nil => exact absurd rfl g
      | cons a r => rfl
    rw [e0]
    obtain ⟨k, mk, need⟩ := nd.some ok g (Can.self (s := s))
    refine iteF ⟨_, rfl, _, rfl, y, C, dx, _, _, rfl, h1.obj, T.cl, T.nP, fld (i := 4) rfl rfl, p, _, rfl, dget (.inl e1) h1.place (nd_val nd mk), by show 1 ≤ sizeLine; decide, fun r hr2 => ?_⟩
    exact q.num (by rw [step_fewest, (dist_some ok Can.self).mpr need]) hY k1 hZ hr2

/-! ### tell_reach -/
theorem scReach : FnScope ["yard"] ["yard"] (C8.fnScope sReach) := C8.fnScope_by (by decide +kernel)
theorem step_reach {s : St} : Sy66.step s .reach = (s, ⟨((reach s).length : Nat), [[((arrangements s).length : Int)]]⟩) := rfl
theorem known_len {s : St} (ok : Ok s) {H : Hp} {Pr : Addr → Prop} {kvs : List (List Key × V)} {L : List (List Nat)} (h : Known s H Pr kvs L) : kvs.length = (reach s).length := by
  have e : kvs.length = L.length := Paired.length h.each
  rw [e]
  exact length_eq h.nodup (reach_nodup ok) fun x => (h.mem x).trans (mem_reach ok).symm
theorem ok_reach {f : Addr} {fd : FuncData} (F : C8.Def K mg "tell_reach" sReach f fd) (b : Binds K fd ["yard"] []) (T : Txt K mg C) (cA : C8.Cal P w K mg base 4 "moves_about" (spAbout C) []) (cC : C8.Cal P w K mg base 1 "count_arrangements" spCount []) (cL : C8.Cal P w K mg base 1 "listed" spListed []) :
    C8.Cal P w K mg base 5 "tell_reach" (spFewest C .reach) [] := by
  refine C8.cal0 F b .nil scReach (fun vs H Q E h => ?_) (fun cdv A outer s H vs Q E hr h => ?_)
  · obtain ⟨_, rfl, _⟩ := h
    rfl
  obtain ⟨y, rfl, Z, s, ⟨dx, aC, aT, aP, aW, cs, ts, kn, h⟩, hZ, ok, q⟩ := h
  refine ⟨_, pss_one (ps_ret (pe_op op_cat (pe_lst (pa_cons (pe_callB call_len_dT (by rfl) T.len PySem.boot_len (pa_cons (C8.pe_c cA hr (by decide) rfl (pa_cons (pv 0) pa_nil)) pa_nil)) pa_nil))
    (C8.pe_c cL hr (by decide) rfl (pa_cons (pe_lst (pa_cons (C8.pe_c cC hr (by decide) rfl (pa_cons (pe_fld (pv 0) rfl) pa_nil)) pa_nil)) pa_nil)))), ?_⟩
  refine ⟨_, rfl, y, s, Z, dx, aC, aT, aP, aW, cs, ts, kn, rfl, h, hZ, ok, fun H1 m b1 h1 => ?_⟩
  have k1 := Keep.but h.ny b1
  obtain ⟨kvs, L, hm, hk⟩ := h1.knownAt
  refine ⟨m, kvs, rfl, hm, by show 1 ≤ sizeLine; decide, fun p hp => ?_⟩
  rw [known_len ok hk]
  have s2 : Same H1 (upd H1 p (.lst [.int ((reach s).length : Int)])) := same_new hp
  have e2 : (upd H1 p (.lst [.int ((reach s).length : Int)])) p = some (.lst [.int ((reach s).length : Int)]) := upd_same
  generalize upd H1 p (.lst [.int ((reach s).length : Int)]) = H2 at *
  have h2 := h1.same s2
  refine ⟨_, rfl, y, C, dx, _, _, rfl, h2.obj, T.cl, T.nT, fld (i := 3) rfl rfl, aT, ts, s, rfl, h2.track, ok, fun H3 s3 => ⟨by show 1 ≤ sizeLine; decide, fun l hl => ?_⟩⟩
  refine ⟨l, [.int ((arrangements s).length : Int)], rfl, .inl upd_same, by show 1 ≤ 10000; decide, fun H4 r s4 nr e4 => ?_⟩
  have s24 := s3.trans ((same_new hl).trans s4)
  refine ⟨p, r, _, _, rfl, rfl, s24 _ _ e2, e4, by show 1 + 2 ≤ sizeLine; decide, fun t ht => ?_⟩
  exact q.list step_reach rfl ⟨dx, aC, aT, aP, aW, cs, ts, _, h1.same (s2.trans s24)⟩ (k1.trans (.same (s2.trans s24))) hZ ht
end
end Cy

set_option Elab.async false
set_option maxRecDepth 100000
set_option maxHeartbeats 2000000
/-! tell_places. -/
namespace Cy
open PySem PySem.Spec PyProof.Rows L2
open Cr (nums)
open Sy66 (Car carOf done reach ends moved nexts legal arrangements lineLong)

theorem step_places {s : St} {k : Nat} : Sy66.step s (.places k) = (s, if s.cars.length ≤ k then Sy66.ok (-2) else
      ⟨((((reach s).map fun (n : List Nat) => n.getD k 0).foldl (fun (m : List Nat) (r : Nat) => Sy66.insert r m) []).length : Nat), [Sy66.ints (((reach s).map fun (n : List Nat) => n.getD k 0).foldl (fun (m : List Nat) (r : Nat) => Sy66.insert r m) [])]⟩) := rfl
/-- whole numbers as plain ones -/
theorem ints_back {ns : List Int} (h : ∀ z ∈ ns, 0 ≤ z) : (ns.map Int.toNat).map (fun x : Nat => (x : Int)) = ns := by
  induction ns with
  | nil => rfl
  | cons a ns ih =>
    rw [List.map_cons, List.map_cons, ih fun z hz => h z (List.mem_cons_of_mem _ hz), Int.toNat_of_nonneg (h a (List.mem_cons_self ..))]
theorem up_back {ns : List Int} (h : ∀ z ∈ ns, 0 ≤ z) (p : ns.Pairwise (· < ·)) : (ns.map Int.toNat).Pairwise (· < ·) := by
  rw [List.pairwise_map]
  exact p.imp_of_mem fun {a b} ha hb hab => by
    have := h a ha
    omega
section
variable {P : Program} {w : World} {K : PySem.W.Frag} {mg : Str → Option Value} {base : Heap} {C : Addr}
def spPlacesC (C : Addr) : Sp := fun vs H Q _ => ∃ (y : Addr) (k : Nat), vs = [.ref y, .int (k : Int)] ∧ Told C y (.places k) H Q
theorem scPlaces : FnScope ["yard", "car", "stood_at", "places"] ["yard", "car"] (C8.fnScope sPlaces) := C8.fnScope_by (by decide +kernel)
theorem ok_places {f : Addr} {fd : FuncData} (F : C8.Def K mg "tell_places" sPlaces f fd) (b : Binds K fd ["yard", "car"] []) (T : Txt K mg C) (cR : C8.Cal P w K mg base 1 "refused" spRefused []) (cA : C8.Cal P w K mg base 4 "moves_about" (spAbout C) []) (cL : C8.Cal P w K mg base 1 "listed" spListed []) :
    C8.Cal P w K mg base 5 "tell_places" (spPlacesC C) [] := by
  refine C8.cal0 F b .nil scPlaces (fun vs H Q E h => ?_) (fun cdv A outer s H vs Q E hr h => ?_)
  · obtain ⟨_, _, rfl, _⟩ := h
    rfl
  obtain ⟨y, k, rfl, Z, s, ⟨dx, aC, aT, aP, aW, cs, ts, kn, h⟩, hZ, ok, q⟩ := h
  refine ⟨_, pss_cons (ps_if (pt_cmpR op_ge (pv 1) (pe_callB call_len_seq (by rfl) T.len PySem.boot_len (pa_cons (pe_fld (pv 0) rfl) pa_nil)) (nomark _)) (pss_one (ps_ret (C8.pe_c cR hr (by decide) rfl (pa_cons (C8.pe_gc rfl (gcI T.c2)) pa_nil)))) pss_nil)
    (pss_cons (ps_set (i := 2) scPlaces.nd rfl (.inl rfl) (pe_callB (Cr.cr_sortS rfl) (by rfl) T.sort (by decide +kernel) (pa_cons (pe_callTy (Cr.cr_setI rfl) (by rfl) T.set (by decide +kernel) (pa_cons
      (Cr.pe_open (pe_lc (own := [("places", 3)]) (g := gName 3) (tt := tYes) (te := tOp (rIxT K) (tVar 3) (tVar 1)) rfl scPlaces.nd (Cr.pi_keysL (C8.pe_c cA hr (by decide) rfl (pa_cons (pv 0) pa_nil))) (blkOk_by (N := ["yard", "car", "stood_at", "places"]) (sc := C8.fnScope sPlaces) (by decide +kernel))
        (fun _ _ _ _ _ => pg_name (i := 3) scPlaces.nd rfl (Or.inl rfl)) (fun _ _ _ _ _ => pts_nil) (fun _ _ _ _ _ => pe_ix ix_tup (pv 3) (pv 1) (fun _ _ => rfl)))) pa_nil)) pa_nil)))
    (pss_one (ps_ret (pe_op op_cat (pe_lst (pa_cons (pe_callB call_len_seq (by rfl) T.len PySem.boot_len (pa_cons (pv 2) pa_nil)) pa_nil)) (C8.pe_c cL hr (by decide) rfl (pa_cons (pv 2) pa_nil)))))), ?_⟩
  have hY : YardAt H C Z y s := ⟨dx, aC, aT, aP, aW, cs, ts, kn, h⟩
  have lt : ts.length = s.cars.length := h.track.len
  refine ⟨_, rfl, _, rfl, y, C, dx, _, _, rfl, h.obj, T.cl, T.nT, fld (i := 3) rfl rfl, aT, _, rfl, .inl (SqL.of h.track.lst), _, _, rfl, rfl, _, rfl, ?_⟩
  rw [List.length_map, lt]
  by_cases g : s.cars.length ≤ k
  · rw [decide_eq_true (show (s.cars.length : Int) ≤ (k : Int) by omega)]
    exact iteT ⟨2, rfl, fun p hp => q.num (by rw [step_places, if_pos g]) hY (fun b o _ e => e) hZ hp⟩
  rw [decide_eq_false (show ¬ (s.cars.length : Int) ≤ (k : Int) by omega)]
  have hk : k < s.cars.length := by omega
  refine iteF ⟨_, rfl, y, s, Z, dx, aC, aT, aP, aW, cs, ts, kn, rfl, h, hZ, ok, fun H1 m b1 h1 => ?_⟩
  have k1 := Keep.but h.ny b1
  obtain ⟨kvs, L, hm, hk'⟩ := h1.knownAt
  have lk : kvs.length = L.length := Paired.length hk'.each
  have lL := can_len ok hk'.nodup fun n h => (hk'.mem n).mp h
  have notF : ∀ o' u', H m ≠ some (.frz o' u') := fun o' u' e => by
    have := b1 m _ (ne_of e h.obj (by intro z; cases z)) e
    rw [hm] at this
    cases this
  have small : ∀ n ∈ L, n.length = s.cars.length ∧ n.getD k 0 < 5 := fun n hn => by
    have cn := (hk'.mem n).mp hn
    have l := cn.length ok
    have a := at_lt ok.yd (cn.legal ok) (k := k) (by omega) hk
    have := many_le ok.yd hk
    exact ⟨l, by omega⟩
  refine ⟨m, kvs, rfl, hm, fun od D hD => ?_⟩
  have nDm : D ≠ m := (ne_of_none upd_same hD).symm
  have hD1 : H1 D = none := upd_none hD
  refine lc_it walk_keysT (fun i H' => H' m = some (.frz od (.dT kvs)) ∧ (∀ b o, b ≠ m → H1 b = some o → H' b = some o) ∧ H' D = some (.lst (nums ((L.take i).map fun n => n.getD k 0))))
    ⟨by rw [upd_ne nDm.symm]; exact upd_same, fun b o h e => by rw [upd_ne (ne_of_none e hD1), upd_ne h]; exact e, upd_same⟩ (fun i H' _ h => h.1) ?_ ?_
  · rintro i x H2 H3 hi ⟨hm2, k2, hd2⟩ ⟨rfl, ky, v, qn, ek, rfl, hq⟩
    have hiL : i < L.length := by omega
    obtain ⟨kv, ekv, r1, _⟩ := pair_right hk'.each (List.getElem?_eq_getElem hiL)
    rw [ek] at ekv
    cases ekv
    have r1 : ky = keyN L[i] := r1
    subst r1
    rw [key_nums] at hq
    obtain ⟨sl, s5⟩ := small _ (List.getElem_mem hiL)
    refine ⟨rfl, ⟨_, rfl, _, rfl, qn, _, _, _, rfl, rfl, SqT.of hq, atI_nat (nums_getD (show k < (L[i]).length by omega)), _, hd2, ?_, ?_, fun b o h e => ?_, ?_⟩⟩
    · rw [nums_len, List.length_map, List.length_take]
      exact Nat.lt_of_le_of_lt (show _ ≤ 3125 by omega) (by decide)
    · rw [upd_ne nDm.symm]; exact hm2
    · rw [upd_ne (ne_of_none e hD1)]; exact k2 b o h e
    · rw [upd_same, take_snoc hiL, List.map_append, nums_app]
      rfl
  · rintro H2 ⟨hm2, k2, hd2⟩
    rw [lk, List.take_length] at hd2
    refine ⟨m, od, .dT kvs, hm2, notF, ?_⟩
    have s2 : Same H1 (upd H2 m (.dT kvs)) := fun b o e => by
      by_cases z : b = m
      · subst z
        rw [hm] at e
        cases e
        exact upd_same
      · rw [upd_ne z]
        exact k2 b o z e
    have hd3 : (upd H2 m (.dT kvs)) D = some (.lst (nums (L.map fun n => n.getD k 0))) := by rw [upd_ne nDm]; exact hd2
    generalize upd H2 m (.dT kvs) = H3 at *
    have en : nums (L.map fun n => n.getD k 0) = (L.map fun n => ((n.getD k 0 : Nat) : Int)).map V.int := by
      show (L.map _).map _ = _
      rw [List.map_map, List.map_map]
      rfl
    rw [en] at hd3
    refine ⟨D, L.map fun n => ((n.getD k 0 : Nat) : Int), rfl, SqL.of hd3, by rw [List.length_map]; exact Nat.lt_of_le_of_lt (show _ ≤ 3126 by omega) (by decide), fun p c hp => ?_⟩
    refine ⟨p, _, c, (List.range 5).map fun x : Nat => (x : Int), rfl, upd_same, by simp, fun z hz => ?_, fun ns t up mem ht => ?_⟩
    · obtain ⟨n, hn, rfl⟩ := List.mem_map.mp (of_decide_eq_true hz)
      exact List.mem_map.mpr ⟨_, List.mem_range.mpr (small n hn).2, rfl⟩
    have pos : ∀ z ∈ ns, 0 ≤ z := fun z hz => by
      obtain ⟨n, hn, rfl⟩ := List.mem_map.mp (of_decide_eq_true ((mem z).mp hz))
      omega
    have eb := ints_back pos
    have ub := up_back pos up
    generalize hr9 : ns.map Int.toNat = r at *
    subst eb
    have mr : ∀ x, x ∈ r ↔ ∃ n, Can s n ∧ n.getD k 0 = x := fun x => by
      have := mem (x : Int)
      rw [decide_eq_true_eq, List.mem_map, List.mem_map] at this
      constructor
      · intro hx
        obtain ⟨n, hn, e⟩ := this.mp ⟨x, hx, rfl⟩
        exact ⟨n, (hk'.mem n).mp hn, Int.ofNat.inj e⟩
      · rintro ⟨n, cn, e⟩
        obtain ⟨x2, h2, e2⟩ := this.mpr ⟨n, (hk'.mem n).mpr cn, by rw [e]⟩
        have : x2 = x := Int.ofNat.inj e2
        rw [← this]
        exact h2
    have e9 := places_unique ok ub mr
    have en2 : (r.map fun x : Nat => (x : Int)).map V.int = nums r := by
      rw [List.map_map]
      rfl
    rw [en2]
    have len5 : r.length ≤ 5 := by
      have := nodup_len (r := List.range 5) (l := r) (ub.imp fun h => Nat.ne_of_lt h) fun x hx => by
        obtain ⟨n, cn, e⟩ := (mr x).mp hx
        have := (small n ((hk'.mem n).mpr cn)).2
        exact List.mem_range.mpr (by omega)
      rw [List.length_range] at this
      exact this
    generalize hH4 : upd H3 p _ = H4 at ht ⊢
    have s4 : Same H3 H4 := hH4 ▸ same_new hp
    have s5 : Same H4 (upd H4 t (.lst (nums r))) := same_new ht
    have e5 : (upd H4 t (.lst (nums r))) t = some (.lst (nums r)) := upd_same
    generalize upd H4 t (.lst (nums r)) = H5 at *
    refine ⟨_, rfl, t, nums r, rfl, .inl (SqL.of e5), by show 1 ≤ sizeLine; decide, fun a ha => ?_⟩
    have s6 : Same H5 (upd H5 a (.lst [.int ((nums r).length : Int)])) := same_new ha
    have e6 : (upd H5 a (.lst [.int ((nums r).length : Int)])) a = some (.lst [.int ((nums r).length : Int)]) := upd_same
    generalize upd H5 a (.lst [.int ((nums r).length : Int)]) = H6 at *
    refine ⟨_, rfl, t, nums r, rfl, .inl (s6 _ _ e5), by rw [nums_len]; omega, fun H7 l s7 nl e7 => ?_⟩
    refine ⟨a, l, _, _, rfl, rfl, s7 _ _ e6, e7, Nat.le_trans (show _ ≤ 100 by show 1 + ((nums r).length + 1) ≤ 100; rw [nums_len]; omega) (by decide), fun z hz => ?_⟩
    have sAll := s2.trans (s4.trans (s5.trans (s6.trans s7)))
    refine q.list (by rw [step_places, if_neg g, e9]) ?_ ⟨dx, aC, aT, aP, aW, cs, ts, _, h1.same sAll⟩ (k1.trans (.same sAll)) hZ hz
    rw [out_one, nums_len]
    rfl
end
end Cy

set_option Elab.async false
set_option maxRecDepth 100000
set_option maxHeartbeats 2000000
/-! tell_plan. -/
namespace Cy
open PySem PySem.Spec PyProof.Rows L2
open Cr (nums)
open Sy66 (Car carOf done reach ends moved nexts legal arrangements lineLong)

/-- one object more outside -/
theorem YardIn.more {H : Hp} {C : Addr} {Z : Addr → Prop} {y : Addr} {s : St} {dx aC aT aP aW : Addr} {cs ts : List Addr} {kn : V} (h : YardIn H C Z y s dx aC aT aP aW cs ts kn) {t : Addr} {o : HO} (ht : H t = none) : YardIn (upd H t o) C (fun b => Z b ∨ b = t) y s dx aC aT aP aW cs ts kn := by
  have g := h.same (same_new (o := o) ht)
  have ne : ∀ {b : Addr} {u : HO}, H b = some u → ¬ Z b → ¬ (Z b ∨ b = t) := fun e n z => z.elim n (ne_of_none e ht)
  have each : ∀ t' ∈ ts, ∃ u, H t' = some u := by
    have gen : ∀ {as : List Addr} {cars : List Car}, Paired (fun (t : Addr) (c : Car) => H t = some (.lst (nums (Cy.track s c)))) as cars → ∀ t' ∈ as, ∃ u, H t' = some u := by
      intro as cars p
      induction p with
      | nil => intro t ht; cases ht
      | cons r _ ih =>
        intro t ht
        rcases List.mem_cons.mp ht with e | m
        · rw [e]; exact ⟨_, r⟩
        · exact ih t m
    exact gen h.track.each
  refine ⟨g.obj, g.cars, g.car, g.track, g.place, g.want, ?_, ne h.obj h.ny, ne h.cars h.nC, ne h.track.lst h.nT, ne h.want h.nW, fun t' m => ?_, g.apart, g.apt⟩
  · refine h.known.imp id fun ⟨m, em, kvs, L, a, hk⟩ => ⟨m, em, kvs, L, same_new ht _ _ a, pair_imp hk.each fun _ _ ⟨x1, l, x2, x3, x4⟩ => ⟨x1, l, x2, ?_, x4.same (same_new ht)⟩, hk.nodup, hk.mem⟩
    obtain ⟨vs, e, _⟩ := x4
    exact ne e x3
  · obtain ⟨u, e⟩ := each t' m
    exact ne e (h.nt t' m)
theorem YardIn.less {H : Hp} {C : Addr} {Z Z' : Addr → Prop} {y : Addr} {s : St} {dx aC aT aP aW : Addr} {cs ts : List Addr} {kn : V} (h : YardIn H C Z' y s dx aC aT aP aW cs ts kn) (hs : ∀ b, Z b → Z' b) : YardIn H C Z y s dx aC aT aP aW cs ts kn :=
  ⟨h.obj, h.cars, h.car, h.track, h.place, h.want, h.known.imp id fun ⟨m, em, kvs, L, a, hk⟩ => ⟨m, em, kvs, L, a, pair_imp hk.each fun _ _ ⟨x1, l, x2, x3, x4⟩ => ⟨x1, l, x2, fun z => x3 (hs _ z), x4⟩, hk.nodup, hk.mem⟩,
    fun z => h.ny (hs _ z), fun z => h.nC (hs _ z), fun z => h.nT (hs _ z), fun z => h.nW (hs _ z), fun t m z => h.nt t m (hs _ z), h.apart, h.apt⟩
theorem Out.more {Z : Addr → Prop} {H : Hp} (h : Out Z H) {t : Addr} {o : HO} (ht : H t = none) : Out (fun b => Z b ∨ b = t) (upd H t o) := fun b z => by
  rcases z with z | rfl
  · obtain ⟨u, e⟩ := h b z
    exact ⟨u, same_new ht _ _ e⟩
  · exact ⟨o, upd_same⟩
theorem step_plan {s : St} : Sy66.step s .plan = (s, match Sy66.distance (ends s) s.at_ with
      | none => Sy66.ok (-6)
      | some k => ⟨(k : Nat), [Sy66.ints ((Sy66.plan s (ends s) k s.at_).flatMap fun (x : Nat × Nat) => [x.1, x.2])]⟩) := rfl
/-- the moves as they are told -/
def tell (ms : List (Nat × Nat × List Nat)) : List Nat := ms.flatMap fun m => [m.1, m.2.1]
theorem tell_is (ms : List (Nat × Nat × List Nat)) : tell ms = (ms.map fun m => (m.1, m.2.1)).flatMap fun (x : Nat × Nat) => [x.1, x.2] := by
  unfold tell
  rw [List.flatMap_map]
theorem tell_len (ms : List (Nat × Nat × List Nat)) : (tell ms).length = 2 * ms.length := by
  induction ms with
  | nil => rfl
  | cons m ms ih =>
    show (m.1 :: m.2.1 :: tell ms).length = _
    rw [List.length_cons, List.length_cons, ih, List.length_cons]
    omega
theorem tell_snoc (ms : List (Nat × Nat × List Nat)) (m : Nat × Nat × List Nat) : tell (ms ++ [m]) = tell ms ++ [m.1, m.2.1] := by
  unfold tell
  rw [List.flatMap_append]
  rfl
section
variable {P : Program} {w : World} {K : PySem.W.Frag} {mg : Str → Option Value} {base : Heap} {C : Addr}
theorem scTellPlan : FnScope ["yard", "needed", "told", "car", "place", "after"] ["yard"] (C8.fnScope sTellPlan) := C8.fnScope_by (by decide +kernel)
theorem ok_tellPlan {f : Addr} {fd : FuncData} (F : C8.Def K mg "tell_plan" sTellPlan f fd) (b : Binds K fd ["yard"] []) (T : Txt K mg C) (cR : C8.Cal P w K mg base 1 "refused" spRefused []) (cN : C8.Cal P w K mg base 5 "needed_about" (spNeedAbout C) [])
    (cA : C8.Cal P w K mg base 4 "moves_about" (spAbout C) []) (cP : C8.Cal P w K mg base 2 "first_plan" spPlan []) (cL : C8.Cal P w K mg base 1 "listed" spListed []) : C8.Cal P w K mg base 6 "tell_plan" (spFewest C .plan) [] := by
  refine C8.cal0 F b .nil scTellPlan (fun vs H Q E h => ?_) (fun cdv A outer s H vs Q E hr h => ?_)
  · obtain ⟨_, rfl, _⟩ := h
    rfl
  obtain ⟨y, rfl, Z, s, ⟨dx, aC, aT, aP, aW, cs, ts, kn, h⟩, hZ, ok, q⟩ := h
  have hu := hu_of hr
  refine ⟨_, pss_cons (ps_set (i := 1) scTellPlan.nd rfl (.inl rfl) (C8.pe_c cN hr (by decide) rfl (pa_cons (pv 0) pa_nil)))
    (pss_cons (ps_if (pt_not (Cr.pt_dT (pv 1))) (pss_one (ps_ret (C8.pe_c cR hr (by decide) rfl (pa_cons (C8.pe_gc rfl (gcI T.c4)) pa_nil)))) pss_nil)
    (pss_cons (ps_set (i := 2) scTellPlan.nd rfl (.inl rfl) (pe_lst pa_nil))
    (pss_cons (ps_for PassesOwn.never rfl (pi_list (C8.pe_c cP hr (by decide) rfl (pa_cons (C8.pe_c cA hr (by decide) rfl (pa_cons (pv 0) pa_nil)) (pa_cons (pv 1) (pa_cons (pe_fld (pv 0) rfl) pa_nil)))))
        (pg_tup rfl (pgs_cons (pg_name (i := 3) scTellPlan.nd rfl (.inl rfl)) (pgs_cons (pg_name (i := 4) scTellPlan.nd rfl (.inl rfl)) (pgs_cons (pg_name (i := 5) scTellPlan.nd rfl (.inl rfl)) pgs_nil))))
        (pss_one (ps_expr (pe_bm PySem.F.plainAttrs_list PySem.F.slot_list_extend PySem.F.type_list_extend mt_extend (pv 2) (pa_cons (pe_lst (pa_cons (pv 3) (pa_cons (pv 4) pa_nil))) pa_nil)))))
    (pss_one (ps_ret (pe_op op_cat (pe_lst (pa_cons (pe_dget hu (pv 1) (pe_fld (pv 0) rfl) (fun _ _ => rfl)) pa_nil)) (C8.pe_c cL hr (by decide) rfl (pa_cons (pv 2) pa_nil)))))))), ?_⟩
  refine ⟨_, rfl, y, s, Z, dx, aC, aT, aP, aW, cs, ts, kn, rfl, h, hZ, ok, fun H1 m p N b1 h1 pz pm e1 nd => ?_⟩
  have k1 := Keep.but h.ny b1
  have hZ1 := hZ.keep k1
  refine ⟨_, rfl, p, ndK N, rfl, .inl e1, ?_⟩
  by_cases g : N = []
  · rw [show (!(ndK N).isEmpty) = false by rw [g]; rfl]
    exact iteT ⟨6, rfl, fun r hr2 => q.num (by rw [step_plan, (dist_none ok Can.self).mpr (nd.empty.mp g)]) ⟨dx, aC, aT, aP, aW, cs, ts, _, h1⟩ k1 hZ hr2⟩
  have e0 : (!(ndK N).isEmpty) = true := by
    cases N with
    | nil => exact absurd rfl g
    | cons a r => rfl
  rw [e0]
  obtain ⟨k, mk, need⟩ := nd.some ok g (Can.self (s := s))
  refine iteF ⟨by show 0 ≤ sizeLine; decide, fun to hto => ?_⟩
  have h2 := h1.more (o := .lst []) hto
  have hZ2 := hZ1.more (o := .lst []) hto
  have k2 : Keep Z H (upd H1 to (.lst [])) := k1.trans (.same (same_new hto))
  have nto : ¬ Z to := hZ1.new hto
  have e2 : (upd H1 to (.lst [])) p = some (.dT (ndK N)) := same_new hto _ _ e1
  have t2 : (upd H1 to (.lst [])) to = some (.lst []) := upd_same
  generalize upd H1 to (.lst []) = H2 at *
  refine ⟨_, rfl, y, s, _, dx, aC, aT, aP, aW, cs, ts, _, rfl, h2, hZ2, ok, fun H3 m' b3 h3 => ?_⟩
  have ey : ∀ {b : Addr} {o : HO}, H2 b = some o → (∀ C d fs, o ≠ .ins C d fs) → H3 b = some o := fun {b o} e n => b3 b o (ne_of e h2.obj (n _ _ _)) e
  have e3 := ey e2 fun _ _ _ z => by cases z
  have t3 := ey t2 fun _ _ _ z => by cases z
  have k3 : Keep Z H H3 := k2.trans (Keep.but h.ny b3)
  obtain ⟨kvs, L, hm, hk⟩ := h3.knownAt
  refine ⟨_, rfl, _, rfl, y, C, dx, _, _, rfl, h3.obj, T.cl, T.nP, fld (i := 4) rfl rfl, m', p, aP, s, _, kvs, L, N, k, rfl, ok, hm, hk, e3, nd, g, h3.place, need, fun H4 pl ms s4 np mv em few => ?_⟩
  obtain ⟨vs, ev, pv'⟩ := mv
  have lv : vs.length = ms.length := Paired.length pv'
  have h4 := h3.same s4
  have t4 := s4 _ _ t3
  have npl : pl ≠ to := (ne_of_none t3 np).symm
  refine ⟨pl, rfl, ⟨_, SqL.of ev⟩, for_list (K := K) (a := pl) (xs := vs) (fun i σ H' => ∃ v3 v4 v5, σ = [some (.ref y), some (.ref p), some (.ref to), v3, v4, v5] ∧ But to H4 H' ∧ H' to = some (.lst (nums (tell (ms.take i)))) ∧ YardIn H' C (fun b => Z b ∨ b = to) y s dx aC aT aP aW cs ts (.ref m'))
    ⟨none, none, none, rfl, fun b o _ e => e, t4, h4⟩ ?_ ?_ ?_⟩
  · rintro i σ H' _ ⟨_, _, _, _, b5, _⟩
    exact SqL.of (b5 _ _ npl ev)
  · rintro i x σ H' hx ⟨v3, v4, v5, rfl, b5, t5, h5⟩
    have hi : i < ms.length := by
      have := (List.getElem?_eq_some_iff.mp hx).1
      omega
    obtain ⟨x', hx', t, q5, rfl, ht5, hq5⟩ := pair_right pv' (List.getElem?_eq_getElem hi)
    rw [hx] at hx'
    cases hx'
    have nt : t ≠ to := ne_of ht5 t4 (by intro z; cases z)
    refine ⟨t, _, rfl, SqT.of (b5 _ _ nt ht5), rfl, _, _, rfl, _, _, rfl, _, _, rfl, rfl, ?_⟩
    refine ⟨_, rfl, .inl ⟨rfl, _, SqL.of t5⟩, _, rfl, _, rfl, by show 2 ≤ sizeLine; decide, fun e he => ?_⟩
    have s6 : Same H' (upd H' e (.lst [.int ((ms[i]).1 : Int), .int ((ms[i]).2.1 : Int)])) := same_new he
    have e6 : (upd H' e (.lst [.int ((ms[i]).1 : Int), .int ((ms[i]).2.1 : Int)])) e = some (.lst [.int ((ms[i]).1 : Int), .int ((ms[i]).2.1 : Int)]) := upd_same
    generalize upd H' e (.lst [.int ((ms[i]).1 : Int), .int ((ms[i]).2.1 : Int)]) = H6 at *
    refine ⟨to, e, _, _, rfl, rfl, s6 _ _ t5, e6, ?_, _, _, _, rfl, (b5.same s6).put, ?_, (h5.same s6).put (s6 _ _ t5) (.inr rfl)⟩
    · rw [nums_len, tell_len, List.length_take]
      exact Nat.le_trans (show _ ≤ 6500 by show 2 * _ + 2 ≤ 6500; omega) (by decide)
    · rw [upd_same, take_snoc hi, tell_snoc, nums_app]
      rfl
  · rintro σ H5 ⟨v3, v4, v5, rfl, b5, t5, h5⟩
    rw [lv, List.take_length] at t5
    have k5 : Keep Z H H5 := k3.trans ((Keep.same s4).trans (Keep.but nto b5))
    have e5 : H5 p = some (.dT (ndK N)) := b5 _ _ (ne_of e3 t3 (by intro z; cases z)) (s4 _ _ e3)
    refine ⟨_, rfl, _, rfl, y, C, dx, _, _, rfl, h5.obj, T.cl, T.nP, fld (i := 4) rfl rfl, p, _, rfl, dget (.inl e5) h5.place (nd_val nd mk), by show 1 ≤ sizeLine; decide, fun a ha => ?_⟩
    have s6 : Same H5 (upd H5 a (.lst [.int (k : Int)])) := same_new ha
    have e6 : (upd H5 a (.lst [.int (k : Int)])) a = some (.lst [.int (k : Int)]) := upd_same
    generalize upd H5 a (.lst [.int (k : Int)]) = H6 at *
    refine ⟨_, rfl, to, _, rfl, .inl (s6 _ _ t5), by rw [nums_len, tell_len]; omega, fun H7 l s7 nl e7 => ?_⟩
    refine ⟨a, l, _, _, rfl, rfl, s7 _ _ e6, e7, Nat.le_trans (show _ ≤ 6500 by show 1 + ((nums (tell ms)).length + 1) ≤ 6500; rw [nums_len, tell_len]; omega) (by decide), fun z hz => ?_⟩
    refine q.list (by rw [step_plan, (dist_some ok Can.self).mpr need]) ?_ ⟨dx, aC, aT, aP, aW, cs, ts, _, (h5.same (s6.trans s7)).less fun b z => .inl z⟩ (k5.trans (.same (s6.trans s7))) hZ hz
    rw [out_one, ← em, ← tell_is, nums_len]
    rfl
end
end Cy

set_option Elab.async false
set_option maxRecDepth 100000
set_option maxHeartbeats 2000000
/-! tell_hardest. -/
namespace Cy
open PySem PySem.Spec PyProof.Rows L2
open Cr (nums)
open Sy66 (Car carOf done reach ends moved nexts legal arrangements lineLong)

theorem step_hardest {s : St} : Sy66.step s .hardest = (s, match (ends s).getLast? with
      | none => Sy66.ok (-6)
      | some l => ⟨(((ends s).length - 1 : Nat) : Int), [Sy66.ints (Sy66.first l), [(l.length : Int)]]⟩) := rfl
theorem out_two (v k : Int) (l : List Nat) : (Sy66Neutral.out ⟨v, [Sy66.ints l, [k]]⟩).map V.int = (.int v :: .int (l.length : Int) :: nums l) ++ [.int 1, .int k] := by
  show V.int v :: V.int ((Sy66.ints l).length : Int) :: (Sy66.ints l ++ ([1, k] ++ [])).map V.int = _
  rw [List.map_append, ints_nums, ints_len]
  rfl
/-- those that need so many -/
def far (N : Nd) (most : Nat) : List (List Nat) := (N.filter fun p => decide (p.2 = most)).map (·.1)
theorem far_snoc {N : Nd} {most i : Nat} (hi : i < N.length) : far (N.take (i + 1)) most = far (N.take i) most ++ if N[i].2 = most then [N[i].1] else [] := by
  unfold far
  rw [take_snoc hi, List.filter_append, List.map_append]
  congr 1
  by_cases c : N[i].2 = most
  · rw [if_pos c, List.filter_cons_of_pos (by simpa using c)]
    rfl
  · rw [if_neg c, List.filter_cons_of_neg (by simpa using c)]
    rfl
theorem far_len (N : Nd) (most : Nat) : (far N most).length ≤ N.length := by
  unfold far
  rw [List.length_map]
  exact List.length_filter_le _ _
section
variable {P : Program} {w : World} {K : PySem.W.Frag} {mg : Str → Option Value} {base : Heap} {C : Addr}
theorem scHardest : FnScope ["yard", "needed", "most", "farthest", "places"] ["yard"] (C8.fnScope sHardest) := C8.fnScope_by (by decide +kernel)
theorem ok_hardest {f : Addr} {fd : FuncData} (F : C8.Def K mg "tell_hardest" sHardest f fd) (b : Binds K fd ["yard"] []) (T : Txt K mg C) (cR : C8.Cal P w K mg base 1 "refused" spRefused []) (cN : C8.Cal P w K mg base 5 "needed_about" (spNeedAbout C) [])
    (cL : C8.Cal P w K mg base 1 "listed" spListed []) : C8.Cal P w K mg base 6 "tell_hardest" (spFewest C .hardest) [] := by
  refine C8.cal0 F b .nil scHardest (fun vs H Q E h => ?_) (fun cdv A outer s H vs Q E hr h => ?_)
  · obtain ⟨_, rfl, _⟩ := h
    rfl
  obtain ⟨y, rfl, Z, s, ⟨dx, aC, aT, aP, aW, cs, ts, kn, h⟩, hZ, ok, q⟩ := h
  have hu := hu_of hr
  refine ⟨_, pss_cons (ps_set (i := 1) scHardest.nd rfl (.inr rfl) (C8.pe_c cN hr (by decide) rfl (pa_cons (pv 0) pa_nil)))
    (pss_cons (ps_if (pt_not (Cr.pt_dT (pv 1))) (pss_one (ps_ret (C8.pe_c cR hr (by decide) rfl (pa_cons (C8.pe_gc rfl (gcI T.c4)) pa_nil)))) pss_nil)
    (pss_cons (ps_set (i := 2) scHardest.nd rfl (.inr rfl) (Cr.pe_maxVals rfl (by rfl) T.max (pv 1)))
    (pss_cons (ps_lock (ps_setLc (i := 3) (own := [("places", 4)]) (g := gName 4) (tt := tTest (tOp rEq (tDGet (tVar 1) (tVar 4)) (tVar 2))) rfl scHardest.nd rfl rfl (sw_true rfl rfl rfl (by decide +kernel)) (pi_keys (pv 1)) (blkOk_by (N := ["yard", "needed", "most", "farthest", "places"]) (sc := C8.fnScope sHardest) (by decide +kernel))
      (fun _ _ _ _ _ => pg_name (i := 4) scHardest.nd rfl (Or.inl rfl)) (fun _ _ _ _ _ => pts_one (pt_cmpR op_eq (pe_dget hu (pv 1) (pv 4) (fun _ _ => rfl)) (pv 2) (nomark _))) (fun _ _ _ _ _ => pv 4)))
    (pss_one (ps_ret (pe_op op_cat (pe_op op_cat (pe_lst (pa_cons (pv 2) pa_nil)) (C8.pe_c cL hr (by decide) rfl (pa_cons (pe_callB (Cr.cr_minT rfl hr.units) (by rfl) T.min (by decide +kernel) (pa_cons (pv 3) pa_nil)) pa_nil)))
      (C8.pe_c cL hr (by decide) rfl (pa_cons (pe_lst (pa_cons (pe_callB call_len_seq (by rfl) T.len PySem.boot_len (pa_cons (pv 3) pa_nil)) pa_nil)) pa_nil)))))))), ?_⟩
  refine ⟨_, rfl, y, s, Z, dx, aC, aT, aP, aW, cs, ts, kn, rfl, h, hZ, ok, fun H1 m p N b1 h1 pz pm e1 nd => ?_⟩
  have k1 := Keep.but h.ny b1
  have hY1 : YardAt H1 C Z y s := ⟨dx, aC, aT, aP, aW, cs, ts, _, h1⟩
  refine ⟨_, rfl, p, ndK N, rfl, .inl e1, ?_⟩
  by_cases g : N = []
  · rw [show (!(ndK N).isEmpty) = false by rw [g]; rfl]
    exact iteT ⟨6, rfl, fun r hr2 => q.num (by rw [step_hardest, (hardest_none ok).mpr (nd.empty.mp g)]) hY1 k1 hZ hr2⟩
  have e0 : (!(ndK N).isEmpty) = true := by
    cases N with
    | nil => exact absurd rfl g
    | cons a r => rfl
  rw [e0]
  refine iteF ⟨_, rfl, p, ndK N, N.map fun x => (x.2 : Int), rfl, e1, ?_, fun z => g (List.map_eq_nil_iff.mp z), fun mx hx hle => ?_⟩
  · unfold ndK
    rw [List.map_map, List.map_map]
    rfl
  obtain ⟨⟨n0, most⟩, hn0, rfl⟩ := List.mem_map.mp hx
  have hm : most ∈ N.map (·.2) := List.mem_map.mpr ⟨_, hn0, rfl⟩
  have hle' : ∀ k ∈ N.map (·.2), k ≤ most := fun k hk => by
    obtain ⟨x, hx, rfl⟩ := List.mem_map.mp hk
    have : (x.2 : Int) ≤ (most : Int) := hle _ (List.mem_map.mpr ⟨x, hx, rfl⟩)
    omega
  obtain ⟨l9, g1, g2, g3, g4⟩ := hardest_is ok nd g hm hle'
  have lN : N.length ≤ 3125 := by
    have := can_len ok nd.nodup fun n hn => by
      obtain ⟨x, hx, rfl⟩ := List.mem_map.mp hn
      exact ((nd.mem x.1 x.2).mp hx).1
    rw [List.length_map] at this
    exact this
  refine ⟨p, _, e1, True.intro, fun od => ?_⟩
  refine ⟨_, rfl, p, od, rfl, .inr ⟨ndK N, upd_same, fun D hD => ?_⟩⟩
  have nDp : D ≠ p := (ne_of_none upd_same hD).symm
  have hD0 : H1 D = none := upd_none hD
  refine lc_it walk_keysT (fun i H' => H' p = some (.frz od (.dT (ndK N))) ∧ (∀ b o, b ≠ p → H1 b = some o → H' b = some o) ∧ ∃ vs, H' D = some (.lst vs) ∧ Paired (ArrAt H') vs (far (N.take i) most))
    ⟨by rw [upd_ne nDp.symm]; exact upd_same, fun b o h e => by rw [upd_ne (ne_of_none e hD0), upd_ne h]; exact e, [], upd_same, .nil⟩ (fun i H' _ h => h.1) ?_ ?_
  · rintro i x H2 H3 hi ⟨hm1, k2, vs, hd1, hp1⟩ ⟨rfl, k, v, qn, ek, rfl, hq⟩
    rw [ndK_len] at hi
    have ei : (ndK N)[i]? = some (keyN N[i].1, V.int (N[i].2 : Int)) := by
      unfold ndK
      rw [List.getElem?_map, List.getElem?_eq_getElem hi]
      rfl
    rw [ei] at ek
    cases ek
    rw [key_nums] at hq
    refine ⟨rfl, ?_⟩
    refine ⟨_, rfl, _, rfl, p, _, rfl, dget (.inr ⟨od, hm1⟩) hq (nd_val nd (k := N[i].2) (List.getElem_mem hi)), _, rfl, rfl, _, rfl, ?_⟩
    by_cases c : N[i].2 = most
    · rw [decide_eq_true (show V.int (N[i].2 : Int) = V.int (most : Int) by rw [c])]
      refine iteT ⟨_, rfl, vs, hd1, ?_, ?_, fun b o h e => ?_, _, upd_same, ?_⟩
      · have e1 : vs.length = _ := Paired.length hp1
        have e2 := far_len (N.take i) most
        rw [List.length_take] at e2
        exact Nat.lt_of_le_of_lt (show vs.length ≤ 3125 by omega) (by decide)
      · rw [upd_ne nDp.symm]
        exact hm1
      · rw [upd_ne (ne_of_none e hD0)]
        exact k2 b o h e
      · have t3 : KeepT H3 (upd H3 D (.lst (vs ++ [.ref qn]))) := keepT_lst hd1
        rw [far_snoc hi, if_pos c]
        exact pair_snoc (pair_imp hp1 fun _ _ z => z.keep t3) ⟨qn, rfl, t3 _ _ hq⟩
    · rw [decide_eq_false (show ¬ V.int (N[i].2 : Int) = V.int (most : Int) from fun z => c (Int.ofNat.inj (V.int.inj z)))]
      refine iteF ⟨hm1, k2, vs, hd1, ?_⟩
      rw [far_snoc hi, if_neg c, List.append_nil]
      exact hp1
  · rintro H2 ⟨hm1, k2, ws, hd1, hp1⟩
    rw [ndK_len, List.take_length] at hp1
    refine ⟨hm1, ?_⟩
    have s1 : Same H1 (upd H2 p (.dT (ndK N))) := fun b o e => by
      by_cases z : b = p
      · subst z
        rw [e1] at e
        cases e
        exact upd_same
      · rw [upd_ne z]
        exact k2 b o z e
    have hd2 : (upd H2 p (.dT (ndK N))) D = some (.lst ws) := by rw [upd_ne nDp]; exact hd1
    have hp2 : Paired (ArrAt (upd H2 p (.dT (ndK N)))) ws (far N most) := pair_imp hp1 fun _ _ ⟨q9, e9, h9⟩ => ⟨q9, e9, by rw [upd_ne fun z => by rw [z, hm1] at h9; cases h9]; exact h9⟩
    generalize upd H2 p (.dT (ndK N)) = H3 at *
    have lw : ws.length = (far N most).length := Paired.length hp2
    have lf := far_len N most
    refine ⟨_, rfl, by show 1 ≤ sizeLine; decide, fun a ha => ?_⟩
    have s4 : Same H3 (upd H3 a (.lst [.int (most : Int)])) := same_new ha
    have a4 : (upd H3 a (.lst [.int (most : Int)])) a = some (.lst [.int (most : Int)]) := upd_same
    generalize upd H3 a (.lst [.int (most : Int)]) = H4 at *
    have fl : ∀ n ∈ far N most, n.length = s.cars.length := fun n hn => by
      obtain ⟨x, hx, rfl⟩ := List.mem_map.mp hn
      exact ((nd.mem x.1 x.2).mp (List.mem_filter.mp hx).1).1.length ok
    have fne : far N most ≠ [] := fun z => by
      have : n0 ∈ far N most := List.mem_map.mpr ⟨(n0, most), List.mem_filter.mpr ⟨hn0, by simp⟩, rfl⟩
      rw [z] at this
      cases this
    refine ⟨_, rfl, D, ws, far N most, s.cars.length, rfl, SqL.of (s4 _ _ hd2), pair_imp hp2 fun _ _ z => z.keep (same_keepT s4), fl, fne, fun i v hv hn => ?_⟩
    obtain ⟨x, hx, qf, ex, hqf⟩ := pair_right hp2 hn
    rw [hx] at hv
    cases hv
    subst ex
    have l5 : (Sy66.first (far N most)).length ≤ 5 := by
      have := fl _ (List.mem_of_getElem? hn)
      have := ok.yd.cars
      omega
    refine ⟨qf, nums (Sy66.first (far N most)), rfl, .inr (s4 _ _ hqf), by rw [nums_len]; omega, fun H5 r5 s5 n5 e5 => ?_⟩
    refine ⟨a, r5, _, _, rfl, rfl, s5 _ _ a4, e5, Nat.le_trans (show _ ≤ 100 by show 1 + ((nums (Sy66.first (far N most))).length + 1) ≤ 100; rw [nums_len]; omega) (by decide), fun c hc => ?_⟩
    have s6 := same_new (o := .lst ([.int (most : Int)] ++ .int ((nums (Sy66.first (far N most))).length : Int) :: nums (Sy66.first (far N most)))) hc
    have c6 := upd_same (H := H5) (a := c) (o := .lst ([.int (most : Int)] ++ .int ((nums (Sy66.first (far N most))).length : Int) :: nums (Sy66.first (far N most))))
    generalize upd H5 c (.lst ([.int (most : Int)] ++ .int ((nums (Sy66.first (far N most))).length : Int) :: nums (Sy66.first (far N most)))) = H6 at *
    have s36 := s4.trans (s5.trans s6)
    refine ⟨_, rfl, D, ws, rfl, .inl (SqL.of (s36 _ _ hd2)), by show 1 ≤ sizeLine; decide, fun d hd => ?_⟩
    have s7 : Same H6 (upd H6 d (.lst [.int (ws.length : Int)])) := same_new hd
    have d7 : (upd H6 d (.lst [.int (ws.length : Int)])) d = some (.lst [.int (ws.length : Int)]) := upd_same
    generalize upd H6 d (.lst [.int (ws.length : Int)]) = H7 at *
    refine ⟨d, _, rfl, .inl d7, by show 1 ≤ 10000; decide, fun H8 r8 s8 n8 e8 => ?_⟩
    refine ⟨c, r8, _, _, rfl, rfl, s8 _ _ (s7 _ _ c6), e8, Nat.le_trans (show _ ≤ 100 by show (((nums (Sy66.first (far N most))).length + 1) + 1) + 2 ≤ 100; rw [nums_len]; omega) (by decide), fun z hz => ?_⟩
    have sA := s1.trans (s36.trans (s7.trans s8))
    refine q.list (by rw [step_hardest, g1]) ?_ ⟨dx, aC, aT, aP, aW, cs, ts, _, h1.same sA⟩ (k1.trans (.same sA)) hZ hz
    have g3' : l9.length = (far N most).length := g3
    have g4' : Sy66.first l9 = Sy66.first (far N most) := g4
    rw [out_two, g2, g3', g4', lw, nums_len]
    rfl
end
end Cy

set_option Elab.async false
set_option maxRecDepth 100000
set_option maxHeartbeats 2000000
/-! tell_state. -/
namespace Cy
open PySem PySem.Spec PyProof.Rows L2
open Cr (nums)
open Sy66 (Car carOf done reach ends moved nexts legal arrangements lineLong)

def tellC (cars : List Car) : List Nat := cars.flatMap fun (c : Car) => [if c.upright = true then 1 else 0, c.line, c.long]
def tellW (ws : List (Nat × Nat)) : List Nat := ws.flatMap fun (x : Nat × Nat) => [x.1, x.2]
theorem tellC_snoc (cars : List Car) (c : Car) : tellC (cars ++ [c]) = tellC cars ++ [upN c, c.line, c.long] := by
  unfold tellC
  rw [List.flatMap_append]
  rfl
theorem tellW_snoc (ws : List (Nat × Nat)) (x : Nat × Nat) : tellW (ws ++ [x]) = tellW ws ++ [x.1, x.2] := by
  unfold tellW
  rw [List.flatMap_append]
  rfl
theorem tellC_len (cars : List Car) : (tellC cars).length = 3 * cars.length := by
  induction cars with
  | nil => rfl
  | cons m ms ih =>
    show (_ :: _ :: _ :: tellC ms).length = _
    rw [List.length_cons, List.length_cons, List.length_cons, ih, List.length_cons]
    omega
theorem tellW_len (ws : List (Nat × Nat)) : (tellW ws).length = 2 * ws.length := by
  induction ws with
  | nil => rfl
  | cons m ms ih =>
    show (_ :: _ :: tellW ms).length = _
    rw [List.length_cons, List.length_cons, ih, List.length_cons]
    omega
theorem step_state {s : St} : Sy66.step s .state = (s, ⟨(s.made : Nat), [Sy66.ints [s.rows, s.cols], Sy66.ints (tellC s.cars), Sy66.ints s.at_, Sy66.ints (tellW s.wants)]⟩) := rfl
/-- a list behind how many it has -/
def told (l : List Nat) : List V := .int (l.length : Int) :: nums l
theorem out_four (v : Int) (a b c d : List Nat) : (Sy66Neutral.out ⟨v, [Sy66.ints a, Sy66.ints b, Sy66.ints c, Sy66.ints d]⟩).map V.int = [.int v] ++ told a ++ told b ++ told c ++ told d := by
  have one : ∀ l : List Nat, (((Sy66.ints l).length : Int) :: Sy66.ints l).map V.int = told l := fun l => by
    rw [List.map_cons, ints_nums, ints_len]
    rfl
  show V.int v :: ((((Sy66.ints a).length : Int) :: Sy66.ints a) ++ ((((Sy66.ints b).length : Int) :: Sy66.ints b) ++ ((((Sy66.ints c).length : Int) :: Sy66.ints c) ++ ((((Sy66.ints d).length : Int) :: Sy66.ints d) ++ [])))).map V.int = _
  rw [List.map_append, List.map_append, List.map_append, List.map_append, one, one, one, one]
  simp
theorem told_len (l : List Nat) : (told l).length = l.length + 1 := by
  show (nums l).length + 1 = _
  rw [nums_len]
section
variable {P : Program} {w : World} {K : PySem.W.Frag} {mg : Str → Option Value} {base : Heap} {C : Addr}
theorem scState : FnScope ["yard", "cars", "upright", "line", "length", "wants", "car", "place", "size"] ["yard"] (C8.fnScope sState) := C8.fnScope_by (by decide +kernel)
theorem ok_state {f : Addr} {fd : FuncData} (F : C8.Def K mg "tell_state" sState f fd) (b : Binds K fd ["yard"] []) (T : Txt K mg C) (cL : C8.Cal P w K mg base 1 "listed" spListed []) : C8.Cal P w K mg base 2 "tell_state" (spFewest C .state) [] := by
  refine C8.cal0 F b .nil scState (fun vs H Q E h => ?_) (fun cdv A outer s H vs Q E hr h => ?_)
  · obtain ⟨_, rfl, _⟩ := h
    rfl
  obtain ⟨y, rfl, Z, s, ⟨dx, aC, aT, aP, aW, cs, ts, kn, h⟩, hZ, ok, q⟩ := h
  refine ⟨_, pss_cons (ps_set (i := 1) scState.nd rfl (.inl rfl) (pe_lst pa_nil))
    (pss_cons (ps_for PassesOwn.never rfl (pi_list (pe_fld (pv 0) rfl)) (pg_tup rfl (pgs_cons (pg_name (i := 2) scState.nd rfl (.inl rfl)) (pgs_cons (pg_name (i := 3) scState.nd rfl (.inl rfl)) (pgs_cons (pg_name (i := 4) scState.nd rfl (.inl rfl)) pgs_nil))))
        (pss_one (ps_expr (pe_bm PySem.F.plainAttrs_list PySem.F.slot_list_extend PySem.F.type_list_extend mt_extend (pv 1) (pa_cons (pe_lst (pa_cons (pv 2) (pa_cons (pv 3) (pa_cons (pv 4) pa_nil)))) pa_nil)))))
    (pss_cons (ps_set (i := 5) scState.nd rfl (.inl rfl) (pe_lst pa_nil))
    (pss_cons (ps_lock (ps_for PassesOwn.never rfl (pi_items (pe_fld (pv 0) rfl)) (pg_tup rfl (pgs_cons (pg_name (i := 6) scState.nd rfl (.inl rfl)) (pgs_cons (pg_name (i := 7) scState.nd rfl (.inl rfl)) pgs_nil)))
        (pss_one (ps_expr (pe_bm PySem.F.plainAttrs_list PySem.F.slot_list_extend PySem.F.type_list_extend mt_extend (pv 5) (pa_cons (pe_lst (pa_cons (pv 6) (pa_cons (pv 7) pa_nil))) pa_nil))))))
    (pss_cons (ps_set (i := 8) scState.nd rfl (.inl rfl) (C8.pe_c cL hr (by decide) rfl (pa_cons (pe_lst (pa_cons (pe_fld (pv 0) rfl) (pa_cons (pe_fld (pv 0) rfl) pa_nil))) pa_nil)))
    (pss_one (ps_ret (pe_op op_cat (pe_op op_cat (pe_op op_cat (pe_op op_cat (pe_lst (pa_cons (pe_fld (pv 0) rfl) pa_nil)) (pv 8)) (C8.pe_c cL hr (by decide) rfl (pa_cons (pv 1) pa_nil))) (C8.pe_c cL hr (by decide) rfl (pa_cons (pe_fld (pv 0) rfl) pa_nil))) (C8.pe_c cL hr (by decide) rfl (pa_cons (pv 5) pa_nil))))))))), ?_⟩
  have five := ok.yd.cars
  have few := wants_few ok
  have len := ok.len
  have lc : cs.length = s.cars.length := Paired.length h.car
  refine ⟨by show 0 ≤ sizeLine; decide, fun c0 hc0 => ?_⟩
  have sc0 : Same H (upd H c0 (.lst [])) := same_new hc0
  refine ⟨_, rfl, y, C, dx, _, _, rfl, (h.same sc0).obj, T.cl, T.nCa, fld (i := 2) rfl rfl, aC, rfl, ⟨_, SqL.of (sc0 _ _ h.cars)⟩, for_list (K := K) (a := aC) (xs := cs.map V.ref) (fun i σ H' => ∃ v2 v3 v4, σ = [some (.ref y), some (.ref c0), v2, v3, v4, none, none, none, none] ∧ Same H H' ∧ H' c0 = some (.lst (nums (tellC (s.cars.take i)))))
    ⟨none, none, none, rfl, sc0, upd_same⟩ ?_ ?_ ?_⟩
  · rintro i σ H' _ ⟨_, _, _, _, hs, _⟩
    exact SqL.of (hs _ _ h.cars)
  · rintro i x σ H' hx ⟨v2, v3, v4, rfl, hs, hl⟩
    have hi : i < s.cars.length := by
      have := (List.getElem?_eq_some_iff.mp hx).1
      rw [List.length_map] at this
      omega
    obtain ⟨t, ht, hq⟩ := pair_right h.car (List.getElem?_eq_getElem hi)
    rw [List.getElem?_map, ht] at hx
    cases hx
    have hq : H t = some (.tup (nums [upN s.cars[i], (s.cars[i]).line, (s.cars[i]).long])) := hq
    refine ⟨t, _, rfl, SqT.of (hs _ _ hq), rfl, _, _, rfl, _, _, rfl, _, _, rfl, rfl, ?_⟩
    refine ⟨_, rfl, .inl ⟨rfl, _, SqL.of hl⟩, _, rfl, _, rfl, _, rfl, by show 3 ≤ sizeLine; decide, fun e he => ?_⟩
    have s6 : Same H' (upd H' e (.lst (nums [upN s.cars[i], (s.cars[i]).line, (s.cars[i]).long]))) := same_new he
    refine ⟨c0, e, _, _, rfl, rfl, s6 _ _ hl, upd_same, ?_, _, _, _, rfl, same_put (hs.trans s6) hc0, ?_⟩
    · rw [nums_len, tellC_len, List.length_take]
      exact Nat.le_trans (show _ ≤ 100 by show 3 * _ + 3 ≤ 100; omega) (by decide)
    · rw [upd_same, take_snoc hi, tellC_snoc, nums_app]
      rfl
  rintro σ H1 ⟨v2, v3, v4, rfl, s1, l1⟩
  rw [List.length_map, lc, List.take_length] at l1
  refine ⟨by show 0 ≤ sizeLine; decide, fun w0 hw0 => ?_⟩
  have s2 : Same H (upd H1 w0 (.lst [])) := s1.trans (same_new hw0)
  have hw00 : H w0 = none := s1.free hw0
  have l2 : (upd H1 w0 (.lst [])) c0 = some (.lst (nums (tellC s.cars))) := same_new hw0 _ _ l1
  have w2 : (upd H1 w0 (.lst [])) w0 = some (.lst []) := upd_same
  generalize upd H1 w0 (.lst []) = H2 at *
  have h2 := h.same s2
  have yW : y ≠ aW := ne_of h.obj h.want (by intro z; cases z)
  have wW : w0 ≠ aW := (ne_of_none h.want hw00).symm
  have cW : c0 ≠ aW := (ne_of_none h.want hc0).symm
  have ncw : c0 ≠ w0 := ne_of_none l1 hw0
  refine ⟨aW, _, h2.want, True.intro, fun od => ?_⟩
  refine ⟨_, rfl, y, C, dx, _, _, rfl, by rw [upd_ne yW]; exact h2.obj, T.cl, T.nW, fld (i := 5) rfl rfl, aW, od, _, rfl, upd_same, for_it walk_items (fun i σ H' => ∃ v6 v7, σ = [some (.ref y), some (.ref c0), v2, v3, v4, some (.ref w0), v6, v7, none] ∧ H' aW = some (.frz od (.dK (wantK s.wants))) ∧
    (∀ c o, c ≠ aW → H c = some o → H' c = some o) ∧ H' c0 = some (.lst (nums (tellC s.cars))) ∧ H' w0 = some (.lst (nums (tellW (s.wants.take i)))))
    ⟨none, none, rfl, upd_same, fun c o n e => by rw [upd_ne n]; exact s2 _ _ e, by rw [upd_ne cW]; exact l2, by rw [upd_ne wW]; exact w2⟩ ?_ ?_ ?_⟩
  · rintro i σ H' _ ⟨_, _, _, hd', _⟩
    exact hd'
  · rintro i x σ H' H3 hi ⟨v6, v7, rfl, hd', k, hc, hl⟩ ⟨t, x1, x2, rfl, nt, rfl, e1, e2⟩
    rw [wantK_len] at hi
    have ei : (wantK s.wants)[i]? = some (Sum.inl ((s.wants[i]).1 : Int), V.int ((s.wants[i]).2 : Int)) := by
      unfold wantK
      rw [List.getElem?_map, List.getElem?_eq_getElem hi]
      rfl
    simp only [ei, Option.map_some] at e1 e2
    cases e1
    cases e2
    refine ⟨t, _, rfl, SqT.of upd_same, rfl, _, _, rfl, _, _, rfl, rfl, ?_⟩
    have s3 : Same H' (upd H' t (.tup [kV (Sum.inl ((s.wants[i]).1 : Int)), V.int ((s.wants[i]).2 : Int)])) := same_new nt
    generalize upd H' t (.tup [kV (Sum.inl ((s.wants[i]).1 : Int)), V.int ((s.wants[i]).2 : Int)]) = H3 at *
    refine ⟨_, rfl, .inl ⟨rfl, _, SqL.of (s3 _ _ hl)⟩, _, rfl, _, rfl, by show 2 ≤ sizeLine; decide, fun e he => ?_⟩
    have s6 : Same H3 (upd H3 e (.lst (nums [(s.wants[i]).1, (s.wants[i]).2]))) := same_new he
    have sA := s3.trans s6
    refine ⟨w0, e, _, _, rfl, rfl, sA _ _ hl, upd_same, ?_, _, _, rfl, ?_, fun c o n e => ?_, ?_, ?_⟩
    · rw [nums_len, tellW_len, List.length_take]
      exact Nat.le_trans (show _ ≤ 100 by show 2 * _ + 2 ≤ 100; omega) (by decide)
    · rw [upd_ne wW.symm]; exact sA _ _ hd'
    · rw [upd_ne (ne_of_none e hw00)]; exact sA _ _ (k c o n e)
    · rw [upd_ne ncw]; exact sA _ _ hc
    · rw [upd_same, take_snoc hi, tellW_snoc, nums_app]
      rfl
  rintro σ H3 ⟨v6, v7, rfl, hd', k, hc, hl⟩
  rw [wantK_len, List.take_length] at hl
  refine ⟨hd', ?_⟩
  have s3 : Same H (upd H3 aW (.dK (wantK s.wants))) := fun c o e => by
    by_cases z : c = aW
    · subst z
      rw [h.want] at e
      cases e
      exact upd_same
    · rw [upd_ne z]
      exact k c o z e
  have c3 : (upd H3 aW (.dK (wantK s.wants))) c0 = some (.lst (nums (tellC s.cars))) := by rw [upd_ne cW]; exact hc
  have w3 : (upd H3 aW (.dK (wantK s.wants))) w0 = some (.lst (nums (tellW s.wants))) := by rw [upd_ne wW]; exact hl
  generalize upd H3 aW (.dK (wantK s.wants)) = H4 at *
  have h4 := h.same s3
  refine ⟨_, rfl, y, C, dx, _, _, rfl, h4.obj, T.cl, T.nR, fld (i := 0) rfl rfl, _, rfl, y, C, dx, _, _, rfl, h4.obj, T.cl, T.nCo, fld (i := 1) rfl rfl, by show 2 ≤ sizeLine; decide, fun a ha => ?_⟩
  refine ⟨a, nums [s.rows, s.cols], rfl, .inl upd_same, by show 2 ≤ 10000; decide, fun H5 z5 s5 n5 e5 => ?_⟩
  have s45 : Same H4 H5 := (same_new ha).trans s5
  have e5 : H5 z5 = some (.lst (told [s.rows, s.cols])) := e5
  have h5 := h4.same s45
  refine ⟨_, rfl, y, C, dx, _, _, rfl, h5.obj, T.cl, T.nM, fld (i := 6) rfl rfl, by show 1 ≤ sizeLine; decide, fun m hm => ?_⟩
  have s6 : Same H5 (upd H5 m (.lst [.int (s.made : Int)])) := same_new hm
  have m6 : (upd H5 m (.lst [.int (s.made : Int)])) m = some (.lst [.int (s.made : Int)]) := upd_same
  generalize upd H5 m (.lst [.int (s.made : Int)]) = H6 at *
  refine ⟨_, rfl, m, z5, _, _, rfl, rfl, m6, s6 _ _ e5, by show 1 + 3 ≤ sizeLine; decide, fun p1 hp1 => ?_⟩
  have s7 : Same H6 (upd H6 p1 (.lst ([.int (s.made : Int)] ++ told [s.rows, s.cols]))) := same_new hp1
  have e7 : (upd H6 p1 (.lst ([.int (s.made : Int)] ++ told [s.rows, s.cols]))) p1 = some (.lst ([.int (s.made : Int)] ++ told [s.rows, s.cols])) := upd_same
  generalize upd H6 p1 (.lst ([.int (s.made : Int)] ++ told [s.rows, s.cols])) = H7 at *
  have s47 := s45.trans (s6.trans s7)
  have tc : (tellC s.cars).length ≤ 15 := by rw [tellC_len]; omega
  have tw : (tellW s.wants).length ≤ 10 := by rw [tellW_len]; omega
  refine ⟨_, rfl, c0, _, rfl, .inl (s47 _ _ c3), by rw [nums_len]; omega, fun H8 r8 s8 n8 e8 => ?_⟩
  have e8 : H8 r8 = some (.lst (told (tellC s.cars))) := by rw [e8, nums_len]; rfl
  have big : ∀ n, n ≤ 100 → n ≤ sizeLine := fun n h => Nat.le_trans h (by decide)
  refine ⟨p1, r8, _, _, rfl, rfl, s8 _ _ e7, e8, big _ (by rw [told_len, List.length_append, told_len]; show 1 + (2 + 1) + _ ≤ 100; omega), fun p2 hp2 => ?_⟩
  have s9 := same_new (o := .lst ([.int (s.made : Int)] ++ told [s.rows, s.cols] ++ told (tellC s.cars))) hp2
  have e9 := upd_same (H := H8) (a := p2) (o := .lst ([.int (s.made : Int)] ++ told [s.rows, s.cols] ++ told (tellC s.cars)))
  generalize upd H8 p2 (.lst ([.int (s.made : Int)] ++ told [s.rows, s.cols] ++ told (tellC s.cars))) = H9 at *
  have s49 := s47.trans (s8.trans s9)
  have h9 := h4.same s49
  refine ⟨_, rfl, y, C, dx, _, _, rfl, h9.obj, T.cl, T.nP, fld (i := 4) rfl rfl, aP, _, rfl, .inr h9.place, by rw [nums_len]; omega, fun H10 r10 s10 n10 e10 => ?_⟩
  have e10 : H10 r10 = some (.lst (told s.at_)) := by rw [e10, nums_len]; rfl
  refine ⟨p2, r10, _, _, rfl, rfl, s10 _ _ e9, e10, big _ (by rw [told_len, List.length_append, List.length_append, told_len, told_len]; show 1 + (2 + 1) + _ + _ ≤ 100; omega), fun p3 hp3 => ?_⟩
  have s11 := same_new (o := .lst ([.int (s.made : Int)] ++ told [s.rows, s.cols] ++ told (tellC s.cars) ++ told s.at_)) hp3
  have e11 := upd_same (H := H10) (a := p3) (o := .lst ([.int (s.made : Int)] ++ told [s.rows, s.cols] ++ told (tellC s.cars) ++ told s.at_))
  generalize upd H10 p3 (.lst ([.int (s.made : Int)] ++ told [s.rows, s.cols] ++ told (tellC s.cars) ++ told s.at_)) = H11 at *
  have s411 := s49.trans (s10.trans s11)
  refine ⟨_, rfl, w0, _, rfl, .inl (s411 _ _ w3), by rw [nums_len]; omega, fun H12 r12 s12 n12 e12 => ?_⟩
  have e12 : H12 r12 = some (.lst (told (tellW s.wants))) := by rw [e12, nums_len]; rfl
  refine ⟨p3, r12, _, _, rfl, rfl, s12 _ _ e11, e12, big _ (by rw [told_len, List.length_append, List.length_append, List.length_append, told_len, told_len, told_len]; show 1 + (2 + 1) + _ + _ + _ ≤ 100; omega), fun p4 hp4 => ?_⟩
  have sF := s3.trans (s411.trans s12)
  exact q.list step_state (out_four _ _ _ _ _) ⟨dx, aC, aT, aP, aW, cs, ts, _, h.same sF⟩ (.same sF) hZ hp4
end
end Cy

set_option Elab.async false
set_option maxRecDepth 100000
set_option maxHeartbeats 2000000
/-! answer. -/
namespace Cy
open PySem PySem.Spec PyProof.Rows L2
open Cr (nums)

theorem ite_ne {p q : Int} {A B : Prop} (h : p ≠ q) (b : B) : if decide (V.int p = V.int q) = true then A else B := by
  rw [decide_eq_false fun z => h (V.int.inj z)]
  exact b
theorem ite_is {p : Int} {A B : Prop} (a : A) : if decide (V.int p = V.int p) = true then A else B := by
  rw [decide_eq_true rfl]
  exact a
theorem atN {l : List Int} {j : Nat} {z : Int} (h : l[j]? = some z) : atI (l.map V.int) (j : Int) = some (.int z) := atI_nat (by rw [List.getElem?_map, h]; rfl)
theorem at0 {l : List Int} {z : Int} (h : l[0]? = some z) : atI (l.map V.int) 0 = some (.int z) := atN (j := 0) h
theorem at1 {l : List Int} {z : Int} (h : l[1]? = some z) : atI (l.map V.int) 1 = some (.int z) := atN (j := 1) h
theorem at2 {l : List Int} {z : Int} (h : l[2]? = some z) : atI (l.map V.int) 2 = some (.int z) := atN (j := 2) h
theorem at3 {l : List Int} {z : Int} (h : l[3]? = some z) : atI (l.map V.int) 3 = some (.int z) := atN (j := 3) h
theorem at4 {l : List Int} {z : Int} (h : l[4]? = some z) : atI (l.map V.int) 4 = some (.int z) := atN (j := 4) h
theorem Num.nat {z : Int} (h : Num z) : ∃ n : Nat, z = (n : Int) := ⟨z.toNat, (Int.toNat_of_nonneg h.1).symm⟩
section
variable {P : Program} {w : World} {K : PySem.W.Frag} {mg : Str → Option Value} {base : Heap} {C : Addr}
def spAnswer (C : Addr) : Sp := fun vs H Q _ => ∃ (y c : Addr) (l : List Int) (x : Sy66.Call), vs = [.ref y, .ref c] ∧ H c = some (.lst (l.map V.int)) ∧ Form l ∧ Sy66Neutral.callOf l = some x ∧ Told C y x H Q
theorem scAnswer : FnScope ["yard", "call", "kind"] ["yard", "call"] (C8.fnScope sAnswer) := C8.fnScope_by (by decide +kernel)
theorem ok_answer {f : Addr} {fd : FuncData} (F : C8.Def K mg "answer" sAnswer f fd) (b : Binds K fd ["yard", "call"] []) (T : Txt K mg C) (c0 : C8.Cal P w K mg base 2 "begin" (spBeginC C) []) (c1 : C8.Cal P w K mg base 4 "add_car" (spAddCar C) [])
    (c2 : C8.Cal P w K mg base 2 "move_car" (spMoveCar C) []) (c3 : C8.Cal P w K mg base 2 "want_car" (spWantCar C) []) (c4 : C8.Cal P w K mg base 2 "free_car" (spFreeCar C) []) (c5 : C8.Cal P w K mg base 6 "count_fewest" (spFewest C .fewest) [])
    (c6 : C8.Cal P w K mg base 6 "tell_plan" (spFewest C .plan) []) (c7 : C8.Cal P w K mg base 5 "tell_reach" (spFewest C .reach) []) (c8 : C8.Cal P w K mg base 5 "tell_places" (spPlacesC C) []) (c9 : C8.Cal P w K mg base 6 "tell_hardest" (spFewest C .hardest) [])
    (c10 : C8.Cal P w K mg base 2 "tell_state" (spFewest C .state) []) : C8.Cal P w K mg base 7 "answer" (spAnswer C) [] := by
  refine C8.cal0 F b .nil scAnswer (fun vs H Q E h => ?_) (fun cdv A outer s H vs Q E hr h => ?_)
  · obtain ⟨_, _, _, _, rfl, _⟩ := h
    rfl
  obtain ⟨y, c, l, x, rfl, hc, fm, cx, told⟩ := h
  refine ⟨_, pss_cons (ps_set (i := 2) scAnswer.nd rfl (.inl rfl) (pe_ix ix_list (pv 1) pe_int (fun _ _ => rfl)))
    (pss_cons (ps_if (pt_cmpR op_eq (pv 2) (C8.pe_gc rfl (gcI T.d0)) (nomark _)) (pss_one (ps_ret (C8.pe_c c0 hr (by decide) rfl (pa_cons (pv 0) (pa_cons (pe_ix ix_list (pv 1) pe_int (fun _ _ => rfl)) (pa_cons (pe_ix ix_list (pv 1) pe_int (fun _ _ => rfl)) pa_nil)))))) pss_nil)
    (pss_cons (ps_if (pt_cmpR op_eq (pv 2) (C8.pe_gc rfl (gcI T.d1)) (nomark _)) (pss_one (ps_ret (C8.pe_c c1 hr (by decide) rfl (pa_cons (pv 0) (pa_cons (pe_ix ix_list (pv 1) pe_int (fun _ _ => rfl)) (pa_cons (pe_ix ix_list (pv 1) pe_int (fun _ _ => rfl)) (pa_cons (pe_ix ix_list (pv 1) pe_int (fun _ _ => rfl)) (pa_cons (pe_ix ix_list (pv 1) pe_int (fun _ _ => rfl)) pa_nil)))))))) pss_nil)
    (pss_cons (ps_if (pt_cmpR op_eq (pv 2) (C8.pe_gc rfl (gcI T.d2)) (nomark _)) (pss_one (ps_ret (C8.pe_c c2 hr (by decide) rfl (pa_cons (pv 0) (pa_cons (pe_ix ix_list (pv 1) pe_int (fun _ _ => rfl)) (pa_cons (pe_ix ix_list (pv 1) pe_int (fun _ _ => rfl)) pa_nil)))))) pss_nil)
    (pss_cons (ps_if (pt_cmpR op_eq (pv 2) (C8.pe_gc rfl (gcI T.d3)) (nomark _)) (pss_one (ps_ret (C8.pe_c c3 hr (by decide) rfl (pa_cons (pv 0) (pa_cons (pe_ix ix_list (pv 1) pe_int (fun _ _ => rfl)) (pa_cons (pe_ix ix_list (pv 1) pe_int (fun _ _ => rfl)) pa_nil)))))) pss_nil)
    (pss_cons (ps_if (pt_cmpR op_eq (pv 2) (C8.pe_gc rfl (gcI T.d4)) (nomark _)) (pss_one (ps_ret (C8.pe_c c4 hr (by decide) rfl (pa_cons (pv 0) (pa_cons (pe_ix ix_list (pv 1) pe_int (fun _ _ => rfl)) pa_nil))))) pss_nil)
    (pss_cons (ps_if (pt_cmpR op_eq (pv 2) (C8.pe_gc rfl (gcI T.d5)) (nomark _)) (pss_one (ps_ret (C8.pe_c c5 hr (by decide) rfl (pa_cons (pv 0) pa_nil)))) pss_nil)
    (pss_cons (ps_if (pt_cmpR op_eq (pv 2) (C8.pe_gc rfl (gcI T.d6)) (nomark _)) (pss_one (ps_ret (C8.pe_c c6 hr (by decide) rfl (pa_cons (pv 0) pa_nil)))) pss_nil)
    (pss_cons (ps_if (pt_cmpR op_eq (pv 2) (C8.pe_gc rfl (gcI T.d7)) (nomark _)) (pss_one (ps_ret (C8.pe_c c7 hr (by decide) rfl (pa_cons (pv 0) pa_nil)))) pss_nil)
    (pss_cons (ps_if (pt_cmpR op_eq (pv 2) (C8.pe_gc rfl (gcI T.d8)) (nomark _)) (pss_one (ps_ret (C8.pe_c c8 hr (by decide) rfl (pa_cons (pv 0) (pa_cons (pe_ix ix_list (pv 1) pe_int (fun _ _ => rfl)) pa_nil))))) pss_nil)
    (pss_cons (ps_if (pt_cmpR op_eq (pv 2) (C8.pe_gc rfl (gcI T.d9)) (nomark _)) (pss_one (ps_ret (C8.pe_c c9 hr (by decide) rfl (pa_cons (pv 0) pa_nil)))) pss_nil)
    (pss_one (ps_ret (C8.pe_c c10 hr (by decide) rfl (pa_cons (pv 0) pa_nil)))))))))))))), ?_⟩
  cases fm with
  | @c0 a b ha hb =>
    rw [callOf0 ha hb] at cx
    obtain ⟨n, rfl⟩ := ha.nat
    obtain ⟨m, rfl⟩ := hb.nat
    cases cx
    refine ⟨_, rfl, c, _, _, _, rfl, rfl, SqL.of hc, at0 rfl, ?_⟩
    exact ⟨_, rfl, rfl, _, rfl, ite_is ⟨_, rfl, _, rfl, c, _, _, _, rfl, rfl, SqL.of hc, at1 rfl, _, rfl, c, _, _, _, rfl, rfl, SqL.of hc, at2 rfl, y, n, m, rfl, told⟩⟩
  | @c1 a b a' b' ha hb ha' hb' =>
    rw [callOf1 ha hb ha' hb'] at cx
    obtain ⟨n, rfl⟩ := ha.nat
    obtain ⟨m, rfl⟩ := hb.nat
    obtain ⟨n', rfl⟩ := ha'.nat
    obtain ⟨m', rfl⟩ := hb'.nat
    cases cx
    refine ⟨_, rfl, c, _, _, _, rfl, rfl, SqL.of hc, at0 rfl, ?_⟩
    refine ⟨_, rfl, rfl, _, rfl, ite_ne (by decide) ?_⟩
    exact ⟨_, rfl, rfl, _, rfl, ite_is ⟨_, rfl, _, rfl, c, _, _, _, rfl, rfl, SqL.of hc, at1 rfl, _, rfl, c, _, _, _, rfl, rfl, SqL.of hc, at2 rfl, _, rfl, c, _, _, _, rfl, rfl, SqL.of hc, at3 rfl, _, rfl, c, _, _, _, rfl, rfl, SqL.of hc, at4 rfl, y, n, m, n', m', rfl, told⟩⟩
  | @c2 a b ha hb =>
    rw [callOf2 ha hb] at cx
    obtain ⟨n, rfl⟩ := ha.nat
    obtain ⟨m, rfl⟩ := hb.nat
    cases cx
    refine ⟨_, rfl, c, _, _, _, rfl, rfl, SqL.of hc, at0 rfl, ?_⟩
    iterate 2 refine ⟨_, rfl, rfl, _, rfl, ite_ne (by decide) ?_⟩
    exact ⟨_, rfl, rfl, _, rfl, ite_is ⟨_, rfl, _, rfl, c, _, _, _, rfl, rfl, SqL.of hc, at1 rfl, _, rfl, c, _, _, _, rfl, rfl, SqL.of hc, at2 rfl, y, n, m, rfl, told⟩⟩
  | @c3 a b ha hb =>
    rw [callOf3 ha hb] at cx
    obtain ⟨n, rfl⟩ := ha.nat
    obtain ⟨m, rfl⟩ := hb.nat
    cases cx
    refine ⟨_, rfl, c, _, _, _, rfl, rfl, SqL.of hc, at0 rfl, ?_⟩
    iterate 3 refine ⟨_, rfl, rfl, _, rfl, ite_ne (by decide) ?_⟩
    exact ⟨_, rfl, rfl, _, rfl, ite_is ⟨_, rfl, _, rfl, c, _, _, _, rfl, rfl, SqL.of hc, at1 rfl, _, rfl, c, _, _, _, rfl, rfl, SqL.of hc, at2 rfl, y, n, m, rfl, told⟩⟩
  | @c4 a ha =>
    rw [callOf4 ha] at cx
    obtain ⟨n, rfl⟩ := ha.nat
    cases cx
    refine ⟨_, rfl, c, _, _, _, rfl, rfl, SqL.of hc, at0 rfl, ?_⟩
    iterate 4 refine ⟨_, rfl, rfl, _, rfl, ite_ne (by decide) ?_⟩
    exact ⟨_, rfl, rfl, _, rfl, ite_is ⟨_, rfl, _, rfl, c, _, _, _, rfl, rfl, SqL.of hc, at1 rfl, y, n, rfl, told⟩⟩
  | c5 =>
    cases cx
    refine ⟨_, rfl, c, _, _, _, rfl, rfl, SqL.of hc, at0 rfl, ?_⟩
    iterate 5 refine ⟨_, rfl, rfl, _, rfl, ite_ne (by decide) ?_⟩
    exact ⟨_, rfl, rfl, _, rfl, ite_is ⟨_, rfl, y, rfl, told⟩⟩
  | c6 =>
    cases cx
    refine ⟨_, rfl, c, _, _, _, rfl, rfl, SqL.of hc, at0 rfl, ?_⟩
    iterate 6 refine ⟨_, rfl, rfl, _, rfl, ite_ne (by decide) ?_⟩
    exact ⟨_, rfl, rfl, _, rfl, ite_is ⟨_, rfl, y, rfl, told⟩⟩
  | c7 =>
    cases cx
    refine ⟨_, rfl, c, _, _, _, rfl, rfl, SqL.of hc, at0 rfl, ?_⟩
    iterate 7 refine ⟨_, rfl, rfl, _, rfl, ite_ne (by decide) ?_⟩
    exact ⟨_, rfl, rfl, _, rfl, ite_is ⟨_, rfl, y, rfl, told⟩⟩
  | @c8 a ha =>
    rw [callOf8 ha] at cx
    obtain ⟨n, rfl⟩ := ha.nat
    cases cx
    refine ⟨_, rfl, c, _, _, _, rfl, rfl, SqL.of hc, at0 rfl, ?_⟩
    iterate 8 refine ⟨_, rfl, rfl, _, rfl, ite_ne (by decide) ?_⟩
    exact ⟨_, rfl, rfl, _, rfl, ite_is ⟨_, rfl, _, rfl, c, _, _, _, rfl, rfl, SqL.of hc, at1 rfl, y, n, rfl, told⟩⟩
  | c9 =>
    cases cx
    refine ⟨_, rfl, c, _, _, _, rfl, rfl, SqL.of hc, at0 rfl, ?_⟩
    iterate 9 refine ⟨_, rfl, rfl, _, rfl, ite_ne (by decide) ?_⟩
    exact ⟨_, rfl, rfl, _, rfl, ite_is ⟨_, rfl, y, rfl, told⟩⟩
  | c10 =>
    cases cx
    refine ⟨_, rfl, c, _, _, _, rfl, rfl, SqL.of hc, at0 rfl, ?_⟩
    iterate 10 refine ⟨_, rfl, rfl, _, rfl, ite_ne (by decide) ?_⟩
    exact ⟨_, rfl, y, rfl, told⟩
end
end Cy

set_option Elab.async false
set_option maxRecDepth 100000
set_option maxHeartbeats 2000000
/-! answers. -/
namespace Cy
open PySem PySem.Spec PyProof.Rows L2
open Cr (nums)

theorem SqL.same {K : PySem.W.Frag} {H H' : Hp} {a : Addr} {xs : List V} (h : SqL K H a xs) (e : Same H H') : SqL K H' a xs := by
  rcases h with (h | ⟨o, h⟩) | h
  · exact .inl (.inl (e _ _ h))
  · exact .inl (.inr ⟨o, e _ _ h⟩)
  · exact .inr h
theorem YardAt.put {H : Hp} {C : Addr} {Z : Addr → Prop} {y : Addr} {s : St} (h : YardAt H C Z y s) {z : Addr} {zs : List V} {o : HO} (hz : H z = some (.lst zs)) (zz : Z z) : YardAt (upd H z o) C Z y s :=
  let ⟨a, b, c, d, e, f, g, i, k⟩ := h; ⟨a, b, c, d, e, f, g, i, k.put hz zz⟩
theorem behind_at {p : Int} (h0 : 0 ≤ p) (h1 : p ≤ 10) : atI (nums [2, 4, 2, 2, 1, 0, 0, 0, 1, 0, 0]) p = some (.int ((arity p : Nat) : Int)) := by
  rcases int_cases h0 h1 with rfl | rfl | rfl | rfl | rfl | rfl | rfl | rfl | rfl | rfl | rfl
  · exact atI_nat (j := 0) rfl
  · exact atI_nat (j := 1) rfl
  · exact atI_nat (j := 2) rfl
  · exact atI_nat (j := 3) rfl
  · exact atI_nat (j := 4) rfl
  · exact atI_nat (j := 5) rfl
  · exact atI_nat (j := 6) rfl
  · exact atI_nat (j := 7) rfl
  · exact atI_nat (j := 8) rfl
  · exact atI_nat (j := 9) rfl
  · exact atI_nat (j := 10) rfl
theorem cut_call {l : List Int} {i : Nat} {p : Int} {r : List Int} (hl : l.drop i = p :: r) (ha : arity p ≤ r.length) (hi : i < l.length) :
    cutV (l.map V.int) (some (i : Int)) (some ((i + 1 + arity p : Nat) : Int)) = (p :: r.take (arity p)).map V.int := by
  have len : l.length = i + (r.length + 1) := by
    have := congrArg List.length hl
    rw [List.length_drop, List.length_cons] at this
    omega
  unfold cutV
  rw [HT.sIx_nat, HT.sIx_nat, List.length_map, Nat.min_eq_left (by omega), Nat.min_eq_left (by omega), ← List.map_drop, hl, ← List.map_take]
  rw [show i + 1 + arity p - i = arity p + 1 by omega, List.take_succ_cons]
section
variable {P : Program} {w : World} {K : PySem.W.Frag} {mg : Str → Option Value} {base : Heap} {C : Addr}
theorem pe_mk0 {X : Cx} {k j : Nat} {C : Addr} {x : Str} {sp : Sp} {dvs : List V} {p pos : Pos} (c : C8.Mak X.prog X.w X.K X.mg X.base k x C sp dvs) (hr : Room j X.A) (hk : k + 1 ≤ j) (hg : Gl X x) (hdb : (x == ("__debug__" : Str)) = false := by decide) :
    PE X (.Call (.Name x p) [] [] pos) (tMake C sp dvs C8.E0 tNil) := by
  obtain ⟨f, fd, ps, ds, M, F, hm, b, d⟩ := c.ex
  exact pe_make0 M F (hr.mono hk) hg hm b d C8.pass0 hdb
def spAnswers (K : PySem.W.Frag) : Sp := fun vs H Q _ => ∃ (a : Addr) (l : List Int), vs = [.ref a] ∧ SqL K H a (l.map V.int) ∧ (∀ z ∈ l, Num z) ∧ l.length ≤ 500 ∧ PySy66.answers_asked l = true ∧
  ∀ H' p, H' p = some (.lst ((PySy66.answers l).map V.int)) → Q (.ref p) H'
theorem scAnswers : FnScope ["calls", "yard", "answered", "at", "behind", "numbers"] ["calls"] (C8.fnScope sAnswers) := C8.fnScope_by (by decide +kernel)
theorem ok_answers {f : Addr} {fd : FuncData} (F : C8.Def K mg "answers" sAnswers f fd) (T : Txt K mg C) (cY : C8.Mak P w K mg base 2 "Yard" C (spInit C) []) (cA : C8.Cal P w K mg base 7 "answer" (spAnswer C) []) : FnOk P w K mg base C8.CX0 8 f fd ["calls"] (spAnswers K) := by
  refine C8.fn0 F.fn scAnswers (fun vs H Q E h => ?_) (fun cdv A outer s H vs Q E hr h => ?_)
  · obtain ⟨_, _, rfl, _⟩ := h
    rfl
  obtain ⟨a, l, rfl, ha, hn, h500, asked, q⟩ := h
  obtain ⟨nb, nbm, hnb⟩ := T.nb
  refine ⟨_, pss_cons (ps_set (i := 1) scAnswers.nd rfl (.inl rfl) (pe_mk0 cY hr (by decide) rfl))
    (pss_cons (ps_set (i := 2) scAnswers.nd rfl (.inl rfl) (pe_lst pa_nil))
    (pss_cons (ps_set (i := 3) scAnswers.nd rfl (.inl rfl) pe_int)
    (pss_cons (ps_while PassesOwn.never (pt_cmpR op_lt (pv 3) (pe_callB call_len_seq (by rfl) T.len PySem.boot_len (pa_cons (pv 0) pa_nil)) (nomark _))
      (C8.pss_cut (ps_set (i := 4) scAnswers.nd rfl (.inl rfl) (pe_op op_add (pe_op op_add (pv 3) pe_int) (pe_ix ix_tup (C8.pe_gc (v := .ref nb) rfl ⟨_, nbm, rfl⟩) (pe_ix ix_list (pv 0) (pv 3) (fun _ _ => rfl)) (fun _ _ => rfl))))
      (pss_cons (ps_set (i := 5) scAnswers.nd rfl (.inl rfl) (C8.pe_c cA hr (by decide) rfl (pa_cons (pv 1) (pa_cons (pe_slice sl_list (pv 0) (po_some (pv 3)) (po_some (pv 4))) pa_nil))))
      (pss_cons (ps_expr (pe_bm PySem.F.plainAttrs_list PySem.F.slot_list_append PySem.F.type_list_append mt_append (pv 2) (pa_cons (pe_callB call_len_seq (by rfl) T.len PySem.boot_len (pa_cons (pv 5) pa_nil)) pa_nil)))
      (pss_cons (ps_expr (pe_bm PySem.F.plainAttrs_list PySem.F.slot_list_extend PySem.F.type_list_extend mt_extend (pv 2) (pa_cons (pv 5) pa_nil)))
      (pss_one (ps_set (i := 3) scAnswers.nd rfl (.inl rfl) (pv 4))))))))
    (pss_one (ps_ret (pv 2)))))), ?_⟩
  obtain ⟨cs, rest0, _, _, eA, few⟩ := asked_due asked
  refine fun y dx hy hdx ndy => ?_
  refine ⟨y, dx, rfl, upd_same, fun H2 aC aT aP aW B => ⟨rfl, ?_⟩⟩
  refine ⟨by show 0 ≤ sizeLine; decide, fun z hz => ?_⟩
  have s1 : Same H (upd (upd H dx (.own y)) y (.ins C dx [])) := fun b o e => by rw [upd_ne (ne_of_none e hy), upd_ne (ne_of_none e hdx)]; exact e
  have f1 : ∀ b, (upd (upd H dx (.own y)) y (.ins C dx [])) b = none → H b = none := fun b e => upd_none (upd_none e)
  have s2 : Same H H2 := fun b o e => B.but b o (ne_of_none e hy) (s1 b o e)
  have s3 : Same H (upd H2 z (.lst [])) := s2.trans (same_new hz)
  have hz0 : H z = none := s2.free hz
  have nZ : ∀ {b : Addr} {o : HO}, H b = none → H2 b = some o → ¬ ((∃ o, H b = some o) ∨ b = z) := fun {b o} e1 e2 h => h.elim (fun ⟨o, e⟩ => by rw [e1] at e; cases e) (ne_of_none e2 hz)
  have hY : YardAt (upd H2 z (.lst [])) C (fun b => (∃ o, H b = some o) ∨ b = z) y Sy66.init :=
    YardAt.same (H := H2) ⟨dx, aC, aT, aP, aW, [], [], .non, B.obj, B.cars, .nil, ⟨B.tracks, .nil⟩, B.place, B.want, .inl rfl, nZ hy B.obj, nZ (f1 _ B.nC) B.cars, nZ (f1 _ B.nT) B.tracks, nZ (f1 _ B.nW) B.want, fun t ht => (by cases ht), B.apart, fun t ht => (by cases ht)⟩ (same_new hz)
  have hO : Out (fun b => (∃ o, H b = some o) ∨ b = z) (upd H2 z (.lst [])) := fun b hb => hb.elim (fun ⟨o, e⟩ => ⟨o, s3 _ _ e⟩) fun e => ⟨.lst [], by rw [e]; exact upd_same⟩
  refine ⟨fun m σ H' => ∃ (i f : Nat) (s : St) (cs : List (List (List Int))) (ans : List Int) (u4 u5 : Option V), σ = [some (.ref a), some (.ref y), some (.ref z), some (.int (i : Int)), u4, u5] ∧ Same H H' ∧ H' z = some (.lst (ans.map V.int)) ∧
    YardAt H' C (fun b => (∃ o, H b = some o) ∨ b = z) y s ∧ Out (fun b => (∃ o, H b = some o) ∨ b = z) H' ∧ Ok s ∧ i ≤ l.length ∧ Rest f (l.drop i) cs ∧ ans ++ due s cs = PySy66.answers l ∧ m = l.length - i,
    ⟨_, 0, l.length, Sy66.init, cs, [], none, none, rfl, s3, upd_same, hY, hO, ok_init, Nat.zero_le _, rest0, eA.symm, rfl⟩, ?_⟩
  rintro m σ H' ⟨i, f, s, cs, ans, u4, u5, rfl, hs, hzl, hYs, hOs, ok, hi, rest, sum, rfl⟩
  refine ⟨_, rfl, _, rfl, a, _, rfl, .inl (SqL.same ha hs), _, _, rfl, rfl, _, rfl, ?_⟩
  rw [List.length_map]
  by_cases g : i < l.length
  rotate_left
  · rw [decide_eq_false (show ¬ (i : Int) < (l.length : Int) by omega)]
    have e : l.drop i = [] := List.drop_eq_nil_of_le (by omega)
    rw [e] at rest
    rw [rest_nil rest, due_nil, List.append_nil] at sum
    refine iteF ⟨_, rfl, q H' z ?_⟩
    rw [← sum]
    exact hzl
  rw [decide_eq_true (show (i : Int) < (l.length : Int) by omega)]
  obtain ⟨p, r, er⟩ : ∃ p r, l.drop i = p :: r := by
    cases e : l.drop i with
    | nil =>
      have := List.drop_eq_nil_iff.mp e
      omega
    | cons p r => exact ⟨p, r, rfl⟩
  rw [er] at rest
  have hnr : ∀ x ∈ p :: r, Num x := fun x hx => hn x (List.mem_of_mem_drop (i := i) (by rw [er]; exact hx))
  obtain ⟨f2, ds, p0, p1, hl, form, rfl, rest2⟩ := rest_cons rest fun x hx => hnr x (List.mem_cons_of_mem _ hx)
  have ep : l[i]? = some p := by
    have := congrArg (fun x => x[0]?) er
    rw [List.getElem?_drop] at this
    simpa using this
  have llen : l.length = i + (r.length + 1) := by
    have := congrArg List.length er
    rw [List.length_drop, List.length_cons] at this
    omega
  refine iteT ⟨_, fun _ _ z => z, ?_⟩
  have eb : (i : Int) + 1 + ((arity p : Nat) : Int) = ((i + 1 + arity p : Nat) : Int) := by omega
  refine ⟨fun σ' H'' => H' = H'' ∧ σ' = [some (.ref a), some (.ref y), some (.ref z), some (.int (i : Int)), some (.int ((i + 1 + arity p : Nat) : Int)), u5],
    ⟨_, rfl, _, _, rfl, rfl, _, rfl, _, rfl, a, _, _, _, rfl, rfl, SqL.same ha hs, atN ep, nb, _, _, _, rfl, rfl, hnb _, behind_at p0 p1, _, _, rfl, rfl, rfl, by rw [← eb]; rfl⟩, ?_⟩
  rintro _ _ ⟨rfl, rfl⟩
  refine ⟨_, rfl, _, rfl, _, rfl, _, rfl, _, rfl, _, rfl, a, _, rfl, SqL.same ha hs, fun c hc => ?_⟩
  rw [cut_call er hl g]
  obtain ⟨x, ex⟩ := form_call form
  have s4 : Same H' (upd H' c (.lst ((p :: r.take (arity p)).map V.int))) := same_new hc
  refine ⟨y, c, p :: r.take (arity p), x, rfl, upd_same, form, ex, _, s, hYs.same s4, hOs.keep (.same s4), ok, fun H5 n hY5 k5 nz e5 => ?_⟩
  have ez : H5 z = some (.lst (ans.map V.int)) := k5 _ _ (.inr rfl) (s4 _ _ hzl)
  have nzn : n ≠ z := fun e => nz (.inr e)
  have s5 : Same H H5 := fun b o e => k5 b o (.inl ⟨o, e⟩) (s4 _ _ (hs _ _ e))
  have k45 : Keep (fun b => (∃ o, H b = some o) ∨ b = z) H' H5 := (Keep.same s4).trans k5
  have sn := stepN_some (s := s) ex
  have dc := due_cons (s := s) form ds
  rw [sn] at dc
  generalize hst : (Sy66.step s x).1 = s' at *
  generalize hout : Sy66Neutral.out (Sy66.step s x).2 = out at *
  have ok' : Ok s' := hst ▸ ok_step ok x
  have tot : ans.length + (1 + out.length) ≤ 10000000 := by
    have e1 := congrArg List.length sum
    have dc2 : due s ([p :: r.take (arity p)] :: ds) = (out.length : Int) :: out ++ due s' ds := dc
    rw [dc2, List.length_append, List.length_append, List.length_cons] at e1
    have e2 : (PySy66.answers l).length ≤ 10000000 := by rw [eA]; exact few
    omega
  refine ⟨_, rfl, .inl ⟨rfl, _, SqL.of ez⟩, _, rfl, n, _, rfl, .inl (SqL.of e5), z, _, _, rfl, rfl, ez, ?_, ?_⟩
  · rw [List.length_map]
    exact Nat.lt_of_le_of_lt (show _ ≤ 10000000 by omega) (by decide)
  rw [List.length_map]
  have hY6 := hY5.put (o := .lst (ans.map V.int ++ [.int (out.length : Int)])) ez (.inr rfl)
  have n6 : (upd H5 z (.lst (ans.map V.int ++ [.int (out.length : Int)]))) n = some (.lst (out.map V.int)) := by rw [upd_ne nzn]; exact e5
  have z6 : (upd H5 z (.lst (ans.map V.int ++ [.int (out.length : Int)]))) z = some (.lst (ans.map V.int ++ [.int (out.length : Int)])) := upd_same
  have s6 : Same H (upd H5 z (.lst (ans.map V.int ++ [.int (out.length : Int)]))) := same_put s5 hz0
  generalize upd H5 z (.lst (ans.map V.int ++ [.int (out.length : Int)])) = H6 at *
  refine ⟨_, rfl, .inl ⟨rfl, _, SqL.of z6⟩, _, rfl, z, n, _, _, rfl, rfl, z6, n6, ?_, ?_⟩
  · rw [List.length_append, List.length_map, List.length_map]
    exact Nat.le_trans (show _ ≤ 10000000 by show ans.length + 1 + out.length ≤ 10000000; omega) (by decide)
  have hY7 := hY6.put (o := .lst (ans.map V.int ++ [.int (out.length : Int)] ++ out.map V.int)) z6 (.inr rfl)
  refine ⟨_, rfl, l.length - (i + 1 + arity p), by omega, i + 1 + arity p, f2, s', ds, ans ++ ((out.length : Int) :: out), _, _, rfl, same_put s6 hz0, ?_, hY7, ?_, ok', by omega, ?_, ?_, rfl⟩
  · rw [upd_same, List.map_append, List.append_assoc]
    rfl
  · intro b hb
    rcases hb with ⟨o, e⟩ | e
    · exact ⟨o, same_put s6 hz0 b o e⟩
    · exact ⟨_, by rw [e]; exact upd_same⟩
  · have e1 : l.drop (i + 1 + arity p) = r.drop (arity p) := by
      rw [show i + 1 + arity p = i + (arity p + 1) by omega, ← List.drop_drop, er]
      rfl
    rw [e1]
    exact rest2
  · have dc2 : due s ([p :: r.take (arity p)] :: ds) = (out.length : Int) :: out ++ due s' ds := dc
    rw [List.append_assoc, ← dc2]
    exact sum
end
end Cy

set_option Elab.async false
set_option maxRecDepth 100000
set_option maxHeartbeats 2000000
/-! The end: what the top has written. -/
namespace Cy
open PySem PySem.Spec PyProof.Rows L2
open Cr (nums)

/-- a def of the module stands there -/
def FAt (K : PySem.W.Frag) (x : Str) (st : Stmt) : Prop := ∃ (f : Addr) (oc : Value) (od : Option Addr) (kV doc pm : Value) (an : Option Addr) (cdv ct : Value) (osl : Array (Option Value)),
  PySem.W.nsIn K mainGlobals x = some (some (.ref f)) ∧ K.lookup f = some ⟨oc, od, .func (PySem.W.fnOf x x (C8.fnArgs st) (C8.fnBody st) (C8.fnScope st) .none kV doc pm an cdv ct), osl⟩ ∧ PySem.W.codeIn K cdv x = true ∧ PySem.W.keepIn K (.ref f) = true
/-- a method of the class stands there -/
def MAt (K : PySem.W.Frag) (C : Addr) (m qual : Str) (st : Stmt) : Prop := ∃ (f : Addr) (oc : Value) (od : Option Addr) (kV doc pm : Value) (an : Option Addr) (cdv ct : Value) (osl : Array (Option Value)),
  PySem.W.findIn K (.ref C) m = some (some (.ref f)) ∧ PySem.W.isFn K (.ref f) = true ∧ K.lookup f = some ⟨oc, od, .func (PySem.W.fnOf m qual (C8.fnArgs st) (C8.fnBody st) (C8.fnScope st) .none kV doc pm an cdv ct), osl⟩ ∧ PySem.W.codeIn K cdv qual = true ∧ PySem.W.keepIn K (.ref f) = true
theorem FAt.mk {K : PySem.W.Frag} {x : Str} {st : Stmt} {f : Addr} {oc : Value} {od : Option Addr} {kV doc pm : Value} {an : Option Addr} {cdv ct : Value} {osl : Array (Option Value)}
    (h1 : PySem.W.nsIn K mainGlobals x = some (some (.ref f))) (h2 : K.lookup f = some ⟨oc, od, .func (PySem.W.fnOf x x (C8.fnArgs st) (C8.fnBody st) (C8.fnScope st) .none kV doc pm an cdv ct), osl⟩) (h3 : PySem.W.codeIn K cdv x = true) (h4 : PySem.W.keepIn K (.ref f) = true) : FAt K x st :=
  ⟨f, oc, od, kV, doc, pm, an, cdv, ct, osl, h1, h2, h3, h4⟩
theorem MAt.mk {K : PySem.W.Frag} {C : Addr} {m qual : Str} {st : Stmt} {f : Addr} {oc : Value} {od : Option Addr} {kV doc pm : Value} {an : Option Addr} {cdv ct : Value} {osl : Array (Option Value)}
    (h1 : PySem.W.findIn K (.ref C) m = some (some (.ref f))) (h2 : PySem.W.isFn K (.ref f) = true) (h3 : K.lookup f = some ⟨oc, od, .func (PySem.W.fnOf m qual (C8.fnArgs st) (C8.fnBody st) (C8.fnScope st) .none kV doc pm an cdv ct), osl⟩) (h4 : PySem.W.codeIn K cdv qual = true) (h5 : PySem.W.keepIn K (.ref f) = true) : MAt K C m qual st :=
  ⟨f, oc, od, kV, doc, pm, an, cdv, ct, osl, h1, h2, h3, h4, h5⟩
theorem FAt.defn {K : PySem.W.Frag} {h : Heap} {mg : Str → Option Value} {x : Str} {st : Stmt} (X : K.In h) (G : h.Ns mainGlobals mg) (a : FAt K x st) : ∃ f fd, C8.Def K mg x st f fd ∧ fd.defaults = .none := by
  obtain ⟨f, oc, od, kV, doc, pm, an, cdv, ct, osl, h1, h2, h3, h4⟩ := a
  exact ⟨f, _, ⟨⟨⟨oc, od, .none, kV, doc, pm, an, cdv, ct, osl, rfl, h2, h3⟩⟩, PySem.W.mg_of X G h1, h4⟩, rfl⟩
theorem MAt.defn {K : PySem.W.Frag} {C : Addr} {m qual : Str} {st : Stmt} (a : MAt K C m qual st) : ∃ f fd, Meth K C m f ∧ C8.Fun K m qual st f fd ∧ fd.defaults = .none := by
  obtain ⟨f, oc, od, kV, doc, pm, an, cdv, ct, osl, h1, h2, h3, h4, h5⟩ := a
  exact ⟨f, _, ⟨h1, h2, h5⟩, ⟨⟨oc, od, .none, kV, doc, pm, an, cdv, ct, osl, rfl, h3, h4⟩⟩, rfl⟩
/-- a constant of the module stands there -/
def IAt (K : PySem.W.Frag) (x : Str) (n : Int) : Prop := ∃ t, PySem.W.nsIn K mainGlobals x = some (some (.int n t))
theorem IAt.mk {K : PySem.W.Frag} {x : Str} {n : Int} {t} (h : PySem.W.nsIn K mainGlobals x = some (some (.int n t))) : IAt K x n := ⟨t, h⟩
theorem IAt.mg {K : PySem.W.Frag} {h : Heap} {mg : Str → Option Value} {x : Str} {n : Int} (X : K.In h) (G : h.Ns mainGlobals mg) (a : IAt K x n) : ∃ t, mg x = some (.int n t) := let ⟨t, e⟩ := a; ⟨t, PySem.W.mg_of X G e⟩
/-- how many numbers each call has -/
def TAt (K : PySem.W.Frag) : Prop := ∃ (a : Addr) (od : Option Addr) (n : Nat) (sl : Array (Option Value)) (t0 t1 t2 t3 t4 t5 t6 t7 t8 t9 t10 : _), PySem.W.nsIn K mainGlobals "NUMBERS_BEHIND" = some (some (.ref a)) ∧
  K.lookup a = some ⟨.type "tuple", od, .seq #[.int 2 t0, .int 4 t1, .int 2 t2, .int 2 t3, .int 1 t4, .int 0 t5, .int 0 t6, .int 0 t7, .int 1 t8, .int 0 t9, .int 0 t10] n, sl⟩
theorem TAt.mk {K : PySem.W.Frag} {a : Addr} {od : Option Addr} {n : Nat} {sl : Array (Option Value)} {t0 t1 t2 t3 t4 t5 t6 t7 t8 t9 t10} (h1 : PySem.W.nsIn K mainGlobals "NUMBERS_BEHIND" = some (some (.ref a)))
    (h2 : K.lookup a = some ⟨.type "tuple", od, .seq #[.int 2 t0, .int 4 t1, .int 2 t2, .int 2 t3, .int 1 t4, .int 0 t5, .int 0 t6, .int 0 t7, .int 1 t8, .int 0 t9, .int 0 t10] n, sl⟩) : TAt K :=
  ⟨a, od, n, sl, t0, t1, t2, t3, t4, t5, t6, t7, t8, t9, t10, h1, h2⟩
theorem TAt.nb {K : PySem.W.Frag} {h : Heap} {mg : Str → Option Value} (X : K.In h) (G : h.Ns mainGlobals mg) (a : TAt K) : ∃ a, mg "NUMBERS_BEHIND" = some (.ref a) ∧ ∀ H, SqT K H a (nums [2, 4, 2, 2, 1, 0, 0, 0, 1, 0, 0]) := by
  obtain ⟨a, od, n, sl, t0, t1, t2, t3, t4, t5, t6, t7, t8, t9, t10, h1, h2⟩ := a
  exact ⟨a, PySem.W.mg_of X G h1, fun H => .inr ⟨_, _, n, h2, rfl, rfl, by show 11 ≤ sizeLine; decide, .cons ⟨_, rfl⟩ (.cons ⟨_, rfl⟩ (.cons ⟨_, rfl⟩ (.cons ⟨_, rfl⟩ (.cons ⟨_, rfl⟩ (.cons ⟨_, rfl⟩ (.cons ⟨_, rfl⟩ (.cons ⟨_, rfl⟩ (.cons ⟨_, rfl⟩ (.cons ⟨_, rfl⟩ (.cons ⟨_, rfl⟩ .nil))))))))))⟩⟩

theorem all_mk {P : Program} {w : World} {K : PySem.W.Frag} {h : Heap} {mg : Str → Option Value} {fa C : Addr} (X : K.In h) (G : h.Ns mainGlobals mg) (hfa : mg "answers" = some (.ref fa)) (aC : PySem.W.nsIn K mainGlobals "Yard" = some (some (.ref C)))
    (pg : PySem.W.plainGet K C Str.empty = true)
    (hd : PySem.W.hasDictIn K C = true)
    (po : PySem.W.plainOver K C = true)
    (sa : PySem.W.findIn K (.ref C) "__setattr__" = some (some (.builtin "object.__setattr__")))
    (mk : PySem.W.makesIn K C = true)
    (kc : PySem.W.keepIn K (.ref C) = true)
    (m0 : MAt K C "__init__" "Yard.__init__" sInit)
    (m1 : MAt K C "begin" "Yard.begin" sBegin)
    (m2 : MAt K C "take_in" "Yard.take_in" sTakeIn)
    (m3 : MAt K C "many_lines" "Yard.many_lines" sManyLines)
    (m4 : MAt K C "line_cells" "Yard.line_cells" sLineCells)
    (m5 : MAt K C "new_track" "Yard.new_track" sNewTrack)
    (f0 : FAt K "taken_cells" sTaken)
    (f1 : FAt K "with_place" sWith)
    (f2 : FAt K "ways" sWays)
    (f3 : FAt K "moves_at" sMovesAt)
    (f4 : FAt K "moves_by_arrangement" sMovesBy)
    (f5 : FAt K "count_arrangements" sCount)
    (f6 : FAt K "is_as_wanted" sWanted)
    (f7 : FAt K "next_layer" sLayer)
    (f8 : FAt K "moves_needed" sNeeded)
    (f9 : FAt K "first_nearer" sNearer)
    (f10 : FAt K "first_plan" sPlan)
    (f11 : FAt K "refused" sRefused)
    (f12 : FAt K "listed" sListed)
    (f13 : FAt K "begin" sBeginC)
    (f14 : FAt K "fits" sFits)
    (f15 : FAt K "add_car" sAddCar)
    (f16 : FAt K "move_car" sMoveCar)
    (f17 : FAt K "want_car" sWantCar)
    (f18 : FAt K "free_car" sFreeCar)
    (f19 : FAt K "moves_about" sAbout)
    (f20 : FAt K "needed_about" sNeedAbout)
    (f21 : FAt K "count_fewest" sFewest)
    (f22 : FAt K "tell_plan" sTellPlan)
    (f23 : FAt K "tell_reach" sReach)
    (f24 : FAt K "tell_places" sPlaces)
    (f25 : FAt K "tell_hardest" sHardest)
    (f26 : FAt K "tell_state" sState)
    (f27 : FAt K "answer" sAnswer)
    (f28 : FAt K "answers" sAnswers)
    (c1 : IAt K "NOT_IN_RANGE" 1)
    (c2 : IAt K "NO_SUCH_CAR" 2)
    (c3 : IAt K "NO_MORE_CARS" 5)
    (c4 : IAt K "CANNOT_BE" 6)
    (c5 : IAt K "MOST_LINES" 5)
    (c6 : IAt K "MOST_CARS" 5)
    (c7 : IAt K "LEAST_LENGTH" 2)
    (c8 : IAt K "MOST_LENGTH" 5)
    (d0 : IAt K "BEGINS" 0)
    (d1 : IAt K "CAR" 1)
    (d2 : IAt K "MOVE" 2)
    (d3 : IAt K "WANT" 3)
    (d4 : IAt K "FREE" 4)
    (d5 : IAt K "FEWEST" 5)
    (d6 : IAt K "PLAN" 6)
    (d7 : IAt K "REACH" 7)
    (d8 : IAt K "PLACES" 8)
    (d9 : IAt K "HARDEST" 9)
    (n0 : PySem.W.findIn K (.ref C) "rows" = some none)
    (n1 : PySem.W.findIn K (.ref C) "columns" = some none)
    (n2 : PySem.W.findIn K (.ref C) "cars" = some none)
    (n3 : PySem.W.findIn K (.ref C) "tracks" = some none)
    (n4 : PySem.W.findIn K (.ref C) "places" = some none)
    (n5 : PySem.W.findIn K (.ref C) "wanted" = some none)
    (n6 : PySem.W.findIn K (.ref C) "moves_made" = some none)
    (n7 : PySem.W.findIn K (.ref C) "known_moves" = some none)
    (z0 : PySem.W.nsIn K mainGlobals "len" = some none)
    (z1 : PySem.W.nsIn K mainGlobals "list" = some none)
    (z2 : PySem.W.nsIn K mainGlobals "range" = some none)
    (z3 : PySem.W.nsIn K mainGlobals "enumerate" = some none)
    (z4 : PySem.W.nsIn K mainGlobals "sorted" = some none)
    (z5 : PySem.W.nsIn K mainGlobals "set" = some none)
    (z6 : PySem.W.nsIn K mainGlobals "max" = some none)
    (z7 : PySem.W.nsIn K mainGlobals "min" = some none)
    (tb : TAt K) :
    ∃ fd : FuncData, (∀ (s : Shared) (us : List Value), us.length = (["calls"] : List Str).length → BindsTo s fd ⟨us, []⟩ ((["calls"] : List Str).zip us)) ∧ ∀ base : Heap, K.In base → base.Ns mainGlobals mg → FnOk P w K mg base C8.CX0 8 fa fd ["calls"] (spAnswers K) := by
  have T : Txt K mg C := ⟨⟨pg, hd, po, sa⟩, n0, n1, n2, n3, n4, n5, n6, n7, PySem.W.mg_none_of X G z0, PySem.W.mg_none_of X G z1, PySem.W.mg_none_of X G z2, PySem.W.mg_none_of X G z3, PySem.W.mg_none_of X G z4, PySem.W.mg_none_of X G z5, PySem.W.mg_none_of X G z6, PySem.W.mg_none_of X G z7, c1.mg X G, c2.mg X G, c3.mg X G, c4.mg X G, c5.mg X G, c6.mg X G, c7.mg X G, c8.mg X G, d0.mg X G, d1.mg X G, d2.mg X G, d3.mg X G, d4.mg X G, d5.mg X G, d6.mg X G, d7.mg X G, d8.mg X G, d9.mg X G, tb.nb X G⟩
  have mY := PySem.W.mg_of X G aC
  obtain ⟨mf0, md0, ME0, MF0, me0⟩ := m0.defn
  have MB0 := MF0.binds me0 (ps := ["self"]) fun _ _ _ _ _ _ us hl => match us, hl with | [_], _ => rfl
  obtain ⟨mf1, md1, ME1, MF1, me1⟩ := m1.defn
  have MB1 := MF1.binds me1 (ps := ["self", "rows", "columns"]) fun _ _ _ _ _ _ us hl => match us, hl with | [_, _, _], _ => rfl
  obtain ⟨mf2, md2, ME2, MF2, me2⟩ := m2.defn
  have MB2 := MF2.binds me2 (ps := ["self", "upright", "line", "length", "place"]) fun _ _ _ _ _ _ us hl => match us, hl with | [_, _, _, _, _], _ => rfl
  obtain ⟨mf3, md3, ME3, MF3, me3⟩ := m3.defn
  have MB3 := MF3.binds me3 (ps := ["self", "upright"]) fun _ _ _ _ _ _ us hl => match us, hl with | [_, _], _ => rfl
  obtain ⟨mf4, md4, ME4, MF4, me4⟩ := m4.defn
  have MB4 := MF4.binds me4 (ps := ["self", "upright"]) fun _ _ _ _ _ _ us hl => match us, hl with | [_, _], _ => rfl
  obtain ⟨mf5, md5, ME5, MF5, me5⟩ := m5.defn
  have MB5 := MF5.binds me5 (ps := ["self", "upright", "line", "length"]) fun _ _ _ _ _ _ us hl => match us, hl with | [_, _, _, _], _ => rfl
  obtain ⟨ff0, fd0, D0, e0⟩ := f0.defn X G
  have B0 := D0.fn.binds e0 (ps := ["tracks", "places"]) fun _ _ _ _ _ _ us hl => match us, hl with | [_, _], _ => rfl
  obtain ⟨ff1, fd1, D1, e1⟩ := f1.defn X G
  have B1 := D1.fn.binds e1 (ps := ["places", "car", "place"]) fun _ _ _ _ _ _ us hl => match us, hl with | [_, _, _], _ => rfl
  obtain ⟨ff2, fd2, D2, e2⟩ := f2.defn X G
  have B2 := D2.fn.binds e2 (ps := ["track", "place", "others"]) fun _ _ _ _ _ _ us hl => match us, hl with | [_, _, _], _ => rfl
  obtain ⟨ff3, fd3, D3, e3⟩ := f3.defn X G
  have B3 := D3.fn.binds e3 (ps := ["tracks", "places"]) fun _ _ _ _ _ _ us hl => match us, hl with | [_, _], _ => rfl
  obtain ⟨ff4, fd4, D4, e4⟩ := f4.defn X G
  have B4 := D4.fn.binds e4 (ps := ["tracks", "start"]) fun _ _ _ _ _ _ us hl => match us, hl with | [_, _], _ => rfl
  obtain ⟨ff5, fd5, D5, e5⟩ := f5.defn X G
  have B5 := D5.fn.binds e5 (ps := ["tracks"]) fun _ _ _ _ _ _ us hl => match us, hl with | [_], _ => rfl
  obtain ⟨ff6, fd6, D6, e6⟩ := f6.defn X G
  have B6 := D6.fn.binds e6 (ps := ["places", "wanted"]) fun _ _ _ _ _ _ us hl => match us, hl with | [_, _], _ => rfl
  obtain ⟨ff7, fd7, D7, e7⟩ := f7.defn X G
  have B7 := D7.fn.binds e7 (ps := ["moves", "layer", "needed", "made"]) fun _ _ _ _ _ _ us hl => match us, hl with | [_, _, _, _], _ => rfl
  obtain ⟨ff8, fd8, D8, e8⟩ := f8.defn X G
  have B8 := D8.fn.binds e8 (ps := ["moves", "wanted"]) fun _ _ _ _ _ _ us hl => match us, hl with | [_, _], _ => rfl
  obtain ⟨ff9, fd9, D9, e9⟩ := f9.defn X G
  have B9 := D9.fn.binds e9 (ps := ["moves", "needed", "places"]) fun _ _ _ _ _ _ us hl => match us, hl with | [_, _, _], _ => rfl
  obtain ⟨ff10, fd10, D10, e10⟩ := f10.defn X G
  have B10 := D10.fn.binds e10 (ps := ["moves", "needed", "start"]) fun _ _ _ _ _ _ us hl => match us, hl with | [_, _, _], _ => rfl
  obtain ⟨ff11, fd11, D11, e11⟩ := f11.defn X G
  have B11 := D11.fn.binds e11 (ps := ["reason"]) fun _ _ _ _ _ _ us hl => match us, hl with | [_], _ => rfl
  obtain ⟨ff12, fd12, D12, e12⟩ := f12.defn X G
  have B12 := D12.fn.binds e12 (ps := ["numbers"]) fun _ _ _ _ _ _ us hl => match us, hl with | [_], _ => rfl
  obtain ⟨ff13, fd13, D13, e13⟩ := f13.defn X G
  have B13 := D13.fn.binds e13 (ps := ["yard", "rows", "columns"]) fun _ _ _ _ _ _ us hl => match us, hl with | [_, _, _], _ => rfl
  obtain ⟨ff14, fd14, D14, e14⟩ := f14.defn X G
  have B14 := D14.fn.binds e14 (ps := ["yard", "upright", "line", "place", "length"]) fun _ _ _ _ _ _ us hl => match us, hl with | [_, _, _, _, _], _ => rfl
  obtain ⟨ff15, fd15, D15, e15⟩ := f15.defn X G
  have B15 := D15.fn.binds e15 (ps := ["yard", "upright", "line", "place", "length"]) fun _ _ _ _ _ _ us hl => match us, hl with | [_, _, _, _, _], _ => rfl
  obtain ⟨ff16, fd16, D16, e16⟩ := f16.defn X G
  have B16 := D16.fn.binds e16 (ps := ["yard", "car", "place"]) fun _ _ _ _ _ _ us hl => match us, hl with | [_, _, _], _ => rfl
  obtain ⟨ff17, fd17, D17, e17⟩ := f17.defn X G
  have B17 := D17.fn.binds e17 (ps := ["yard", "car", "place"]) fun _ _ _ _ _ _ us hl => match us, hl with | [_, _, _], _ => rfl
  obtain ⟨ff18, fd18, D18, e18⟩ := f18.defn X G
  have B18 := D18.fn.binds e18 (ps := ["yard", "car"]) fun _ _ _ _ _ _ us hl => match us, hl with | [_, _], _ => rfl
  obtain ⟨ff19, fd19, D19, e19⟩ := f19.defn X G
  have B19 := D19.fn.binds e19 (ps := ["yard"]) fun _ _ _ _ _ _ us hl => match us, hl with | [_], _ => rfl
  obtain ⟨ff20, fd20, D20, e20⟩ := f20.defn X G
  have B20 := D20.fn.binds e20 (ps := ["yard"]) fun _ _ _ _ _ _ us hl => match us, hl with | [_], _ => rfl
  obtain ⟨ff21, fd21, D21, e21⟩ := f21.defn X G
  have B21 := D21.fn.binds e21 (ps := ["yard"]) fun _ _ _ _ _ _ us hl => match us, hl with | [_], _ => rfl
  obtain ⟨ff22, fd22, D22, e22⟩ := f22.defn X G
  have B22 := D22.fn.binds e22 (ps := ["yard"]) fun _ _ _ _ _ _ us hl => match us, hl with | [_], _ => rfl
  obtain ⟨ff23, fd23, D23, e23⟩ := f23.defn X G
  have B23 := D23.fn.binds e23 (ps := ["yard"]) fun _ _ _ _ _ _ us hl => match us, hl with | [_], _ => rfl
  obtain ⟨ff24, fd24, D24, e24⟩ := f24.defn X G
  have B24 := D24.fn.binds e24 (ps := ["yard", "car"]) fun _ _ _ _ _ _ us hl => match us, hl with | [_, _], _ => rfl
  obtain ⟨ff25, fd25, D25, e25⟩ := f25.defn X G
  have B25 := D25.fn.binds e25 (ps := ["yard"]) fun _ _ _ _ _ _ us hl => match us, hl with | [_], _ => rfl
  obtain ⟨ff26, fd26, D26, e26⟩ := f26.defn X G
  have B26 := D26.fn.binds e26 (ps := ["yard"]) fun _ _ _ _ _ _ us hl => match us, hl with | [_], _ => rfl
  obtain ⟨ff27, fd27, D27, e27⟩ := f27.defn X G
  have B27 := D27.fn.binds e27 (ps := ["yard", "call"]) fun _ _ _ _ _ _ us hl => match us, hl with | [_, _], _ => rfl
  obtain ⟨fz, fdz, DZ, ez⟩ := f28.defn X G
  have ef : fz = fa := by
    have := DZ.mgf.symm.trans hfa
    cases this
    rfl
  subst ef
  refine ⟨fdz, fun s us hu => ?_, fun base _ _ => ?_⟩
  · obtain ⟨oc, od, dV, kV, doc, pm, an, cdv, ct, osl, rfl, lk, hcd⟩ := DZ.fn.ex
    have e : dV = .none := ez
    subst e
    exact match us, hu with | [_], _ => .of_eq rfl
  have MM := ok_many (P := P) (w := w) (base := base) ME3 MF3 MB3 T
  have ML := ok_cells (P := P) (w := w) (base := base) ME4 MF4 MB4 T
  have MB := ok_begin (P := P) (w := w) (base := base) ME1 MF1 MB1 T
  have MI := ok_init_ (P := P) (w := w) (base := base) ⟨mk, ME0.at_, ME0.fn, kc⟩ mY MF0 MB0 MB
  have MT := ok_track (P := P) (w := w) (base := base) ME5 MF5 MB5 T ML
  have MK := ok_take (P := P) (w := w) (base := base) ME2 MF2 MB2 T MT
  have cTk := ok_taken (P := P) (w := w) (base := base) D0 B0 T
  have cWi := ok_with (P := P) (w := w) (base := base) D1 B1
  have cWa := ok_ways (P := P) (w := w) (base := base) D2 B2 T
  have cMa := ok_movesAt (P := P) (w := w) (base := base) D3 B3 T cTk cWi cWa
  have cMb := ok_movesBy (P := P) (w := w) (base := base) D4 B4 cMa
  have cCo := ok_count (P := P) (w := w) (base := base) D5 B5 T
  have cWd := ok_wanted (P := P) (w := w) (base := base) D6 B6
  have cLa := ok_layer (P := P) (w := w) (base := base) D7 B7
  have cNe := ok_needed (P := P) (w := w) (base := base) D8 B8 cWd cLa
  have cNr := ok_nearer (P := P) (w := w) (base := base) D9 B9
  have cPl := ok_plan (P := P) (w := w) (base := base) D10 B10 cNr
  have cRe := ok_refused (P := P) (w := w) (base := base) D11 B11
  have cLi := ok_listed (P := P) (w := w) (base := base) D12 B12 T
  have cBe := ok_beginC (P := P) (w := w) (base := base) D13 B13 T cRe MB
  have cFi := ok_fits (P := P) (w := w) (base := base) D14 B14 T MM ML
  have cAd := ok_addCar (P := P) (w := w) (base := base) D15 B15 T cRe cFi cTk MT MK
  have cMo := ok_moveCar (P := P) (w := w) (base := base) D16 B16 T cRe cTk cWa cWi cLi
  have cWc := ok_wantCar (P := P) (w := w) (base := base) D17 B17 T cRe
  have cFr := ok_freeCar (P := P) (w := w) (base := base) D18 B18 T cRe
  have cAb := ok_about (P := P) (w := w) (base := base) D19 B19 T cMb
  have cNa := ok_needAbout (P := P) (w := w) (base := base) D20 B20 T cAb cNe
  have cFe := ok_fewest (P := P) (w := w) (base := base) D21 B21 T cRe cNa
  have cTp := ok_tellPlan (P := P) (w := w) (base := base) D22 B22 T cRe cNa cAb cPl cLi
  have cTr := ok_reach (P := P) (w := w) (base := base) D23 B23 T cAb cCo cLi
  have cTl := ok_places (P := P) (w := w) (base := base) D24 B24 T cRe cAb cLi
  have cTh := ok_hardest (P := P) (w := w) (base := base) D25 B25 T cRe cNa cLi
  have cTs := ok_state (P := P) (w := w) (base := base) D26 B26 T cLi
  have cAn := ok_answer (P := P) (w := w) (base := base) D27 B27 T cBe cAd cMo cWc cFr cFe cTp cTr cTl cTh cTs
  exact ok_answers DZ T MI cAn
end Cy

open PySem PySem.W PyProof.Rows
set_option maxRecDepth 100000 in
set_option maxHeartbeats 16000000 in
theorem PySem.Challenge.cw_caryard_s01_answers_holds : PySem.Challenge.rw_caryard_s01_answers.Holds := by
  w_on; k_headS; (case hw => exact ⟨[.list [.int 5]], by decide +kernel, by decide +kernel⟩)
  k_fillS
  refine L2.walk_specK (r := PySem.Challenge.rw_caryard_s01_answers) (k := 8) (CX := C8.CX0) (ps := ["calls"]) (sp := Cy.spAnswers) (by decide +kernel) rfl rfl ⟨rfl, by decide, by decide⟩ (fun w h Y => PySem.W.kIn_of Y) ?F ?S (fun _ _ _ _ z => z)
  case F =>
    intro w mg fa h Y KX G hmg
    refine' Cy.all_mk KX G hmg ?aC ?pg ?hd ?po ?sa ?mk ?kc ?m0 ?m1 ?m2 ?m3 ?m4 ?m5 ?f0 ?f1 ?f2 ?f3 ?f4 ?f5 ?f6 ?f7 ?f8 ?f9 ?f10 ?f11 ?f12 ?f13 ?f14 ?f15 ?f16 ?f17 ?f18 ?f19 ?f20 ?f21 ?f22 ?f23 ?f24 ?f25 ?f26 ?f27 ?f28 ?c1 ?c2 ?c3 ?c4 ?c5 ?c6 ?c7 ?c8 ?d0 ?d1 ?d2 ?d3 ?d4 ?d5 ?d6 ?d7 ?d8 ?d9 ?n0 ?n1 ?n2 ?n3 ?n4 ?n5 ?n6 ?n7 ?z0 ?z1 ?z2 ?z3 ?z4 ?z5 ?z6 ?z7 ?tb
    (case aC => k_is)
    (case pg => k_is)
    (case hd => k_is)
    (case po => k_is)
    (case sa => k_is)
    (case mk => k_is)
    (case kc => k_is)
    (case m0 => refine' Cy.MAt.mk ?q1 ?q2 ?q3 ?q4 ?q5; (case q1 => k_is); (case q2 => k_is); (case q3 => k_is); (case q4 => k_is); (case q5 => k_is))
    (case m1 => refine' Cy.MAt.mk ?q1 ?q2 ?q3 ?q4 ?q5; (case q1 => k_is); (case q2 => k_is); (case q3 => k_is); (case q4 => k_is); (case q5 => k_is))
    (case m2 => refine' Cy.MAt.mk ?q1 ?q2 ?q3 ?q4 ?q5; (case q1 => k_is); (case q2 => k_is); (case q3 => k_is); (case q4 => k_is); (case q5 => k_is))
    (case m3 => refine' Cy.MAt.mk ?q1 ?q2 ?q3 ?q4 ?q5; (case q1 => k_is); (case q2 => k_is); (case q3 => k_is); (case q4 => k_is); (case q5 => k_is))
    (case m4 => refine' Cy.MAt.mk ?q1 ?q2 ?q3 ?q4 ?q5; (case q1 => k_is); (case q2 => k_is); (case q3 => k_is); (case q4 => k_is); (case q5 => k_is))
    (case m5 => refine' Cy.MAt.mk ?q1 ?q2 ?q3 ?q4 ?q5; (case q1 => k_is); (case q2 => k_is); (case q3 => k_is); (case q4 => k_is); (case q5 => k_is))
    (case f0 => refine' Cy.FAt.mk ?q1 ?q2 ?q3 ?q4; (case q1 => k_is); (case q2 => k_is); (case q3 => k_is); (case q4 => k_is))
    (case f1 => refine' Cy.FAt.mk ?q1 ?q2 ?q3 ?q4; (case q1 => k_is); (case q2 => k_is); (case q3 => k_is); (case q4 => k_is))
    (case f2 => refine' Cy.FAt.mk ?q1 ?q2 ?q3 ?q4; (case q1 => k_is); (case q2 => k_is); (case q3 => k_is); (case q4 => k_is))
    (case f3 => refine' Cy.FAt.mk ?q1 ?q2 ?q3 ?q4; (case q1 => k_is); (case q2 => k_is); (case q3 => k_is); (case q4 => k_is))
    (case f4 => refine' Cy.FAt.mk ?q1 ?q2 ?q3 ?q4; (case q1 => k_is); (case q2 => k_is); (case q3 => k_is); (case q4 => k_is))
    (case f5 => refine' Cy.FAt.mk ?q1 ?q2 ?q3 ?q4; (case q1 => k_is); (case q2 => k_is); (case q3 => k_is); (case q4 => k_is))
    (case f6 => refine' Cy.FAt.mk ?q1 ?q2 ?q3 ?q4; (case q1 => k_is); (case q2 => k_is); (case q3 => k_is); (case q4 => k_is))
    (case f7 => refine' Cy.FAt.mk ?q1 ?q2 ?q3 ?q4; (case q1 => k_is); (case q2 => k_is); (case q3 => k_is); (case q4 => k_is))
    (case f8 => refine' Cy.FAt.mk ?q1 ?q2 ?q3 ?q4; (case q1 => k_is); (case q2 => k_is); (case q3 => k_is); (case q4 => k_is))
    (case f9 => refine' Cy.FAt.mk ?q1 ?q2 ?q3 ?q4; (case q1 => k_is); (case q2 => k_is); (case q3 => k_is); (case q4 => k_is))
    (case f10 => refine' Cy.FAt.mk ?q1 ?q2 ?q3 ?q4; (case q1 => k_is); (case q2 => k_is); (case q3 => k_is); (case q4 => k_is))
    (case f11 => refine' Cy.FAt.mk ?q1 ?q2 ?q3 ?q4; (case q1 => k_is); (case q2 => k_is); (case q3 => k_is); (case q4 => k_is))
    (case f12 => refine' Cy.FAt.mk ?q1 ?q2 ?q3 ?q4; (case q1 => k_is); (case q2 => k_is); (case q3 => k_is); (case q4 => k_is))
    (case f13 => refine' Cy.FAt.mk ?q1 ?q2 ?q3 ?q4; (case q1 => k_is); (case q2 => k_is); (case q3 => k_is); (case q4 => k_is))
    (case f14 => refine' Cy.FAt.mk ?q1 ?q2 ?q3 ?q4; (case q1 => k_is); (case q2 => k_is); (case q3 => k_is); (case q4 => k_is))
    (case f15 => refine' Cy.FAt.mk ?q1 ?q2 ?q3 ?q4; (case q1 => k_is); (case q2 => k_is); (case q3 => k_is); (case q4 => k_is))
    (case f16 => refine' Cy.FAt.mk ?q1 ?q2 ?q3 ?q4; (case q1 => k_is); (case q2 => k_is); (case q3 => k_is); (case q4 => k_is))
    (case f17 => refine' Cy.FAt.mk ?q1 ?q2 ?q3 ?q4; (case q1 => k_is); (case q2 => k_is); (case q3 => k_is); (case q4 => k_is))
    (case f18 => refine' Cy.FAt.mk ?q1 ?q2 ?q3 ?q4; (case q1 => k_is); (case q2 => k_is); (case q3 => k_is); (case q4 => k_is))
    (case f19 => refine' Cy.FAt.mk ?q1 ?q2 ?q3 ?q4; (case q1 => k_is); (case q2 => k_is); (case q3 => k_is); (case q4 => k_is))
    (case f20 => refine' Cy.FAt.mk ?q1 ?q2 ?q3 ?q4; (case q1 => k_is); (case q2 => k_is); (case q3 => k_is); (case q4 => k_is))
    (case f21 => refine' Cy.FAt.mk ?q1 ?q2 ?q3 ?q4; (case q1 => k_is); (case q2 => k_is); (case q3 => k_is); (case q4 => k_is))
    (case f22 => refine' Cy.FAt.mk ?q1 ?q2 ?q3 ?q4; (case q1 => k_is); (case q2 => k_is); (case q3 => k_is); (case q4 => k_is))
    (case f23 => refine' Cy.FAt.mk ?q1 ?q2 ?q3 ?q4; (case q1 => k_is); (case q2 => k_is); (case q3 => k_is); (case q4 => k_is))
    (case f24 => refine' Cy.FAt.mk ?q1 ?q2 ?q3 ?q4; (case q1 => k_is); (case q2 => k_is); (case q3 => k_is); (case q4 => k_is))
    (case f25 => refine' Cy.FAt.mk ?q1 ?q2 ?q3 ?q4; (case q1 => k_is); (case q2 => k_is); (case q3 => k_is); (case q4 => k_is))
    (case f26 => refine' Cy.FAt.mk ?q1 ?q2 ?q3 ?q4; (case q1 => k_is); (case q2 => k_is); (case q3 => k_is); (case q4 => k_is))
    (case f27 => refine' Cy.FAt.mk ?q1 ?q2 ?q3 ?q4; (case q1 => k_is); (case q2 => k_is); (case q3 => k_is); (case q4 => k_is))
    (case f28 => refine' Cy.FAt.mk ?q1 ?q2 ?q3 ?q4; (case q1 => k_is); (case q2 => k_is); (case q3 => k_is); (case q4 => k_is))
    (case c1 => refine' Cy.IAt.mk ?q1; (case q1 => k_is))
    (case c2 => refine' Cy.IAt.mk ?q1; (case q1 => k_is))
    (case c3 => refine' Cy.IAt.mk ?q1; (case q1 => k_is))
    (case c4 => refine' Cy.IAt.mk ?q1; (case q1 => k_is))
    (case c5 => refine' Cy.IAt.mk ?q1; (case q1 => k_is))
    (case c6 => refine' Cy.IAt.mk ?q1; (case q1 => k_is))
    (case c7 => refine' Cy.IAt.mk ?q1; (case q1 => k_is))
    (case c8 => refine' Cy.IAt.mk ?q1; (case q1 => k_is))
    (case d0 => refine' Cy.IAt.mk ?q1; (case q1 => k_is))
    (case d1 => refine' Cy.IAt.mk ?q1; (case q1 => k_is))
    (case d2 => refine' Cy.IAt.mk ?q1; (case q1 => k_is))
    (case d3 => refine' Cy.IAt.mk ?q1; (case q1 => k_is))
    (case d4 => refine' Cy.IAt.mk ?q1; (case q1 => k_is))
    (case d5 => refine' Cy.IAt.mk ?q1; (case q1 => k_is))
    (case d6 => refine' Cy.IAt.mk ?q1; (case q1 => k_is))
    (case d7 => refine' Cy.IAt.mk ?q1; (case q1 => k_is))
    (case d8 => refine' Cy.IAt.mk ?q1; (case q1 => k_is))
    (case d9 => refine' Cy.IAt.mk ?q1; (case q1 => k_is))
    (case n0 => k_is)
    (case n1 => k_is)
    (case n2 => k_is)
    (case n3 => k_is)
    (case n4 => k_is)
    (case n5 => k_is)
    (case n6 => k_is)
    (case n7 => k_is)
    (case z0 => k_is)
    (case z1 => k_is)
    (case z2 => k_is)
    (case z3 => k_is)
    (case z4 => k_is)
    (case z5 => k_is)
    (case z6 => k_is)
    (case z7 => k_is)
    (case tb => refine' Cy.TAt.mk ?q1 ?q2; (case q1 => k_is); (case q2 => k_is))
  case S =>
    intro K H xs a hO hwi hask hx
    cases hx with
    | cons h1 h2 =>
      cases h2
      cases h1 with
      | lst hs ha =>
        have e := L2.ints_dw a.1 _ ha
        subst e
        have q : ((Codec.inLen 0 500 a.1 && a.1.all (Codec.inInt 0 4294967295)) && true) = true := hwi
        rw [Bool.and_eq_true, Bool.and_eq_true] at q
        refine ⟨_, a.1, rfl, hs, fun z hz => Codec.inInt_iff.mp (List.all_eq_true.mp q.1.2 z hz), (Codec.inNat_iff.mp q.1.1).2, hask, fun H' p hp => .lst (L2.SqL.of hp) (L2.dw_ints _)⟩
