import PyProof.Rows.All
import Wide.All
import OpenK.AllK
import Wide.FinOn
import Open.SpecLaws
import KE.OsGo
import KE.OsArith
import HandS.ForSpec
import HandS.Comp
import HandS.Dict
import HandS.Iter
import HandS.WordsDict
import HandS.Walk
import HandS.More
import HandS.WideBits
import HandS.Text
import PySem.Challenge.RW_whatcanbedesk_s01_answers
set_option Elab.async false
set_option linter.all false
namespace Mth
open Kp371

/-! ### bounds -/
structure OkD (m : Nat) (d : Deed) : Prop where
  needs : d.needs < 2 ^ m
  makes : d.makes < 2 ^ m
  so : d.so &&& d.needs = d.so
  thus : d.thus &&& d.makes = d.thus

theorem OkD.thus_lt {m : Nat} {d : Deed} (h : OkD m d) : d.thus < 2 ^ m := by
  rw [← h.thus]
  exact Nat.and_lt_two_pow _ h.makes

structure Good (w : World) : Prop where
  lo : 2 ≤ w.m
  hi : w.m ≤ 5
  nd : w.deeds.length ≤ 6
  ne : w.events.length ≤ 3
  deeds : ∀ d ∈ w.deeds, OkD w.m d
  events : ∀ d ∈ w.events, OkD w.m d
  now : w.now < 2 ^ w.m

theorem done_lt {m s : Nat} {d : Deed} (h : OkD m d) (hs : s < 2 ^ m) : done_ s d < 2 ^ m := by
  unfold done_
  exact Nat.or_lt_two_pow (Nat.lt_of_le_of_lt (Nat.sub_le _ _) hs) h.thus_lt

theorem foldl_lt {m : Nat} : ∀ (l : List Deed) (s : Nat), (∀ d ∈ l, OkD m d) → s < 2 ^ m → l.foldl (fun (s : Nat) (e : Deed) => if able s e then done_ s e else s) s < 2 ^ m
  | [], _, _, hs => hs
  | d :: l, s, h, hs => by
    rw [List.foldl_cons]
    refine foldl_lt l _ (fun e he => h e (List.mem_cons_of_mem _ he)) ?_
    split
    · exact done_lt (h d List.mem_cons_self) hs
    · exact hs

theorem happen_lt {w : World} (g : Good w) {s : Nat} (hs : s < 2 ^ w.m) : happen w s < 2 ^ w.m := foldl_lt _ _ g.events hs

theorem step_lt {w : World} (g : Good w) {s i t : Nat} (hs : s < 2 ^ w.m) (h : stepBy w s i = some t) : t < 2 ^ w.m := by
  unfold stepBy at h
  split at h
  · rename_i d hd
    split at h
    · cases h
      exact happen_lt g (done_lt (g.deeds d (List.mem_of_getElem? hd)) hs)
    · cases h
  · split at h
    · cases h
      exact happen_lt g hs
    · cases h

theorem step_le {w : World} {s i t : Nat} (h : stepBy w s i = some t) : i ≤ w.deeds.length := by
  unfold stepBy at h
  split at h
  · rename_i d hd
    have := (List.getElem?_eq_some_iff.mp hd).1
    omega
  · split at h
    · omega
    · cases h

/-! ### rows -/
def run (w : World) : Nat → List Nat → Option Nat
  | s, [] => some s
  | s, i :: l => match stepBy w s i with
    | none => none
    | some t => run w t l

theorem run_cons {w : World} {s i : Nat} {l : List Nat} {u : Nat} : run w s (i :: l) = some u ↔ ∃ t, stepBy w s i = some t ∧ run w t l = some u := by
  show (match stepBy w s i with | none => none | some t => run w t l) = some u ↔ _
  cases h : stepBy w s i with
  | none => simp
  | some t => simp

theorem run_append {w : World} : ∀ (l r : List Nat) (s u : Nat), run w s (l ++ r) = some u ↔ ∃ t, run w s l = some t ∧ run w t r = some u
  | [], r, s, u => by simp [run]
  | i :: l, r, s, u => by
    rw [List.cons_append, run_cons]
    constructor
    · rintro ⟨t, h1, h2⟩
      obtain ⟨v, h3, h4⟩ := (run_append l r t u).mp h2
      exact ⟨v, run_cons.mpr ⟨t, h1, h3⟩, h4⟩
    · rintro ⟨v, h3, h4⟩
      obtain ⟨t, h1, h2⟩ := run_cons.mp h3
      exact ⟨t, h1, (run_append l r t u).mpr ⟨v, h2, h4⟩⟩

theorem run_snoc {w : World} {l : List Nat} {s i u : Nat} : run w s (l ++ [i]) = some u ↔ ∃ t, run w s l = some t ∧ stepBy w t i = some u := by
  rw [run_append]
  constructor
  · rintro ⟨t, h1, h2⟩
    obtain ⟨v, h3, h4⟩ := run_cons.mp h2
    cases h4
    exact ⟨t, h1, h3⟩
  · rintro ⟨t, h1, h2⟩
    exact ⟨t, h1, run_cons.mpr ⟨u, h2, rfl⟩⟩

theorem run_lt {w : World} (g : Good w) : ∀ (l : List Nat) (s u : Nat), s < 2 ^ w.m → run w s l = some u → u < 2 ^ w.m
  | [], s, u, hs, h => by cases h; exact hs
  | i :: l, s, u, hs, h => by
    obtain ⟨t, h1, h2⟩ := run_cons.mp h
    exact run_lt g l t u (step_lt g hs h1) h2

def Reach (w : World) (s t : Nat) : Prop := ∃ l, run w s l = some t

theorem Reach.refl {w : World} (s : Nat) : Reach w s s := ⟨[], rfl⟩
theorem Reach.trans {w : World} {s t u : Nat} (h : Reach w s t) (k : Reach w t u) : Reach w s u := by
  obtain ⟨l, hl⟩ := h
  obtain ⟨r, hr⟩ := k
  exact ⟨l ++ r, (run_append l r s u).mpr ⟨t, hl, hr⟩⟩
theorem Reach.step {w : World} {s i t : Nat} (h : stepBy w s i = some t) : Reach w s t := ⟨[i], run_cons.mpr ⟨t, h, rfl⟩⟩

/-! ### levels -/
def lv (w : World) (s : Nat) : Nat → List Nat
  | 0 => [s]
  | k + 1 => wider w (lv w s k)

theorem mem_nexts {w : World} {s t : Nat} : t ∈ nexts w s ↔ ∃ i, stepBy w s i = some t := by
  unfold nexts choices
  rw [List.mem_filterMap]
  constructor
  · rintro ⟨i, _, h⟩; exact ⟨i, h⟩
  · rintro ⟨i, h⟩; exact ⟨i, List.mem_range.mpr (Nat.lt_succ_of_le (step_le h)), h⟩

theorem mem_wider {w : World} {l : List Nat} {t : Nat} : t ∈ wider w l ↔ t < 2 ^ w.m ∧ (t ∈ l ∨ ∃ u ∈ l, ∃ i, stepBy w u i = some t) := by
  unfold wider states
  rw [List.mem_filter, List.mem_range, List.contains_iff_mem, List.mem_append, List.mem_flatMap]
  simp only [mem_nexts]

theorem mem_lv {w : World} (g : Good w) {s : Nat} (hs : s < 2 ^ w.m) : ∀ (k t : Nat), t ∈ lv w s k ↔ ∃ l, l.length ≤ k ∧ run w s l = some t
  | 0, t => by
    unfold lv
    rw [List.mem_singleton]
    constructor
    · rintro rfl; exact ⟨[], Nat.le_refl _, rfl⟩
    · rintro ⟨l, hl, hr⟩
      cases l with
      | nil => cases hr; rfl
      | cons _ _ => simp at hl
  | k + 1, t => by
    show t ∈ wider w (lv w s k) ↔ _
    rw [mem_wider]
    constructor
    · rintro ⟨_, h | ⟨u, hu, i, hi⟩⟩
      · obtain ⟨l, h1, h2⟩ := (mem_lv g hs k t).mp h
        exact ⟨l, Nat.le_succ_of_le h1, h2⟩
      · obtain ⟨l, h1, h2⟩ := (mem_lv g hs k u).mp hu
        exact ⟨l ++ [i], by simpa using h1, run_snoc.mpr ⟨u, h2, hi⟩⟩
    · rintro ⟨l, h1, h2⟩
      refine ⟨run_lt g l s t hs h2, ?_⟩
      by_cases c : l.length ≤ k
      · exact .inl ((mem_lv g hs k t).mpr ⟨l, c, h2⟩)
      · rcases List.eq_nil_or_concat l with e | ⟨r, i, e⟩
        · subst e; simp at c
        · subst e
          rw [List.concat_eq_append] at h2 h1
          obtain ⟨u, h3, h4⟩ := run_snoc.mp h2
          exact .inr ⟨u, (mem_lv g hs k u).mpr ⟨r, by simpa using h1, h3⟩, i, h4⟩

/-! ### filters of a range -/
theorem range_filter_eq : ∀ (n s : Nat), (List.range n).filter (fun t => t == s) = if s < n then [s] else []
  | 0, s => by simp
  | n + 1, s => by
    rw [List.range_succ, List.filter_append, range_filter_eq n s]
    by_cases h : s < n
    · have h2 : (n == s) = false := by simp; omega
      rw [if_pos h, if_pos (by omega)]
      simp [h2]
    · rw [if_neg h]
      by_cases h3 : n = s
      · subst h3
        rw [if_pos (Nat.lt_succ_self _)]
        simp
      · have h2 : (n == s) = false := by simp [h3]
        rw [if_neg (by omega)]
        simp [h2]

theorem filter_same_of_length {p q : Nat → Bool} {l : List Nat} (h : ∀ t ∈ l, p t = true → q t = true) (e : (l.filter p).length = (l.filter q).length) : l.filter p = l.filter q := by
  have e2 : l.filter p = (l.filter q).filter p := by
    rw [List.filter_filter]
    refine List.filter_congr fun t ht => ?_
    cases hp : p t with
    | false => simp
    | true => simp [h t ht hp]
  have sb : List.Sublist (l.filter p) (l.filter q) := by
    rw [e2]; exact List.filter_sublist
  exact sb.eq_of_length e

theorem lv_filter {w : World} {s : Nat} (hs : s < 2 ^ w.m) : ∀ k, lv w s k = (states w).filter fun t => (lv w s k).contains t
  | 0 => by
    have e : (fun t => (lv w s 0).contains t) = fun t => t == s := by
      funext t
      rw [Bool.eq_iff_iff, List.contains_iff_mem]
      simp [lv]
    rw [e]
    unfold states
    rw [range_filter_eq, if_pos hs]
    rfl
  | k + 1 => by
    show wider w (lv w s k) = (states w).filter fun t => (wider w (lv w s k)).contains t
    conv => lhs; unfold wider
    refine List.filter_congr fun t ht => ?_
    have ht' : t < 2 ^ w.m := List.mem_range.mp ht
    rw [Bool.eq_iff_iff, List.contains_iff_mem, List.contains_iff_mem, mem_wider, List.mem_append, List.mem_flatMap]
    simp only [mem_nexts]
    exact ⟨fun h => ⟨ht', h⟩, fun h => h.2⟩

theorem lv_sub {w : World} {s : Nat} (hs : s < 2 ^ w.m) (k : Nat) : ∀ t ∈ lv w s k, t ∈ lv w s (k + 1) := fun t ht => by
  refine mem_wider.mpr ⟨?_, .inl ht⟩
  rw [lv_filter hs k] at ht
  exact List.mem_range.mp (List.mem_filter.mp ht).1

theorem lv_le {w : World} {s : Nat} (hs : s < 2 ^ w.m) (k : Nat) : (lv w s k).length ≤ 2 ^ w.m := by
  rw [lv_filter hs k]
  refine Nat.le_trans (List.length_filter_le _ _) ?_
  simp [states]

theorem lv_stable {w : World} {s : Nat} (hs : s < 2 ^ w.m) {k : Nat} (e : (lv w s (k + 1)).length = (lv w s k).length) : lv w s (k + 1) = lv w s k := by
  have a := lv_filter hs k
  have b := lv_filter hs (k + 1)
  have e2 : ((states w).filter fun t => (lv w s k).contains t).length = ((states w).filter fun t => (lv w s (k + 1)).contains t).length := by
    rw [← a, ← b]; exact e.symm
  have := filter_same_of_length (l := states w) (fun t _ h => by
    rw [List.contains_iff_mem] at h ⊢
    exact lv_sub hs k t h) e2
  rw [a, b]; exact this.symm

theorem lv_grow {w : World} {s : Nat} (hs : s < 2 ^ w.m) (k : Nat) : (lv w s k).length ≤ (lv w s (k + 1)).length := by
  have a := lv_filter hs k
  have b := lv_filter hs (k + 1)
  have e2 : lv w s k = (lv w s (k + 1)).filter fun t => (lv w s k).contains t := by
    conv => rhs; rw [b]
    rw [List.filter_filter]
    conv => lhs; rw [a]
    refine List.filter_congr fun t ht => ?_
    cases hp : (lv w s k).contains t with
    | false => simp
    | true =>
      have := lv_sub hs k t (List.contains_iff_mem.mp hp)
      simp [this]
  rw [e2]
  exact List.length_filter_le _ _

theorem lv_stable_on {w : World} {s : Nat} {k : Nat} (e : lv w s (k + 1) = lv w s k) : ∀ j, lv w s (k + j) = lv w s k
  | 0 => rfl
  | j + 1 => by
    show wider w (lv w s (k + j)) = _
    rw [lv_stable_on e j]
    exact e

theorem lv_stable_all {w : World} (g : Good w) {s : Nat} (hs : s < 2 ^ w.m) {k : Nat} (e : lv w s (k + 1) = lv w s k) (t : Nat) : t ∈ lv w s k ↔ Reach w s t := by
  constructor
  · intro h
    obtain ⟨l, _, h2⟩ := (mem_lv g hs k t).mp h
    exact ⟨l, h2⟩
  · rintro ⟨l, h⟩
    have : t ∈ lv w s (k + l.length) := (mem_lv g hs _ t).mpr ⟨l, by omega, h⟩
    rw [lv_stable_on e] at this
    exact this

/-! ### reach -/
theorem goReach_lv {w : World} {s : Nat} (hs : s < 2 ^ w.m) : ∀ (f k : Nat), k + 1 ≤ (lv w s k).length → 2 ^ w.m ≤ k + f → ∃ j, goReach w f (lv w s k) = lv w s j ∧ lv w s (j + 1) = lv w s j
  | 0, k, h1, h2 => by
    have := lv_le hs k
    omega
  | f + 1, k, h1, h2 => by
    unfold goReach
    show ∃ j, (if (lv w s (k + 1)).length = (lv w s k).length then lv w s (k + 1) else goReach w f (lv w s (k + 1))) = lv w s j ∧ _
    by_cases c : (lv w s (k + 1)).length = (lv w s k).length
    · rw [if_pos c]
      exact ⟨k, lv_stable hs c, lv_stable hs c⟩
    · rw [if_neg c]
      have := lv_grow hs k
      exact goReach_lv hs f (k + 1) (by omega) (by omega)

theorem reach_lv {w : World} {s : Nat} (hs : s < 2 ^ w.m) : ∃ j, reach w s = lv w s j ∧ lv w s (j + 1) = lv w s j :=
  goReach_lv hs (2 ^ w.m) 0 (Nat.le_refl _) (by omega)

/-- what the specification's reach holds: just what some row leads to -/
theorem mem_reach {w : World} (g : Good w) {s : Nat} (hs : s < 2 ^ w.m) {t : Nat} : t ∈ reach w s ↔ Reach w s t := by
  obtain ⟨j, e1, e2⟩ := reach_lv hs
  rw [e1]
  exact lv_stable_all g hs e2 t

/-- any test that tells just what can come gives the specification's reach -/
theorem reach_filter {w : World} (g : Good w) {s : Nat} (hs : s < 2 ^ w.m) {p : Nat → Bool} (hp : ∀ t, t < 2 ^ w.m → (p t = true ↔ Reach w s t)) : reach w s = (List.range (2 ^ w.m)).filter p := by
  obtain ⟨j, e1, e2⟩ := reach_lv hs
  rw [e1, lv_filter hs j]
  refine List.filter_congr fun t ht => ?_
  have ht' : t < 2 ^ w.m := List.mem_range.mp ht
  rw [Bool.eq_iff_iff, List.contains_iff_mem, lv_stable_all g hs e2, hp t ht']

/-! ### fewest -/
theorem lv_mono {w : World} {s : Nat} (hs : s < 2 ^ w.m) {k : Nat} : ∀ (j : Nat) {t : Nat}, t ∈ lv w s k → t ∈ lv w s (k + j)
  | 0, _, h => h
  | j + 1, _, h => lv_sub hs _ _ (lv_mono hs j h)

structure Few (w : World) (s : Nat) (f : Nat → Bool) (k : Nat) : Prop where
  is : ∃ l t, l.length = k ∧ run w s l = some t ∧ f t = true
  least : ∀ l t, run w s l = some t → f t = true → k ≤ l.length

theorem Few.uniq {w : World} {s : Nat} {f : Nat → Bool} {k k' : Nat} (a : Few w s f k) (b : Few w s f k') : k = k' := by
  obtain ⟨l, t, h1, h2, h3⟩ := a.is
  obtain ⟨l', t', h1', h2', h3'⟩ := b.is
  have := a.least l' t' h2' h3'
  have := b.least l t h2 h3
  omega

theorem goFewest_spec {w : World} (g : Good w) {s : Nat} {f : Nat → Bool} (hs : s < 2 ^ w.m) : ∀ (n k : Nat), k + 1 ≤ (lv w s k).length → 2 ^ w.m + 1 ≤ k + n → (∀ l t, run w s l = some t → f t = true → k ≤ l.length) →
    match goFewest w f n k (lv w s k) with
    | some j => Few w s f j
    | none => ∀ t, Reach w s t → f t = false
  | 0, k, h1, h2, _ => by
    have := lv_le hs k
    omega
  | n + 1, k, h1, h2, h3 => by
    unfold goFewest
    by_cases c : (lv w s k).any f = true
    · rw [if_pos c]
      show Few w s f k
      refine ⟨?_, h3⟩
      obtain ⟨t, ht, hf⟩ := List.any_eq_true.mp c
      obtain ⟨l, hl, hr⟩ := (mem_lv g hs k t).mp ht
      have := h3 l t hr hf
      exact ⟨l, t, by omega, hr, hf⟩
    · rw [if_neg c]
      show match (if (lv w s (k + 1)).length = (lv w s k).length then none else goFewest w f n (k + 1) (lv w s (k + 1))) with | some j => Few w s f j | none => ∀ t, Reach w s t → f t = false
      by_cases d : (lv w s (k + 1)).length = (lv w s k).length
      · rw [if_pos d]
        intro t ht
        have : t ∈ lv w s k := (lv_stable_all g hs (lv_stable hs d) t).mpr ht
        cases hf : f t with
        | false => rfl
        | true => exact absurd (List.any_eq_true.mpr ⟨t, this, hf⟩) c
      · rw [if_neg d]
        have := lv_grow hs k
        refine goFewest_spec g hs n (k + 1) (by omega) (by omega) fun l t hr hf => ?_
        rcases Nat.lt_or_ge k l.length with h | h
        · exact h
        · exact absurd (List.any_eq_true.mpr ⟨t, (mem_lv g hs k t).mpr ⟨l, h, hr⟩, hf⟩) c

theorem fewest_spec {w : World} (g : Good w) {s : Nat} (f : Nat → Bool) (hs : s < 2 ^ w.m) :
    match fewest w s f with
    | some j => Few w s f j
    | none => ∀ t, Reach w s t → f t = false :=
  goFewest_spec g hs (2 ^ w.m + 1) 0 (Nat.le_refl _) (by omega) (fun _ _ _ _ => Nat.zero_le _)

theorem fewest_some {w : World} (g : Good w) {s : Nat} {f : Nat → Bool} (hs : s < 2 ^ w.m) {k : Nat} : fewest w s f = some k ↔ Few w s f k := by
  have h := fewest_spec g f hs
  constructor
  · intro e
    rw [e] at h
    exact h
  · intro a
    cases e : fewest w s f with
    | none =>
      rw [e] at h
      obtain ⟨l, t, h1, h2, h3⟩ := a.is
      rw [h t ⟨l, h2⟩] at h3
      cases h3
    | some j =>
      rw [e] at h
      rw [Few.uniq h a]

theorem fewest_none {w : World} (g : Good w) {s : Nat} {f : Nat → Bool} (hs : s < 2 ^ w.m) : fewest w s f = none ↔ ∀ t, Reach w s t → f t = false := by
  have h := fewest_spec g f hs
  constructor
  · intro e
    rw [e] at h
    exact h
  · intro a
    cases e : fewest w s f with
    | none => rfl
    | some j =>
      rw [e] at h
      obtain ⟨l, t, h1, h2, h3⟩ := h.is
      rw [a t ⟨l, h2⟩] at h3
      cases h3

/-! ### the shortest row -/
def lexle : List Nat → List Nat → Prop
  | [], _ => True
  | _ :: _, [] => False
  | a :: l, b :: r => a < b ∨ (a = b ∧ lexle l r)

theorem lexle_refl : ∀ l, lexle l l
  | [] => trivial
  | _ :: l => .inr ⟨rfl, lexle_refl l⟩

theorem lexle_anti : ∀ l r, lexle l r → lexle r l → l = r
  | [], [], _, _ => rfl
  | [], _ :: _, _, h => h.elim
  | _ :: _, [], h, _ => h.elim
  | a :: l, b :: r, h, k => by
    rcases h with h | ⟨e, h⟩
    · rcases k with k | ⟨e, k⟩
      · omega
      · omega
    · subst e
      rcases k with k | ⟨_, k⟩
      · omega
      · rw [lexle_anti l r h k]

/-- l is the first of the shortest rows from s to something of which f is true -/
structure Best (w : World) (s : Nat) (f : Nat → Bool) (l : List Nat) : Prop where
  is : ∃ t, run w s l = some t ∧ f t = true
  least : ∀ r t, run w s r = some t → f t = true → l.length < r.length ∨ (l.length = r.length ∧ lexle l r)

theorem Best.few {w : World} {s : Nat} {f : Nat → Bool} {l : List Nat} (b : Best w s f l) : Few w s f l.length := by
  refine ⟨?_, fun r t hr hf => ?_⟩
  · obtain ⟨t, h1, h2⟩ := b.is
    exact ⟨l, t, rfl, h1, h2⟩
  · rcases b.least r t hr hf with h | h
    · omega
    · omega

theorem Best.uniq {w : World} {s : Nat} {f : Nat → Bool} {l r : List Nat} (a : Best w s f l) (b : Best w s f r) : l = r := by
  obtain ⟨t, h1, h2⟩ := a.is
  obtain ⟨u, h3, h4⟩ := b.is
  rcases a.least r u h3 h4 with h | ⟨e, h⟩
  · rcases b.least l t h1 h2 with k | ⟨e, _⟩
    · omega
    · omega
  · rcases b.least l t h1 h2 with k | ⟨_, k⟩
    · omega
    · exact lexle_anti _ _ h k

theorem find_range {n : Nat} {p : Nat → Bool} {i : Nat} (hi : i < n) (hp : p i = true) : ∃ j, (List.range n).find? p = some j ∧ p j = true ∧ ∀ k, k < n → p k = true → j ≤ k := by
  cases h : (List.range n).find? p with
  | none =>
    rw [List.find?_eq_none] at h
    exact absurd hp (h i (List.mem_range.mpr hi))
  | some j =>
    refine ⟨j, rfl, List.find?_some h, fun k hk hpk => ?_⟩
    rw [List.find?_range_eq_some] at h
    rcases Nat.lt_or_ge k j with c | c
    · have := h.2.2 k c
      rw [hpk] at this
      cases this
    · exact c

/-- whether choice i leads on to where k steps are the fewest -/
def nice (w : World) (f : Nat → Bool) (k s : Nat) (i : Nat) : Bool := match stepBy w s i with
  | none => false
  | some t => fewest w t f == some k
theorem goRow_succ {w : World} {f : Nat → Bool} {k s j : Nat} (h : (List.range (w.deeds.length + 1)).find? (nice w f k s) = some j) : goRow w f (k + 1) s = j :: goRow w f k ((stepBy w s j).getD s) := by
  have e : goRow w f (k + 1) s = match (List.range (w.deeds.length + 1)).find? (nice w f k s) with
    | none => []
    | some i => i :: goRow w f k ((stepBy w s i).getD s) := rfl
  rw [e, h]

theorem goRow_best {w : World} (g : Good w) {f : Nat → Bool} : ∀ (k s : Nat), s < 2 ^ w.m → Few w s f k → Best w s f (goRow w f k s)
  | 0, s, hs, h => by
    obtain ⟨l, t, h1, h2, h3⟩ := h.is
    cases l with
    | cons _ _ => simp at h1
    | nil =>
      cases h2
      refine ⟨⟨s, rfl, h3⟩, fun r t hr hf => ?_⟩
      cases r with
      | nil => exact .inr ⟨rfl, trivial⟩
      | cons _ _ => exact .inl (by simp [goRow])
  | k + 1, s, hs, h => by
    -- a choice is good just if from behind it k steps are the fewest
    have key : ∀ i t, stepBy w s i = some t → (∃ r u, r.length = k ∧ run w t r = some u ∧ f u = true) → Few w t f k := fun i t hi hx =>
      ⟨hx, fun r u hr hf => by
        have := h.least (i :: r) u (run_cons.mpr ⟨t, hi, hr⟩) hf
        simp at this
        omega⟩
    obtain ⟨l, u, h1, h2, h3⟩ := h.is
    cases l with
    | nil => simp at h1
    | cons i l =>
      obtain ⟨t, hi, hr⟩ := run_cons.mp h2
      have hl : l.length = k := by simpa using h1
      have ft := key i t hi ⟨l, u, hl, hr, h3⟩
      have test : ∀ j, nice w f k s j = true ↔ ∃ t, stepBy w s j = some t ∧ Few w t f k := fun j => by
        unfold nice
        cases e : stepBy w s j with
        | none => simp
        | some t =>
          simp only [beq_iff_eq, Option.some.injEq, exists_eq_left']
          exact fewest_some g (step_lt g hs e)
      obtain ⟨j, ej, hj, least⟩ := find_range (n := w.deeds.length + 1) (p := nice w f k s) (Nat.lt_succ_of_le (step_le hi)) ((test i).mpr ⟨t, hi, ft⟩)
      obtain ⟨t', hj', fj⟩ := (test j).mp hj
      have e : goRow w f (k + 1) s = j :: goRow w f k t' := by
        rw [goRow_succ ej, hj']
        rfl
      have b := goRow_best g k t' (step_lt g hs hj') fj
      rw [e]
      refine ⟨?_, fun r u hr hf => ?_⟩
      · obtain ⟨u, h1, h2⟩ := b.is
        exact ⟨u, run_cons.mpr ⟨t', hj', h1⟩, h2⟩
      · have len : (goRow w f k t').length = k := Few.uniq b.few fj
        have := h.least r u hr hf
        rcases Nat.lt_or_ge (k + 1) r.length with c | c
        · left; simp [len]; exact c
        · right
          cases r with
          | nil => simp at this
          | cons i r =>
            have hlr : r.length = k := by simp at c this; omega
            refine ⟨by simp [len, hlr], ?_⟩
            obtain ⟨t2, hi2, hr2⟩ := run_cons.mp hr
            have f2 := key i t2 hi2 ⟨r, u, hlr, hr2, hf⟩
            have le := least i (Nat.lt_succ_of_le (step_le hi2)) ((test i).mpr ⟨t2, hi2, f2⟩)
            rcases Nat.lt_or_ge j i with q | q
            · exact .inl q
            · have : j = i := by omega
              subst this
              rw [hj'] at hi2
              cases hi2
              refine .inr ⟨rfl, ?_⟩
              rcases b.least r u hr2 hf with z | z
              · omega
              · exact z.2

theorem shortest_some {w : World} (g : Good w) {s : Nat} {f : Nat → Bool} (hs : s < 2 ^ w.m) {l : List Nat} : shortest w s f = some l ↔ Best w s f l := by
  unfold shortest
  constructor
  · intro e
    cases h : fewest w s f with
    | none => rw [h] at e; cases e
    | some k =>
      rw [h] at e
      cases e
      exact goRow_best g k s hs ((fewest_some g hs).mp h)
  · intro b
    rw [(fewest_some g hs).mpr b.few]
    exact congrArg some (Best.uniq (goRow_best g _ s hs b.few) b)

theorem shortest_none {w : World} (g : Good w) {s : Nat} {f : Nat → Bool} (hs : s < 2 ^ w.m) : shortest w s f = none ↔ ∀ t, Reach w s t → f t = false := by
  unfold shortest
  rw [Option.map_eq_none_iff, fewest_none g hs]
end Mth

namespace Mth
/-! ### the request: calls one behind another -/
/-- how a call stands in the list -/
def encC (c : Int × List Int) : List Int := c.1 :: (c.2.length : Int) :: (c.2 ++ [0])
def encs (cs : List (Int × List Int)) : List Int := cs.flatMap encC
def wide (c : Int × List Int) : List (List Int) := [c.1 :: c.2]

theorem rows_len : ∀ (k : Nat) (r : List Int) (xs : List (List Int)) (u : List Int), PyFlat.rows k r = some (xs, u) → xs.length = k
  | 0, r, xs, u, h => by
    cases h
    rfl
  | k + 1, r, xs, u, h => by
    unfold PyFlat.rows at h
    cases e : PyFlat.row r with
    | none => rw [e] at h; cases h
    | some q =>
      obtain ⟨x, s⟩ := q
      rw [e] at h
      dsimp only at h
      cases e2 : PyFlat.rows k s with
      | none => rw [e2] at h; cases h
      | some q2 =>
        obtain ⟨ys, t⟩ := q2
        rw [e2] at h
        cases h
        simp [rows_len k s ys _ e2]

/-- the calls' numbers as they are told -/
inductive Shape : Int → List Int → Prop
  | begin_ (a : Nat) : a < 4294967296 → Shape 0 [(a : Int)]
  | deed (a b c d : Nat) : a < 4294967296 → b < 4294967296 → c < 4294967296 → d < 4294967296 → Shape 1 [(a : Int), (b : Int), (c : Int), (d : Int)]
  | event (a b c d : Nat) : a < 4294967296 → b < 4294967296 → c < 4294967296 → d < 4294967296 → Shape 2 [(a : Int), (b : Int), (c : Int), (d : Int)]
  | undeed (a : Nat) : a < 4294967296 → Shape 3 [(a : Int)]
  | unevent (a : Nat) : a < 4294967296 → Shape 4 [(a : Int)]
  | deedIs (a : Nat) : a < 4294967296 → Shape 5 [(a : Int)]
  | eventIs (a : Nat) : a < 4294967296 → Shape 6 [(a : Int)]
  | set (a : Nat) : a < 4294967296 → Shape 7 [(a : Int)]
  | now : Shape 8 []
  | able : Shape 9 []
  | do_ (a : Nat) : a < 4294967296 → Shape 10 [(a : Int)]
  | wait (a : Nat) : a < 4294967296 → Shape 11 [(a : Int)]
  | reach : Shape 12 []
  | canBe (a b : Nat) : a < 4294967296 → b < 4294967296 → Shape 13 [(a : Int), (b : Int)]
  | fewest (a b : Nat) : a < 4294967296 → b < 4294967296 → Shape 14 [(a : Int), (b : Int)]
  | row (a b : Nat) : a < 4294967296 → b < 4294967296 → Shape 15 [(a : Int), (b : Int)]
  | undo (a : Nat) : a < 4294967296 → Shape 16 [(a : Int)]
  | lost (a : Nat) : a < 4294967296 → Shape 17 [(a : Int)]
  | settled : Shape 18 []
  | never : Shape 19 []
  | byItself (a : Nat) : a < 4294967296 → Shape 20 [(a : Int)]
  | play (l : List Nat) : l.length ≤ 40 → (∀ x ∈ l, x < 4294967296) → Shape 21 (l.map fun (x : Nat) => (x : Int))

theorem within_nat {x : Int} (h : PyInside.within 0 4294967295 x = true) : ∃ n : Nat, x = (n : Int) ∧ n < 4294967296 := by
  unfold PyInside.within at h
  rw [Bool.and_eq_true, decide_eq_true_eq, decide_eq_true_eq] at h
  exact ⟨x.toNat, by omega, by omega⟩

/-- the form's looks, one by one -/
structure Fit (p : Int) (xs : List Int) (rows : List (List Int)) (a : List (Int × Int)) (m2 : Nat) : Prop where
  le : a.length ≤ xs.length
  each : PyInside.each a xs = true
  most : (xs.drop a.length).length ≤ m2
  rest : (xs.drop a.length).all (PyInside.within 0 4294967295) = true ∨ m2 = 0
  none : rows = []

theorem fit_of {p : Int} {xs : List Int} {rows : List (List Int)} {a : List (Int × Int)} {m2 : Nat} {hi : Int} (hh : hi = 4294967295 ∨ m2 = 0)
    (e : PyKp371.form p = some (a, (0, m2, 0, hi), [], (0, 0, 0, 0, 0, 0, 0))) (h : PyKp371.fits ((p :: xs) :: rows) = true) : Fit p xs rows a m2 := by
  unfold PyKp371.fits at h
  simp only [e] at h
  simp only [Bool.and_eq_true, decide_eq_true_eq] at h
  obtain ⟨⟨⟨⟨⟨⟨⟨⟨⟨h1, h2⟩, h3⟩, h4⟩, h5⟩, h6⟩, h7⟩, h8⟩, h9⟩, h10⟩ := h
  refine ⟨h1, h2, h4, ?_, ?_⟩
  · rcases hh with rfl | hh
    · exact .inl h5
    · exact .inr hh
  · simp at h8
    exact h8

theorem one_of {xs : List Int} {rows : List (List Int)} {p : Int} (F : Fit p xs rows [(0, 4294967295)] 0) : rows = [] ∧ ∃ n : Nat, n < 4294967296 ∧ xs = [(n : Int)] := by
  refine ⟨F.none, ?_⟩
  match xs, F with
  | [], F => have := F.le; simp at this
  | x :: y :: r, F => have := F.most; simp at this
  | [x], F =>
    have h := F.each
    unfold PyInside.each at h
    rw [Bool.and_eq_true] at h
    obtain ⟨n, rfl, hn⟩ := within_nat h.1
    exact ⟨n, hn, rfl⟩

theorem none_of {xs : List Int} {rows : List (List Int)} {p : Int} (F : Fit p xs rows [] 0) : rows = [] ∧ xs = [] := by
  refine ⟨F.none, ?_⟩
  have := F.most
  simp at this
  exact this

theorem two_of {xs : List Int} {rows : List (List Int)} {p : Int} (F : Fit p xs rows [(0, 4294967295), (0, 4294967295)] 0) : rows = [] ∧ ∃ n k : Nat, n < 4294967296 ∧ k < 4294967296 ∧ xs = [(n : Int), (k : Int)] := by
  refine ⟨F.none, ?_⟩
  match xs, F with
  | [], F => have := F.le; simp at this
  | [_], F => have := F.le; simp at this
  | x :: y :: z :: r, F => have := F.most; simp at this
  | [x, y], F =>
    have h := F.each
    unfold PyInside.each PyInside.each at h
    rw [Bool.and_eq_true, Bool.and_eq_true] at h
    obtain ⟨n, rfl, hn⟩ := within_nat h.1
    obtain ⟨k, rfl, hk⟩ := within_nat h.2.1
    exact ⟨n, k, hn, hk, rfl⟩

theorem four_of {xs : List Int} {rows : List (List Int)} {p : Int} (F : Fit p xs rows [(0, 4294967295), (0, 4294967295), (0, 4294967295), (0, 4294967295)] 0) :
    rows = [] ∧ ∃ a b c d : Nat, a < 4294967296 ∧ b < 4294967296 ∧ c < 4294967296 ∧ d < 4294967296 ∧ xs = [(a : Int), (b : Int), (c : Int), (d : Int)] := by
  refine ⟨F.none, ?_⟩
  match xs, F with
  | [], F => have := F.le; simp at this
  | [_], F => have := F.le; simp at this
  | [_, _], F => have := F.le; simp at this
  | [_, _, _], F => have := F.le; simp at this
  | x :: y :: z :: u :: v :: r, F => have := F.most; simp at this
  | [x, y, z, u], F =>
    have h := F.each
    unfold PyInside.each PyInside.each PyInside.each PyInside.each at h
    rw [Bool.and_eq_true, Bool.and_eq_true, Bool.and_eq_true, Bool.and_eq_true] at h
    obtain ⟨a, rfl, ha⟩ := within_nat h.1
    obtain ⟨b, rfl, hb⟩ := within_nat h.2.1
    obtain ⟨c, rfl, hc⟩ := within_nat h.2.2.1
    obtain ⟨d, rfl, hd⟩ := within_nat h.2.2.2.1
    exact ⟨a, b, c, d, ha, hb, hc, hd, rfl⟩

theorem nats_of : ∀ (xs : List Int), xs.all (PyInside.within 0 4294967295) = true → ∃ l : List Nat, xs = l.map (fun (x : Nat) => (x : Int)) ∧ ∀ x ∈ l, x < 4294967296
  | [], _ => ⟨[], rfl, by simp⟩
  | x :: xs, h => by
    rw [List.all_cons, Bool.and_eq_true] at h
    obtain ⟨n, rfl, hn⟩ := within_nat h.1
    obtain ⟨l, rfl, hl⟩ := nats_of xs h.2
    refine ⟨n :: l, rfl, fun x hx => ?_⟩
    rcases List.mem_cons.mp hx with rfl | hx
    · exact hn
    · exact hl x hx

theorem shape_of {p : Int} {xs : List Int} {rows : List (List Int)} (h : PyKp371.fits ((p :: xs) :: rows) = true) : rows = [] ∧ Shape p xs := by
  by_cases c0 : p = 0
  · subst c0; obtain ⟨e, n, hn, rfl⟩ := one_of (fit_of (.inr rfl) rfl h); exact ⟨e, .begin_ n hn⟩
  by_cases c1 : p = 1
  · subst c1; obtain ⟨e, a, b, c, d, ha, hb, hc, hd, rfl⟩ := four_of (fit_of (.inr rfl) rfl h); exact ⟨e, .deed a b c d ha hb hc hd⟩
  by_cases c2 : p = 2
  · subst c2; obtain ⟨e, a, b, c, d, ha, hb, hc, hd, rfl⟩ := four_of (fit_of (.inr rfl) rfl h); exact ⟨e, .event a b c d ha hb hc hd⟩
  by_cases c3 : p = 3
  · subst c3; obtain ⟨e, n, hn, rfl⟩ := one_of (fit_of (.inr rfl) rfl h); exact ⟨e, .undeed n hn⟩
  by_cases c4 : p = 4
  · subst c4; obtain ⟨e, n, hn, rfl⟩ := one_of (fit_of (.inr rfl) rfl h); exact ⟨e, .unevent n hn⟩
  by_cases c5 : p = 5
  · subst c5; obtain ⟨e, n, hn, rfl⟩ := one_of (fit_of (.inr rfl) rfl h); exact ⟨e, .deedIs n hn⟩
  by_cases c6 : p = 6
  · subst c6; obtain ⟨e, n, hn, rfl⟩ := one_of (fit_of (.inr rfl) rfl h); exact ⟨e, .eventIs n hn⟩
  by_cases c7 : p = 7
  · subst c7; obtain ⟨e, n, hn, rfl⟩ := one_of (fit_of (.inr rfl) rfl h); exact ⟨e, .set n hn⟩
  by_cases c8 : p = 8
  · subst c8; obtain ⟨e, rfl⟩ := none_of (fit_of (.inr rfl) rfl h); exact ⟨e, .now⟩
  by_cases c9 : p = 9
  · subst c9; obtain ⟨e, rfl⟩ := none_of (fit_of (.inr rfl) rfl h); exact ⟨e, .able⟩
  by_cases c10 : p = 10
  · subst c10; obtain ⟨e, n, hn, rfl⟩ := one_of (fit_of (.inr rfl) rfl h); exact ⟨e, .do_ n hn⟩
  by_cases c11 : p = 11
  · subst c11; obtain ⟨e, n, hn, rfl⟩ := one_of (fit_of (.inr rfl) rfl h); exact ⟨e, .wait n hn⟩
  by_cases c12 : p = 12
  · subst c12; obtain ⟨e, rfl⟩ := none_of (fit_of (.inr rfl) rfl h); exact ⟨e, .reach⟩
  by_cases c13 : p = 13
  · subst c13; obtain ⟨e, n, k, hn, hk, rfl⟩ := two_of (fit_of (.inr rfl) rfl h); exact ⟨e, .canBe n k hn hk⟩
  by_cases c14 : p = 14
  · subst c14; obtain ⟨e, n, k, hn, hk, rfl⟩ := two_of (fit_of (.inr rfl) rfl h); exact ⟨e, .fewest n k hn hk⟩
  by_cases c15 : p = 15
  · subst c15; obtain ⟨e, n, k, hn, hk, rfl⟩ := two_of (fit_of (.inr rfl) rfl h); exact ⟨e, .row n k hn hk⟩
  by_cases c16 : p = 16
  · subst c16; obtain ⟨e, n, hn, rfl⟩ := one_of (fit_of (.inr rfl) rfl h); exact ⟨e, .undo n hn⟩
  by_cases c17 : p = 17
  · subst c17; obtain ⟨e, n, hn, rfl⟩ := one_of (fit_of (.inr rfl) rfl h); exact ⟨e, .lost n hn⟩
  by_cases c18 : p = 18
  · subst c18; obtain ⟨e, rfl⟩ := none_of (fit_of (.inr rfl) rfl h); exact ⟨e, .settled⟩
  by_cases c19 : p = 19
  · subst c19; obtain ⟨e, rfl⟩ := none_of (fit_of (.inr rfl) rfl h); exact ⟨e, .never⟩
  by_cases c20 : p = 20
  · subst c20; obtain ⟨e, n, hn, rfl⟩ := one_of (fit_of (.inr rfl) rfl h); exact ⟨e, .byItself n hn⟩
  by_cases c21 : p = 21
  · subst c21
    have F : Fit 21 xs rows [] 40 := fit_of (.inl rfl) rfl h
    have r := F.rest
    have m := F.most
    simp only [List.length_nil, List.drop_zero] at r m
    rcases r with r | r
    · obtain ⟨l, rfl, hl⟩ := nats_of xs r
      exact ⟨F.none, .play l (by simpa using m) hl⟩
    · cases r
  · exfalso
    have e : PyKp371.form p = none := by
      unfold PyKp371.form
      simp only [c0, c1, c2, c3, c4, c5, c6, c7, c8, c9, c10, c11, c12, c13, c14, c15, c16, c17, c18, c19, c20, c21, if_false]
    unfold PyKp371.fits at h
    simp only [e] at h
    cases h

theorem call_enc {l : List Int} {c : List (List Int)} {t : List Int} (h : PyWide.call l = some (c, t)) (hf : PyKp371.fits c = true) : ∃ p, c = wide p ∧ Shape p.1 p.2 ∧ l = encC p ++ t := by
  match l, h with
  | [], h => cases h
  | [p], h => cases h
  | p :: n :: r, h =>
    unfold PyWide.call PyFlat.row at h
    by_cases c1 : 0 ≤ n ∧ n.toNat ≤ r.length
    · simp only [if_pos c1] at h
      cases e : r.drop n.toNat with
      | nil => rw [e] at h; cases h
      | cons k u =>
        rw [e] at h
        dsimp only at h
        by_cases c2 : 0 ≤ k
        · rw [if_pos c2] at h
          cases e2 : PyFlat.rows k.toNat u with
          | none => rw [e2] at h; cases h
          | some q =>
            obtain ⟨xs, v⟩ := q
            rw [e2] at h
            cases h
            obtain ⟨rfl, hs⟩ := shape_of hf
            have hk : k.toNat = 0 := (rows_len _ _ _ _ e2).symm
            have hk0 : k = 0 := by omega
            subst hk0
            have hv : some (([] : List (List Int)), u) = some ([], t) := by
              rw [hk] at e2
              exact e2
            cases hv
            refine ⟨(p, r.take n.toNat), rfl, hs, ?_⟩
            have e3 : r = r.take n.toNat ++ 0 :: t := by
              rw [← e]
              exact (List.take_append_drop _ _).symm
            have e4 : ((r.take n.toNat).length : Int) = n := by
              rw [List.length_take]
              omega
            unfold encC
            simp only [e4]
            simp only [List.cons_append, List.append_assoc, List.nil_append, List.cons.injEq, true_and]
            exact e3
        · rw [if_neg c2] at h; cases h
    · simp only [if_neg c1] at h
      cases h

theorem calls_enc : ∀ (f : Nat) (l : List Int) (cs : List (List (List Int))), PyWide.calls f l = some cs → cs.all PyKp371.fits = true → ∃ ps : List (Int × List Int), cs = ps.map wide ∧ (∀ p ∈ ps, Shape p.1 p.2) ∧ l = encs ps
  | f, [], cs, h, _ => by
    have e : PyWide.calls f [] = some [] := by cases f <;> rfl
    rw [e] at h
    cases h
    exact ⟨[], rfl, by simp, rfl⟩
  | 0, _ :: _, cs, h, _ => by cases h
  | f + 1, p :: r, cs, h, ha => by
    unfold PyWide.calls at h
    cases e : PyWide.call (p :: r) with
    | none => rw [e] at h; cases h
    | some q =>
      obtain ⟨c, t⟩ := q
      rw [e] at h
      dsimp only at h
      cases e2 : PyWide.calls f t with
      | none => rw [e2] at h; cases h
      | some ds =>
        rw [e2] at h
        cases h
        rw [List.all_cons, Bool.and_eq_true] at ha
        obtain ⟨p1, rfl, hs, hl⟩ := call_enc e ha.1
        obtain ⟨ps, rfl, hss, rfl⟩ := calls_enc f t ds e2 ha.2
        refine ⟨p1 :: ps, rfl, fun x hx => ?_, ?_⟩
        · rcases List.mem_cons.mp hx with rfl | hx
          · exact hs
          · exact hss x hx
        · rw [hl]
          rfl

/-- what is asked, told by the calls -/
theorem asked_enc {l : List Int} (h : PyKp371.answers_asked l = true) : ∃ ps : List (Int × List Int), (∀ p ∈ ps, Shape p.1 p.2) ∧ l = encs ps ∧ ps.length ≤ 60 ∧
    PyKp371.answers l = PyFlat.told (PyFlat.played Kp371Neutral.step Kp371Neutral.start (ps.map wide)) := by
  unfold PyKp371.answers_asked at h
  cases e : PyKp371.calls l with
  | none => rw [e] at h; cases h
  | some cs =>
    rw [e] at h
    simp only [Bool.and_eq_true] at h
    obtain ⟨⟨⟨⟨h1, h2⟩, h3⟩, h4⟩, h5⟩ := h
    obtain ⟨ps, rfl, hs, hl⟩ := calls_enc _ _ _ e h2
    refine ⟨ps, hs, hl, ?_, ?_⟩
    · have := of_decide_eq_true (show decide ((ps.map wide).length ≤ 60) = true from h3)
      simpa using this
    · unfold PyKp371.answers
      rw [e]
end Mth

namespace D
/-! ### the mirror: what each call does, over plain data -/
structure M where
  b : Bool
  mm : Nat
  now : Nat
  D : List Kp371.Deed
  E : List Kp371.Deed
/-- the set of all facts -/
def M.full (m : M) : Nat := 2 ^ m.mm - 1
def wOf (m : M) : Kp371.World := ⟨m.mm, m.D, m.E, m.now⟩
def stOf (m : M) : Kp371.State := if m.b = true then some (wOf m) else none
def Ok (m : M) : Prop := m.b = true → Mth.Good (wOf m)
def okR (d : Kp371.Deed) (full : Nat) : Bool := decide (d.needs &&& full = d.needs) && decide (d.so &&& d.needs = d.so) && !decide (d.makes = 0) && decide (d.makes &&& full = d.makes) && decide (d.thus &&& d.makes = d.thus)
def opBegin (m : M) (n : Nat) : M × List Int := if n < 2 ∨ 5 < n then (m, [-22]) else (⟨true, n, 0, [], []⟩, [0])
/-! ### what each call does, over plain data -/
def opDeed (m : M) (r : Kp371.Deed) : M × List Int := if okR r m.full = false then (m, [-22]) else if 6 ≤ m.D.length then (m, [-28]) else ({ m with D := m.D ++ [r] }, [(m.D.length : Int)])
def opEvent (m : M) (r : Kp371.Deed) : M × List Int := if okR r m.full = false then (m, [-22]) else if 3 ≤ m.E.length then (m, [-28]) else ({ m with E := m.E ++ [r] }, [(m.E.length : Int)])
def opSet (m : M) (n : Nat) : M × List Int := if decide (n &&& m.full = n) = false then (m, [-22]) else ({ m with now := n }, [(m.now : Int)])
def happ (E : List Kp371.Deed) (s : Nat) : Nat := E.foldl (fun (s : Nat) (e : Kp371.Deed) => if Kp371.able s e then Kp371.done_ s e else s) s
def ableAt (m : M) (i : Nat) : Bool := match m.D[i]? with
  | some d => Kp371.able m.now d
  | none => false
def ableL (m : M) : List Nat := (List.range m.D.length).filter (ableAt m)
def counted (l : List Nat) : List Int := (l.length : Int) :: l.map fun (x : Nat) => (x : Int)
def opAble (m : M) : M × List Int := (m, counted (ableL m))
def opDo (m : M) (i : Nat) : M × List Int := match m.D[i]? with
  | none => (m, [-2])
  | some d => if Kp371.able m.now d then ({ m with now := happ m.E (Kp371.done_ m.now d) }, [(happ m.E (Kp371.done_ m.now d) : Int)]) else (m, [-6])
theorem take_more {α : Type} : ∀ {l : List α} {i : Nat} {x : α}, l[i]? = some x → l.take (i + 1) = l.take i ++ [x]
  | [], i, x, h => by simp at h
  | a :: l, 0, x, h => by
    have e : a = x := Option.some.inj h
    subst e
    rfl
  | a :: l, i + 1, x, h => by
    have ih := take_more (l := l) (i := i) (x := x) h
    show a :: l.take (i + 1) = a :: l.take i ++ [x]
    rw [ih]
    rfl
theorem happ_more {E : List Kp371.Deed} {i : Nat} {d : Kp371.Deed} {s : Nat} (h : E[i]? = some d) : happ (E.take (i + 1)) s = if Kp371.able (happ (E.take i) s) d then Kp371.done_ (happ (E.take i) s) d else happ (E.take i) s := by
  unfold happ
  rw [take_more h, List.foldl_append]
  rfl
/-! ### the calls, by their numbers -/
def opUndeed (m : M) (i : Nat) : M × List Int := if m.D.length ≤ i then (m, [-2]) else ({ m with D := m.D.eraseIdx i }, [((m.D.length - 1 : Nat) : Int)])
def opUnevent (m : M) (i : Nat) : M × List Int := if m.E.length ≤ i then (m, [-2]) else ({ m with E := m.E.eraseIdx i }, [((m.E.length - 1 : Nat) : Int)])
def ruleOut (d : Kp371.Deed) : List Int := [(d.needs : Int), (d.so : Int), (d.makes : Int), (d.thus : Int)]
def opIs (m : M) (l : List Kp371.Deed) (i : Nat) : M × List Int := match l[i]? with
  | none => (m, [-2])
  | some d => (m, ruleOut d)
def opWait (m : M) (k : Nat) : M × List Int := if 40 < k then (m, [-22]) else ({ m with now := Kp371.itself (wOf m) m.now k }, [(Kp371.itself (wOf m) m.now k : Int)])
def opBy (m : M) (k : Nat) : M × List Int := (m, if 40 < k then [-22] else [(Kp371.itself (wOf m) m.now k : Int)])
def opReach (m : M) : M × List Int := (m, counted (Kp371.reach (wOf m) m.now))
def okA (m : M) (a b : Nat) : Bool := Kp371.okAim (wOf m) a b
def opCanbe (m : M) (a b : Nat) : M × List Int := (m, if okA m a b = false then [-22] else [if (Kp371.reach (wOf m) m.now).any (Kp371.isAim a b) then 1 else 0])
def opFewest (m : M) (a b : Nat) : M × List Int := (m, if okA m a b = false then [-22] else match Kp371.fewest (wOf m) m.now (Kp371.isAim a b) with
  | none => [-33]
  | some k => [(k : Int)])
def opRow (m : M) (a b : Nat) : M × List Int := (m, if okA m a b = false then [-22] else match Kp371.shortest (wOf m) m.now (Kp371.isAim a b) with
  | none => [-33]
  | some l => counted l)
def opUndo (m : M) (i : Nat) : M × List Int := (m, if m.D.length < i then [-2] else match Kp371.stepBy (wOf m) m.now i with
  | none => [-6]
  | some t => match Kp371.shortest (wOf m) t (fun u => u == m.now) with
    | none => [-33]
    | some l => counted l)
def opLost (m : M) (i : Nat) : M × List Int := (m, if m.D.length < i then [-2] else match Kp371.lost (wOf m) m.now i with
  | none => [-6]
  | some l => counted l)
def opSettled (m : M) : M × List Int := (m, counted (Kp371.settled (wOf m)))
def opNever (m : M) : M × List Int := (m, counted (Kp371.never (wOf m)))
def playF (m : M) (l : List Nat) : Nat × Nat × Bool := l.foldl (fun (a : Nat × Nat × Bool) (i : Nat) => if a.2.2 then a else match Kp371.stepBy (wOf m) a.1 i with
  | none => (a.1, a.2.1, true)
  | some t => (t, a.2.1 + 1, false)) (m.now, 0, false)
def opPlay (m : M) (l : List Nat) : M × List Int := (m, if l.any (fun i => decide (m.D.length < i)) then [-2] else [((playF m l).1 : Int), ((playF m l).2.1 : Int)])
def nth (xs : List Int) (i : Nat) : Nat := (xs.getD i 0).toNat
def opCall (m : M) (p : Int) (xs : List Int) : M × List Int :=
  if p = 0 then opBegin m (nth xs 0) else if m.b = false then (m, [-11])
  else if p = 1 then opDeed m ⟨nth xs 0, nth xs 1, nth xs 2, nth xs 3⟩
  else if p = 2 then opEvent m ⟨nth xs 0, nth xs 1, nth xs 2, nth xs 3⟩
  else if p = 3 then opUndeed m (nth xs 0)
  else if p = 4 then opUnevent m (nth xs 0)
  else if p = 5 then opIs m m.D (nth xs 0)
  else if p = 6 then opIs m m.E (nth xs 0)
  else if p = 7 then opSet m (nth xs 0)
  else if p = 8 then (m, [(m.now : Int)])
  else if p = 9 then opAble m
  else if p = 10 then opDo m (nth xs 0)
  else if p = 11 then opWait m (nth xs 0)
  else if p = 12 then opReach m
  else if p = 13 then opCanbe m (nth xs 0) (nth xs 1)
  else if p = 14 then opFewest m (nth xs 0) (nth xs 1)
  else if p = 15 then opRow m (nth xs 0) (nth xs 1)
  else if p = 16 then opUndo m (nth xs 0)
  else if p = 17 then opLost m (nth xs 0)
  else if p = 18 then opSettled m
  else if p = 19 then opNever m
  else if p = 20 then opBy m (nth xs 0)
  else opPlay m (xs.map Int.toNat)
def runM : M → List (Int × List Int) → List Int
  | _, [] => []
  | m, c :: cs => (((opCall m c.1 c.2).2.length : Nat) : Int) :: ((opCall m c.1 c.2).2 ++ runM (opCall m c.1 c.2).1 cs)
def m0 : M := ⟨false, 0, 0, [], []⟩
end D

namespace D
open Kp371 (World Deed)
/-! ### the mirror is the specification -/
theorem and_full {a m : Nat} : a &&& (2 ^ m - 1) = a ↔ a < 2 ^ m := by
  rw [Nat.and_two_pow_sub_one_eq_mod]
  constructor
  · intro h
    rw [← h]
    exact Nat.mod_lt _ (Nat.two_pow_pos m)
  · exact Nat.mod_eq_of_lt
theorem okR_deed (m : M) (d : Deed) : okR d m.full = Kp371.okDeed (wOf m) d.needs d.so d.makes d.thus := by
  rw [Bool.eq_iff_iff]
  unfold okR Kp371.okDeed M.full wOf
  simp only [Bool.and_eq_true, decide_eq_true_eq, and_full, beq_iff_eq, Bool.not_eq_true', decide_eq_false_iff_not, ne_eq]
  constructor
  · rintro ⟨⟨⟨⟨h1, h2⟩, h3⟩, h4⟩, h5⟩
    exact ⟨⟨⟨⟨h1, h4⟩, h2⟩, h5⟩, h3⟩
  · rintro ⟨⟨⟨⟨h1, h4⟩, h2⟩, h5⟩, h3⟩
    exact ⟨⟨⟨⟨h1, h2⟩, h3⟩, h4⟩, h5⟩
theorem okR_ok {m : M} {d : Deed} (h : okR d m.full = true) : Mth.OkD m.mm d := by
  unfold okR M.full at h
  simp only [Bool.and_eq_true, decide_eq_true_eq, and_full] at h
  exact ⟨h.1.1.1.1, h.1.2, h.1.1.1.2, h.2⟩
theorem erase_take {α : Type} : ∀ (l : List α) (i : Nat), l.take i ++ l.drop (i + 1) = l.eraseIdx i
  | [], i => by simp
  | a :: l, 0 => by simp
  | a :: l, i + 1 => by simp [erase_take l i]
theorem mem_erase {α : Type} {l : List α} {i : Nat} {x : α} (h : x ∈ l.eraseIdx i) : x ∈ l := List.mem_of_mem_eraseIdx h
/-- what the specification says of a call, told of the mirror -/
structure Fits (m : M) (c : Kp371.Call) (r : M × List Int) : Prop where
  st : (Kp371.step (stOf m) c).1 = stOf r.1
  ans : (Kp371.step (stOf m) c).2.num :: (Kp371.step (stOf m) c).2.nums = r.2
  ok : Ok r.1
theorem stOf_true {m : M} (h : m.b = true) : stOf m = some (wOf m) := if_pos h
theorem stOf_false {m : M} (h : m.b = false) : stOf m = none := if_neg (by rw [h]; decide)

theorem fits_begin (m : M) (n : Nat) (ok : Ok m) : Fits m (.begin_ n) (opBegin m n) := by
  unfold opBegin
  by_cases h : n < 2 ∨ 5 < n
  · rw [if_pos h]
    have e : Kp371.step (stOf m) (.begin_ n) = (stOf m, Kp371.say (-22)) := if_pos h
    exact ⟨by rw [e], by rw [e]; rfl, ok⟩
  · rw [if_neg h]
    have e : Kp371.step (stOf m) (.begin_ n) = (some ⟨n, [], [], 0⟩, Kp371.say 0) := if_neg h
    refine ⟨by rw [e]; rfl, by rw [e]; rfl, fun _ => ⟨?_, ?_, by simp [wOf], by simp [wOf], by simp [wOf], by simp [wOf], Nat.two_pow_pos _⟩⟩
    · show 2 ≤ n
      omega
    · show n ≤ 5
      omega
theorem fits_none {m : M} (h : m.b = false) (ok : Ok m) {c : Kp371.Call} (hc : ∀ n, c ≠ .begin_ n) : Fits m c (m, [-11]) := by
  have e : Kp371.step (stOf m) c = (none, Kp371.say (-11)) := by
    rw [stOf_false h]
    cases c <;> first | rfl | (rename_i n; exact absurd rfl (hc n))
  exact ⟨by rw [e, stOf_false h], by rw [e]; rfl, ok⟩
section
variable {m : M} (hb : m.b = true) (ok : Ok m)
include hb ok
theorem fits_deed (a b c d : Nat) : Fits m (.deed a b c d) (opDeed m ⟨a, b, c, d⟩) := by
  have g := ok hb
  unfold opDeed
  rw [okR_deed]
  by_cases h : Kp371.okDeed (wOf m) a b c d = false
  · rw [if_pos h]
    have e : Kp371.step (stOf m) (.deed a b c d) = (some (wOf m), Kp371.say (-22)) := by
      rw [stOf_true hb]
      exact if_pos h
    exact ⟨by rw [e, stOf_true hb], by rw [e]; rfl, ok⟩
  · rw [if_neg h]
    have hR : okR ⟨a, b, c, d⟩ m.full = true := by
      rw [okR_deed]
      simpa using h
    by_cases h2 : 6 ≤ m.D.length
    · rw [if_pos h2]
      have e : Kp371.step (stOf m) (.deed a b c d) = (some (wOf m), Kp371.say (-28)) := by
        rw [stOf_true hb]
        exact (if_neg h).trans (if_pos h2)
      exact ⟨by rw [e, stOf_true hb], by rw [e]; rfl, ok⟩
    · rw [if_neg h2]
      have e : Kp371.step (stOf m) (.deed a b c d) = (some { wOf m with deeds := m.D ++ [⟨a, b, c, d⟩] }, Kp371.say (m.D.length : Nat)) := by
        rw [stOf_true hb]
        exact (if_neg h).trans (if_neg h2)
      refine ⟨by rw [e]; exact (if_pos hb).symm, by rw [e]; rfl, fun _ => ⟨g.lo, g.hi, ?_, g.ne, fun x hx => ?_, g.events, g.now⟩⟩
      · show (m.D ++ [_]).length ≤ 6
        rw [List.length_append]
        simp
        omega
      · rcases List.mem_append.mp hx with hx | hx
        · exact g.deeds x hx
        · rw [List.mem_singleton.mp hx]
          exact okR_ok hR
theorem fits_event (a b c d : Nat) : Fits m (.event a b c d) (opEvent m ⟨a, b, c, d⟩) := by
  have g := ok hb
  unfold opEvent
  rw [okR_deed]
  by_cases h : Kp371.okDeed (wOf m) a b c d = false
  · rw [if_pos h]
    have e : Kp371.step (stOf m) (.event a b c d) = (some (wOf m), Kp371.say (-22)) := by
      rw [stOf_true hb]
      exact if_pos h
    exact ⟨by rw [e, stOf_true hb], by rw [e]; rfl, ok⟩
  · rw [if_neg h]
    have hR : okR ⟨a, b, c, d⟩ m.full = true := by
      rw [okR_deed]
      simpa using h
    by_cases h2 : 3 ≤ m.E.length
    · rw [if_pos h2]
      have e : Kp371.step (stOf m) (.event a b c d) = (some (wOf m), Kp371.say (-28)) := by
        rw [stOf_true hb]
        exact (if_neg h).trans (if_pos h2)
      exact ⟨by rw [e, stOf_true hb], by rw [e]; rfl, ok⟩
    · rw [if_neg h2]
      have e : Kp371.step (stOf m) (.event a b c d) = (some { wOf m with events := m.E ++ [⟨a, b, c, d⟩] }, Kp371.say (m.E.length : Nat)) := by
        rw [stOf_true hb]
        exact (if_neg h).trans (if_neg h2)
      refine ⟨by rw [e]; exact (if_pos hb).symm, by rw [e]; rfl, fun _ => ⟨g.lo, g.hi, g.nd, ?_, g.deeds, fun x hx => ?_, g.now⟩⟩
      · show (m.E ++ [_]).length ≤ 3
        rw [List.length_append]
        simp
        omega
      · rcases List.mem_append.mp hx with hx | hx
        · exact g.events x hx
        · rw [List.mem_singleton.mp hx]
          exact okR_ok hR
theorem fits_undeed (i : Nat) : Fits m (.undeed i) (opUndeed m i) := by
  have g := ok hb
  unfold opUndeed
  by_cases h : m.D.length ≤ i
  · rw [if_pos h]
    have e : Kp371.step (stOf m) (.undeed i) = (some (wOf m), Kp371.say (-2)) := by
      rw [stOf_true hb]
      exact if_pos h
    exact ⟨by rw [e, stOf_true hb], by rw [e]; rfl, ok⟩
  · rw [if_neg h]
    have e : Kp371.step (stOf m) (.undeed i) = (some { wOf m with deeds := m.D.eraseIdx i }, Kp371.say (m.D.length - 1 : Nat)) := by
      rw [stOf_true hb, ← erase_take]
      exact if_neg h
    refine ⟨by rw [e]; exact (if_pos hb).symm, by rw [e]; rfl, fun _ => ⟨g.lo, g.hi, ?_, g.ne, fun x hx => g.deeds x (mem_erase hx), g.events, g.now⟩⟩
    exact Nat.le_trans (List.length_eraseIdx_le _ _) g.nd
theorem fits_unevent (i : Nat) : Fits m (.unevent i) (opUnevent m i) := by
  have g := ok hb
  unfold opUnevent
  by_cases h : m.E.length ≤ i
  · rw [if_pos h]
    have e : Kp371.step (stOf m) (.unevent i) = (some (wOf m), Kp371.say (-2)) := by
      rw [stOf_true hb]
      exact if_pos h
    exact ⟨by rw [e, stOf_true hb], by rw [e]; rfl, ok⟩
  · rw [if_neg h]
    have e : Kp371.step (stOf m) (.unevent i) = (some { wOf m with events := m.E.eraseIdx i }, Kp371.say (m.E.length - 1 : Nat)) := by
      rw [stOf_true hb, ← erase_take]
      exact if_neg h
    refine ⟨by rw [e]; exact (if_pos hb).symm, by rw [e]; rfl, fun _ => ⟨g.lo, g.hi, g.nd, ?_, g.deeds, fun x hx => g.events x (mem_erase hx), g.now⟩⟩
    exact Nat.le_trans (List.length_eraseIdx_le _ _) g.ne
theorem fits_is (l : List Deed) (i : Nat) (c : Kp371.Call) (e : Kp371.step (stOf m) c = (some (wOf m), if l.length ≤ i then Kp371.say (-2) else Kp371.deedRow (l.getD i ⟨0, 0, 0, 0⟩))) : Fits m c (opIs m l i) := by
  unfold opIs
  cases h : l[i]? with
  | none =>
    have h' : l.length ≤ i := List.getElem?_eq_none_iff.mp h
    rw [if_pos h'] at e
    exact ⟨by rw [e, stOf_true hb], by rw [e]; rfl, ok⟩
  | some d =>
    have h' : ¬ l.length ≤ i := by
      have := (List.getElem?_eq_some_iff.mp h).1
      omega
    rw [if_neg h', List.getD_eq_getElem?_getD, h] at e
    exact ⟨by rw [e, stOf_true hb], by rw [e]; rfl, ok⟩
theorem fits_deedIs (i : Nat) : Fits m (.deedIs i) (opIs m m.D i) := fits_is hb ok m.D i _ (by rw [stOf_true hb]; rfl)
theorem fits_eventIs (i : Nat) : Fits m (.eventIs i) (opIs m m.E i) := fits_is hb ok m.E i _ (by rw [stOf_true hb]; rfl)
theorem fits_set (s : Nat) : Fits m (.set s) (opSet m s) := by
  have g := ok hb
  unfold opSet
  by_cases h : 2 ^ m.mm ≤ s
  · have h' : decide (s &&& m.full = s) = false := decide_eq_false (by unfold M.full; rw [and_full]; omega)
    rw [if_pos h']
    have e : Kp371.step (stOf m) (.set s) = (some (wOf m), Kp371.say (-22)) := by
      rw [stOf_true hb]
      exact if_pos h
    exact ⟨by rw [e, stOf_true hb], by rw [e]; rfl, ok⟩
  · have h' : ¬ decide (s &&& m.full = s) = false := by
      rw [decide_eq_true (by unfold M.full; rw [and_full]; omega)]
      decide
    rw [if_neg h']
    have e : Kp371.step (stOf m) (.set s) = (some { wOf m with now := s }, Kp371.say (m.now : Nat)) := by
      rw [stOf_true hb]
      exact if_neg h
    exact ⟨by rw [e]; exact (if_pos hb).symm, by rw [e]; rfl, fun _ => ⟨g.lo, g.hi, g.nd, g.ne, g.deeds, g.events, show s < 2 ^ m.mm by omega⟩⟩
/-- a call that changes nothing -/
theorem fits_same (c : Kp371.Call) (a : Kp371.Ans) (e : Kp371.step (stOf m) c = (some (wOf m), a)) : Fits m c (m, a.num :: a.nums) :=
  ⟨by rw [e, stOf_true hb], by rw [e], ok⟩
theorem fits_now : Fits m .now (m, [(m.now : Int)]) := fits_same hb ok .now _ (by rw [stOf_true hb]; rfl)
theorem able_at (i : Nat) (hi : i < m.D.length) : (Kp371.stepBy (wOf m) m.now i).isSome = ableAt m i := by
  unfold Kp371.stepBy ableAt
  show (match m.D[i]? with | some d => _ | none => _ : Option Nat).isSome = _
  rw [List.getElem?_eq_getElem hi]
  dsimp only
  cases Kp371.able m.now m.D[i] <;> rfl
theorem fits_able : Fits m .able (opAble m) := by
  have e : Kp371.step (stOf m) .able = (some (wOf m), Kp371.row ((List.range m.D.length).filter fun i => (Kp371.stepBy (wOf m) m.now i).isSome)) := by
    rw [stOf_true hb]
    rfl
  have e2 : (List.range m.D.length).filter (fun i => (Kp371.stepBy (wOf m) m.now i).isSome) = ableL m :=
    List.filter_congr fun i hi => able_at hb ok i (List.mem_range.mp hi)
  rw [e2] at e
  exact fits_same hb ok .able _ e
theorem fits_do (i : Nat) : Fits m (.do_ i) (opDo m i) := by
  have g := ok hb
  unfold opDo
  cases h : m.D[i]? with
  | none =>
    have h' : m.D.length ≤ i := List.getElem?_eq_none_iff.mp h
    exact fits_same hb ok _ (Kp371.say (-2)) (by rw [stOf_true hb]; exact if_pos h')
  | some d =>
    have h' : ¬ m.D.length ≤ i := by
      have := (List.getElem?_eq_some_iff.mp h).1
      omega
    have st : Kp371.stepBy (wOf m) m.now i = if Kp371.able m.now d then some (happ m.E (Kp371.done_ m.now d)) else none := by
      unfold Kp371.stepBy
      show (match m.D[i]? with | some d => _ | none => _ : Option Nat) = _
      rw [h]
      rfl
    have e : Kp371.step (stOf m) (.do_ i) = match Kp371.stepBy (wOf m) m.now i with
        | none => (some (wOf m), Kp371.say (-6))
        | some t => (some { wOf m with now := t }, Kp371.say (t : Nat)) := by
      rw [stOf_true hb]
      exact if_neg h'
    dsimp only
    by_cases c : Kp371.able m.now d = true
    · rw [if_pos c] at st ⊢
      rw [st] at e
      have lt := Mth.step_lt g g.now st
      exact ⟨by rw [e]; exact (if_pos hb).symm, by rw [e]; rfl, fun _ => ⟨g.lo, g.hi, g.nd, g.ne, g.deeds, g.events, lt⟩⟩
    · rw [if_neg c] at st ⊢
      rw [st] at e
      exact fits_same hb ok _ _ e
theorem itself_lt : ∀ (k s : Nat), s < 2 ^ m.mm → Kp371.itself (wOf m) s k < 2 ^ m.mm
  | 0, s, hs => hs
  | k + 1, s, hs => itself_lt k _ (Mth.happen_lt (ok hb) hs)
theorem fits_wait (k : Nat) : Fits m (.wait k) (opWait m k) := by
  have g := ok hb
  unfold opWait
  by_cases h : 40 < k
  · rw [if_pos h]
    exact fits_same hb ok _ (Kp371.say (-22)) (by rw [stOf_true hb]; exact if_pos h)
  · rw [if_neg h]
    have e : Kp371.step (stOf m) (.wait k) = (some { wOf m with now := Kp371.itself (wOf m) m.now k }, Kp371.say (Kp371.itself (wOf m) m.now k : Nat)) := by
      rw [stOf_true hb]
      exact if_neg h
    exact ⟨by rw [e]; exact (if_pos hb).symm, by rw [e]; rfl, fun _ => ⟨g.lo, g.hi, g.nd, g.ne, g.deeds, g.events, itself_lt hb ok k m.now g.now⟩⟩
theorem fits_reach : Fits m .reach (opReach m) := fits_same hb ok .reach (Kp371.row (Kp371.reach (wOf m) m.now)) (by rw [stOf_true hb]; rfl)
theorem fits_canbe (a b : Nat) : Fits m (.canBe a b) (opCanbe m a b) := by
  unfold opCanbe okA
  by_cases h : Kp371.okAim (wOf m) a b = false
  · rw [if_pos h]
    exact fits_same hb ok _ (Kp371.say (-22)) (by rw [stOf_true hb]; exact congrArg (Prod.mk _) (if_pos h))
  · rw [if_neg h]
    exact fits_same hb ok _ (Kp371.yes ((Kp371.reach (wOf m) m.now).any (Kp371.isAim a b))) (by rw [stOf_true hb]; exact congrArg (Prod.mk _) (if_neg h))
theorem fits_fewest (a b : Nat) : Fits m (.fewest a b) (opFewest m a b) := by
  unfold opFewest okA
  by_cases h : Kp371.okAim (wOf m) a b = false
  · rw [if_pos h]
    exact fits_same hb ok _ (Kp371.say (-22)) (by rw [stOf_true hb]; exact congrArg (Prod.mk _) (if_pos h))
  · rw [if_neg h]
    have e : Kp371.step (stOf m) (.fewest a b) = (some (wOf m), match Kp371.fewest (wOf m) m.now (Kp371.isAim a b) with
        | none => Kp371.say (-33)
        | some k => Kp371.say (k : Nat)) := by
      rw [stOf_true hb]
      exact congrArg (Prod.mk _) (if_neg h)
    cases h2 : Kp371.fewest (wOf m) m.now (Kp371.isAim a b) with
    | none => rw [h2] at e; exact fits_same hb ok _ _ e
    | some k => rw [h2] at e; exact fits_same hb ok _ _ e
theorem fits_row (a b : Nat) : Fits m (.row a b) (opRow m a b) := by
  unfold opRow okA
  by_cases h : Kp371.okAim (wOf m) a b = false
  · rw [if_pos h]
    exact fits_same hb ok _ (Kp371.say (-22)) (by rw [stOf_true hb]; exact congrArg (Prod.mk _) (if_pos h))
  · rw [if_neg h]
    have e : Kp371.step (stOf m) (.row a b) = (some (wOf m), match Kp371.shortest (wOf m) m.now (Kp371.isAim a b) with
        | none => Kp371.say (-33)
        | some l => Kp371.row l) := by
      rw [stOf_true hb]
      exact congrArg (Prod.mk _) (if_neg h)
    cases h2 : Kp371.shortest (wOf m) m.now (Kp371.isAim a b) with
    | none => rw [h2] at e; exact fits_same hb ok _ _ e
    | some k => rw [h2] at e; exact fits_same hb ok _ _ e
theorem fits_undo (i : Nat) : Fits m (.undo i) (opUndo m i) := by
  unfold opUndo
  by_cases h : m.D.length < i
  · rw [if_pos h]
    exact fits_same hb ok _ (Kp371.say (-2)) (by rw [stOf_true hb]; exact congrArg (Prod.mk _) (if_pos h))
  · rw [if_neg h]
    have e : Kp371.step (stOf m) (.undo i) = (some (wOf m), match Kp371.stepBy (wOf m) m.now i with
        | none => Kp371.say (-6)
        | some t => match Kp371.shortest (wOf m) t (fun u => u == m.now) with
          | none => Kp371.say (-33)
          | some l => Kp371.row l) := by
      rw [stOf_true hb]
      exact congrArg (Prod.mk _) (if_neg h)
    cases h2 : Kp371.stepBy (wOf m) m.now i with
    | none => rw [h2] at e; exact fits_same hb ok _ _ e
    | some t =>
      rw [h2] at e
      dsimp only at e ⊢
      cases h3 : Kp371.shortest (wOf m) t (fun u => u == m.now) with
      | none => rw [h3] at e; exact fits_same hb ok _ _ e
      | some k => rw [h3] at e; exact fits_same hb ok _ _ e
theorem fits_lost (i : Nat) : Fits m (.lost i) (opLost m i) := by
  unfold opLost
  by_cases h : m.D.length < i
  · rw [if_pos h]
    exact fits_same hb ok _ (Kp371.say (-2)) (by rw [stOf_true hb]; exact congrArg (Prod.mk _) (if_pos h))
  · rw [if_neg h]
    have e : Kp371.step (stOf m) (.lost i) = (some (wOf m), match Kp371.lost (wOf m) m.now i with
        | none => Kp371.say (-6)
        | some l => Kp371.row l) := by
      rw [stOf_true hb]
      exact congrArg (Prod.mk _) (if_neg h)
    cases h2 : Kp371.lost (wOf m) m.now i with
    | none => rw [h2] at e; exact fits_same hb ok _ _ e
    | some t => rw [h2] at e; exact fits_same hb ok _ _ e
theorem fits_settled : Fits m .settled (opSettled m) := fits_same hb ok .settled (Kp371.row (Kp371.settled (wOf m))) (by rw [stOf_true hb]; rfl)
theorem fits_never : Fits m .never (opNever m) := fits_same hb ok .never (Kp371.row (Kp371.never (wOf m))) (by rw [stOf_true hb]; rfl)
theorem fits_by (k : Nat) : Fits m (.byItself k) (opBy m k) := by
  unfold opBy
  by_cases h : 40 < k
  · rw [if_pos h]
    exact fits_same hb ok _ (Kp371.say (-22)) (by rw [stOf_true hb]; exact congrArg (Prod.mk _) (if_pos h))
  · rw [if_neg h]
    exact fits_same hb ok _ (Kp371.say (Kp371.itself (wOf m) m.now k : Nat)) (by rw [stOf_true hb]; exact congrArg (Prod.mk _) (if_neg h))
theorem fits_play (l : List Nat) : Fits m (.play l) (opPlay m l) := by
  unfold opPlay
  by_cases h : (l.any fun i => decide (m.D.length < i)) = true
  · rw [if_pos h]
    exact fits_same hb ok _ (Kp371.say (-2)) (by rw [stOf_true hb]; exact congrArg (Prod.mk _) (if_pos h))
  · rw [if_neg h]
    exact fits_same hb ok _ ⟨((playF m l).1 : Int), [((playF m l).2.1 : Int)]⟩ (by rw [stOf_true hb]; exact congrArg (Prod.mk _) (if_neg h))
end
/-- one call -/
theorem op_step {m : M} {p : Int} {xs : List Int} (ok : Ok m) (sh : Mth.Shape p xs) : Kp371Neutral.step (stOf m) [p :: xs] = (stOf (opCall m p xs).1, (opCall m p xs).2) ∧ Ok (opCall m p xs).1 := by
  have key : ∀ (c : Kp371.Call) (r : M × List Int), Kp371Neutral.callOf [p :: xs] = some c → opCall m p xs = r → Fits m c r → Kp371Neutral.step (stOf m) [p :: xs] = (stOf (opCall m p xs).1, (opCall m p xs).2) ∧ Ok (opCall m p xs).1 := fun c r e1 e2 F => by
    rw [e2]
    refine ⟨?_, F.ok⟩
    unfold Kp371Neutral.step
    rw [e1]
    show ((Kp371.step (stOf m) c).1, (Kp371.step (stOf m) c).2.num :: (Kp371.step (stOf m) c).2.nums) = _
    rw [F.st, F.ans]
  by_cases hb : m.b = false
  · by_cases hp : p = 0
    · subst hp
      cases sh
      rename_i a ha
      exact key (.begin_ a) _ rfl (if_pos rfl) (fits_begin m a ok)
    · have e : opCall m p xs = (m, [-11]) := by
        unfold opCall
        rw [if_neg hp, if_pos hb]
      cases sh <;> first | exact absurd rfl hp | skip
      case play l h1 h2 =>
        exact key (.play ((l.map fun (x : Nat) => (x : Int)).map Int.toNat)) _ rfl e (fits_none hb ok fun n z => by cases z)
      all_goals exact key _ _ rfl e (fits_none hb ok fun n z => by cases z)
  · have ht : m.b = true := by simpa using hb
    cases sh
    case begin_ a ha => exact key (.begin_ a) _ rfl (if_pos rfl) (fits_begin m a ok)
    case deed a b c d _ _ _ _ => exact key (.deed a b c d) (opDeed m ⟨a, b, c, d⟩) rfl (by simp [opCall, hb, nth]) (fits_deed ht ok a b c d)
    case event a b c d _ _ _ _ => exact key (.event a b c d) (opEvent m ⟨a, b, c, d⟩) rfl (by simp [opCall, hb, nth]) (fits_event ht ok a b c d)
    case undeed a _ => exact key (.undeed a) (opUndeed m a) rfl (by simp [opCall, hb, nth]) (fits_undeed ht ok a)
    case unevent a _ => exact key (.unevent a) (opUnevent m a) rfl (by simp [opCall, hb, nth]) (fits_unevent ht ok a)
    case deedIs a _ => exact key (.deedIs a) (opIs m m.D a) rfl (by simp [opCall, hb, nth]) (fits_deedIs ht ok a)
    case eventIs a _ => exact key (.eventIs a) (opIs m m.E a) rfl (by simp [opCall, hb, nth]) (fits_eventIs ht ok a)
    case set a _ => exact key (.set a) (opSet m a) rfl (by simp [opCall, hb, nth]) (fits_set ht ok a)
    case now => exact key .now _ rfl (by simp [opCall, hb]) (fits_now ht ok)
    case able => exact key .able (opAble m) rfl (by simp [opCall, hb]) (fits_able ht ok)
    case do_ a _ => exact key (.do_ a) (opDo m a) rfl (by simp [opCall, hb, nth]) (fits_do ht ok a)
    case wait a _ => exact key (.wait a) (opWait m a) rfl (by simp [opCall, hb, nth]) (fits_wait ht ok a)
    case reach => exact key .reach (opReach m) rfl (by simp [opCall, hb]) (fits_reach ht ok)
    case canBe a b _ _ => exact key (.canBe a b) (opCanbe m a b) rfl (by simp [opCall, hb, nth]) (fits_canbe ht ok a b)
    case fewest a b _ _ => exact key (.fewest a b) (opFewest m a b) rfl (by simp [opCall, hb, nth]) (fits_fewest ht ok a b)
    case row a b _ _ => exact key (.row a b) (opRow m a b) rfl (by simp [opCall, hb, nth]) (fits_row ht ok a b)
    case undo a _ => exact key (.undo a) (opUndo m a) rfl (by simp [opCall, hb, nth]) (fits_undo ht ok a)
    case lost a _ => exact key (.lost a) (opLost m a) rfl (by simp [opCall, hb, nth]) (fits_lost ht ok a)
    case settled => exact key .settled (opSettled m) rfl (by simp [opCall, hb]) (fits_settled ht ok)
    case never => exact key .never (opNever m) rfl (by simp [opCall, hb]) (fits_never ht ok)
    case byItself a _ => exact key (.byItself a) (opBy m a) rfl (by simp [opCall, hb, nth]) (fits_by ht ok a)
    case play l h1 h2 =>
      have e : (l.map fun (x : Nat) => (x : Int)).map Int.toNat = l := by
        rw [List.map_map]
        have : (Int.toNat ∘ fun (x : Nat) => (x : Int)) = id := by funext x; simp
        rw [this, List.map_id]
      refine key (.play ((l.map fun (x : Nat) => (x : Int)).map Int.toNat)) (opPlay m ((l.map fun (x : Nat) => (x : Int)).map Int.toNat)) rfl (by simp [opCall, hb]) ?_
      exact fits_play ht ok _
theorem runM_spec : ∀ (ps : List (Int × List Int)) (m : M), Ok m → (∀ p ∈ ps, Mth.Shape p.1 p.2) → PyFlat.told (PyFlat.played Kp371Neutral.step (stOf m) (ps.map Mth.wide)) = runM m ps
  | [], _, _, _ => rfl
  | c :: ps, m, ok, h => by
    obtain ⟨e, ok'⟩ := op_step ok (h c List.mem_cons_self)
    have ih := runM_spec ps _ ok' fun p hp => h p (List.mem_cons_of_mem _ hp)
    show PyFlat.told ((Kp371Neutral.step (stOf m) [c.1 :: c.2]).2 :: PyFlat.played Kp371Neutral.step (Kp371Neutral.step (stOf m) [c.1 :: c.2]).1 (ps.map Mth.wide)) = _
    rw [e]
    show ((((opCall m c.1 c.2).2.length : Nat) : Int) :: (opCall m c.1 c.2).2) ++ PyFlat.told (PyFlat.played Kp371Neutral.step (stOf (opCall m c.1 c.2).1) (ps.map Mth.wide)) = _
    rw [ih]
    rfl
theorem ok_m0 : Ok m0 := fun h => by cases h
/-- what is asked, what is due -/
theorem whole {l : List Int} (h : PyKp371.answers_asked l = true) : ∃ ps : List (Int × List Int), (∀ p ∈ ps, Mth.Shape p.1 p.2) ∧ l = Mth.encs ps ∧ PyKp371.answers l = runM m0 ps ∧ (runM m0 ps).length ≤ 10000000 := by
  obtain ⟨ps, h1, h2, h3, h4⟩ := Mth.asked_enc h
  have e : PyKp371.answers l = runM m0 ps := by
    rw [h4]
    exact runM_spec ps m0 ok_m0 h1
  refine ⟨ps, h1, h2, e, ?_⟩
  rw [← e]
  unfold PyKp371.answers_asked at h
  cases ec : PyKp371.calls l with
  | none => rw [ec] at h; cases h
  | some cs =>
    rw [ec] at h
    simp only [Bool.and_eq_true] at h
    have h5 := h.2
    unfold PyFlat.short at h5
    exact of_decide_eq_true h5
end D

namespace Mth
open Kp371
/-! ### rows by length, then by their numbers -/
def lexlt : List Nat → List Nat → Prop
  | a :: l, b :: r => a < b ∨ (a = b ∧ lexlt l r)
  | _, _ => False
def sle (l r : List Nat) : Prop := l.length < r.length ∨ (l.length = r.length ∧ lexle l r)
def sl (l r : List Nat) : Prop := l.length < r.length ∨ (l.length = r.length ∧ lexlt l r)
theorem lexlt_le : ∀ {l r : List Nat}, lexlt l r → lexle l r
  | [], _, h => trivial
  | _ :: _, [], h => h.elim
  | a :: l, b :: r, h => by
    rcases h with h | ⟨e, h⟩
    · exact .inl h
    · exact .inr ⟨e, lexlt_le h⟩
theorem sl.le {l r : List Nat} (h : sl l r) : sle l r := h.imp id fun ⟨e, x⟩ => ⟨e, lexlt_le x⟩
theorem sle_refl (l : List Nat) : sle l l := .inr ⟨rfl, lexle_refl l⟩
theorem lexle_trans : ∀ {l r s : List Nat}, lexle l r → lexle r s → lexle l s
  | [], _, _, _, _ => trivial
  | _ :: _, [], _, h, _ => h.elim
  | _ :: _, _ :: _, [], _, k => k.elim
  | a :: l, b :: r, c :: s, h, k => by
    rcases h with h | ⟨e, h⟩
    · rcases k with k | ⟨e', k⟩
      · exact .inl (by omega)
      · exact .inl (by omega)
    · rcases k with k | ⟨e', k⟩
      · exact .inl (by omega)
      · exact .inr ⟨by omega, lexle_trans h k⟩
theorem sle_trans {l r s : List Nat} (h : sle l r) (k : sle r s) : sle l s := by
  rcases h with h | ⟨e, h⟩
  · rcases k with k | ⟨e', k⟩
    · exact .inl (by omega)
    · exact .inl (by omega)
  · rcases k with k | ⟨e', k⟩
    · exact .inl (by omega)
    · exact .inr ⟨by omega, lexle_trans h k⟩
theorem lexle_snoc {c : Nat} : ∀ {l r : List Nat}, l.length = r.length → lexle l r → lexle (l ++ [c]) (r ++ [c])
  | [], [], _, _ => lexle_refl _
  | [], _ :: _, e, _ => by simp at e
  | _ :: _, [], _, h => h.elim
  | a :: l, b :: r, e, h => by
    rcases h with h | ⟨e', h⟩
    · exact .inl h
    · exact .inr ⟨e', lexle_snoc (by simpa using e) h⟩
theorem sle_snoc {l r : List Nat} (c : Nat) (h : sle l r) : sle (l ++ [c]) (r ++ [c]) := by
  rcases h with h | ⟨e, h⟩
  · exact .inl (by simp; omega)
  · exact .inr ⟨by simp [e], lexle_snoc e h⟩
theorem lexlt_snoc {a b : Nat} : ∀ {l r : List Nat}, l.length = r.length → lexlt l r → lexlt (l ++ [a]) (r ++ [b])
  | [], _, _, h => h.elim
  | _ :: _, [], _, h => h.elim
  | x :: l, y :: r, e, h => by
    rcases h with h | ⟨e', h⟩
    · exact .inl h
    · exact .inr ⟨e', lexlt_snoc (by simpa using e) h⟩
theorem sl_snoc {l r : List Nat} (a b : Nat) (h : sl l r) : sl (l ++ [a]) (r ++ [b]) := by
  rcases h with h | ⟨e, h⟩
  · exact .inl (by simp; omega)
  · exact .inr ⟨by simp [e], lexlt_snoc e h⟩
theorem lexlt_last {a b : Nat} (h : a < b) : ∀ (l : List Nat), lexlt (l ++ [a]) (l ++ [b])
  | [] => .inl h
  | _ :: l => .inr ⟨rfl, lexlt_last h l⟩
theorem sl_last {a b : Nat} (h : a < b) (l : List Nat) : sl (l ++ [a]) (l ++ [b]) := .inr ⟨by simp, lexlt_last h l⟩
theorem sl_nil (l : List Nat) (c : Nat) : sl [] (l ++ [c]) := .inl (by simp)
theorem sle_longer {l r : List Nat} (c : Nat) (h : sle l r) : sle l (r ++ [c]) := .inl (by
  rcases h with h | ⟨e, _⟩
  · simp; omega
  · simp; omega)
/-- best, told by this order -/
theorem best_of {w : World} {s : Nat} {f : Nat → Bool} {l : List Nat} (h1 : ∃ t, run w s l = some t ∧ f t = true) (h2 : ∀ r t, run w s r = some t → f t = true → sle l r) : Best w s f l := ⟨h1, h2⟩

/-! ### what can come, by a set that is closed -/
theorem reach_closed {w : World} {s : Nat} {S : Nat → Prop} (h0 : S s) (hc : ∀ u c t, S u → stepBy w u c = some t → S t) {t : Nat} (h : Reach w s t) : S t := by
  obtain ⟨l, hl⟩ := h
  have key : ∀ (l : List Nat) (u : Nat), S u → run w u l = some t → S t := by
    intro l
    induction l with
    | nil => intro u hu hr; cases hr; exact hu
    | cons c l ih =>
      intro u hu hr
      obtain ⟨v, h1, h2⟩ := run_cons.mp hr
      exact ih v (hc u c v hu h1) h2
  exact key l s h0 hl

/-! ### a search by breadth: Q what was found, in its order, each with its row; all choices of those ahead of i, and those below c of the i-th, are looked at -/
def Past (i c j d : Nat) : Prop := j < i ∨ (j = i ∧ d < c)
structure BF (w : World) (s : Nat) (Q : List (Nat × List Nat)) (i c : Nat) : Prop where
  head : Q[0]? = some (s, [])
  runs : ∀ p ∈ Q, run w s p.2 = some p.1
  nodup : (Q.map (·.1)).Nodup
  incr : ∀ (a b : Nat) pa pb, a < b → Q[a]? = some pa → Q[b]? = some pb → sl pa.2 pb.2
  from_ : ∀ (b : Nat) pb, Q[b]? = some pb → pb.2 = [] ∨ ∃ (a d : Nat) (pa : Nat × List Nat), Q[a]? = some pa ∧ pb.2 = pa.2 ++ [d] ∧ stepBy w pa.1 d = some pb.1 ∧ Past i c a d
  closed : ∀ (j d : Nat) pj t, Q[j]? = some pj → Past i c j d → stepBy w pj.1 d = some t → ∃ row, (t, row) ∈ Q ∧ sle row (pj.2 ++ [d])

theorem bf_start (w : World) (s : Nat) : BF w s [(s, [])] 0 0 := by
  refine ⟨rfl, fun p hp => ?_, by simp, fun a b pa pb h1 h2 h3 => ?_, fun b pb h => ?_, fun j d pj t h1 h2 => ?_⟩
  · rw [List.mem_singleton.mp hp]
    rfl
  · cases b with
    | zero => omega
    | succ b => simp at h3
  · cases b with
    | zero =>
      cases h
      exact .inl rfl
    | succ b => simp at h
  · rcases h2 with h2 | ⟨_, h2⟩
    · omega
    · omega

section
variable {w : World} {s : Nat} {Q : List (Nat × List Nat)} {i c : Nat}
/-- each row that's there is less than what comes of the i-th by c -/
theorem BF.less (B : BF w s Q i c) {p : Nat × List Nat} (hp : Q[i]? = some p) {b : Nat} {pb : Nat × List Nat} (hb : Q[b]? = some pb) : sl pb.2 (p.2 ++ [c]) := by
  rcases B.from_ b pb hb with e | ⟨a, d, pa, h1, h2, _, h4⟩
  · rw [e]
    exact sl_nil _ _
  · rw [h2]
    rcases h4 with h4 | ⟨e, h4⟩
    · exact sl_snoc _ _ (B.incr a i pa p h4 h1 hp)
    · subst e
      rw [h1] at hp
      cases hp
      exact sl_last h4 _
theorem past_succ {j d : Nat} (h : Past i c j d) : Past i (c + 1) j d := h.imp id fun ⟨e, h⟩ => ⟨e, by omega⟩
theorem past_cases {j d : Nat} (h : Past i (c + 1) j d) : Past i c j d ∨ (j = i ∧ d = c) := by
  rcases h with h | ⟨e, h⟩
  · exact .inl (.inl h)
  · by_cases z : d = c
    · exact .inr ⟨e, z⟩
    · exact .inl (.inr ⟨e, by omega⟩)
theorem BF.old (B : BF w s Q i c) (h : ∀ p t, Q[i]? = some p → stepBy w p.1 c = some t → t ∈ Q.map (·.1)) : BF w s Q i (c + 1) := by
  refine ⟨B.head, B.runs, B.nodup, B.incr, fun b pb hb => ?_, fun j d pj t h1 h2 h3 => ?_⟩
  · rcases B.from_ b pb hb with e | ⟨a, d, pa, h1, h2, h3, h4⟩
    · exact .inl e
    · exact .inr ⟨a, d, pa, h1, h2, h3, past_succ h4⟩
  · rcases past_cases h2 with h2 | ⟨rfl, rfl⟩
    · exact B.closed j d pj t h1 h2 h3
    · obtain ⟨q, hq, e⟩ := List.mem_map.mp (h pj t h1 h3)
      obtain ⟨b, hb⟩ := List.getElem?_of_mem hq
      refine ⟨q.2, ?_, (B.less h1 hb).le⟩
      rw [← e]
      exact hq
/-- the choice can't be done -/
theorem BF.skip (B : BF w s Q i c) {p : Nat × List Nat} (hp : Q[i]? = some p) (h : stepBy w p.1 c = none) : BF w s Q i (c + 1) := B.old fun p' t hp' ht => by
  rw [hp] at hp'
  cases hp'
  rw [h] at ht
  cases ht
/-- it leads to what is found already -/
theorem BF.seen (B : BF w s Q i c) {p : Nat × List Nat} {t : Nat} (hp : Q[i]? = some p) (h : stepBy w p.1 c = some t) (ht : t ∈ Q.map (·.1)) : BF w s Q i (c + 1) := B.old fun p' t' hp' ht' => by
  rw [hp] at hp'
  cases hp'
  rw [h] at ht'
  cases ht'
  exact ht
/-- it leads to something new -/
theorem BF.new (B : BF w s Q i c) {p : Nat × List Nat} {t : Nat} (hp : Q[i]? = some p) (h : stepBy w p.1 c = some t) (ht : t ∉ Q.map (·.1)) : BF w s (Q ++ [(t, p.2 ++ [c])]) i (c + 1) := by
  have at_ : ∀ {b : Nat} {q : Nat × List Nat}, (Q ++ [(t, p.2 ++ [c])])[b]? = some q → Q[b]? = some q ∨ (b = Q.length ∧ q = (t, p.2 ++ [c])) := fun {b q} hb => by
    by_cases z : b < Q.length
    · rw [List.getElem?_append_left z] at hb
      exact .inl hb
    · rw [List.getElem?_append_right (by omega)] at hb
      cases e : b - Q.length with
      | zero =>
        rw [e] at hb
        cases hb
        exact .inr ⟨by omega, rfl⟩
      | succ k =>
        rw [e] at hb
        simp at hb
  have up : ∀ {b : Nat} {q : Nat × List Nat}, Q[b]? = some q → (Q ++ [(t, p.2 ++ [c])])[b]? = some q := fun {b q} hb => by
    rw [List.getElem?_append_left (List.getElem?_eq_some_iff.mp hb).1]
    exact hb
  refine ⟨up B.head, fun q hq => ?_, ?_, fun a b pa pb h1 h2 h3 => ?_, fun b pb hb => ?_, fun j d pj u h1 h2 h3 => ?_⟩
  · rcases List.mem_append.mp hq with hq | hq
    · exact B.runs q hq
    · rw [List.mem_singleton.mp hq]
      exact run_snoc.mpr ⟨p.1, B.runs p (List.mem_of_getElem? hp), h⟩
  · rw [List.map_append, List.nodup_append]
    refine ⟨B.nodup, by simp, fun a ha b hb e => ?_⟩
    rw [List.map_cons, List.map_nil, List.mem_singleton] at hb
    rw [hb] at e
    rw [e] at ha
    exact ht ha
  · rcases at_ h3 with h3 | ⟨e3, rfl⟩
    · rcases at_ h2 with h2 | ⟨e2, _⟩
      · exact B.incr a b pa pb h1 h2 h3
      · have := (List.getElem?_eq_some_iff.mp h3).1
        omega
    · rcases at_ h2 with h2 | ⟨e2, _⟩
      · exact B.less hp h2
      · omega
  · rcases at_ hb with hb | ⟨_, rfl⟩
    · rcases B.from_ b pb hb with e | ⟨a, d, pa, h1, h2, h3, h4⟩
      · exact .inl e
      · exact .inr ⟨a, d, pa, up h1, h2, h3, past_succ h4⟩
    · exact .inr ⟨i, c, p, up hp, rfl, h, .inr ⟨rfl, by omega⟩⟩
  · have hi : i < Q.length := (List.getElem?_eq_some_iff.mp hp).1
    rcases at_ h1 with g1 | ⟨e1, _⟩
    · rcases past_cases h2 with h2 | ⟨rfl, rfl⟩
      · obtain ⟨row, r1, r2⟩ := B.closed j d pj u g1 h2 h3
        exact ⟨row, List.mem_append_left _ r1, r2⟩
      · rw [hp] at g1
        cases g1
        rw [h] at h3
        cases h3
        exact ⟨_, List.mem_append_right _ (List.mem_singleton.mpr rfl), sle_refl _⟩
    · rcases h2 with h2 | ⟨h2, _⟩
      · omega
      · omega
/-- all choices of the i-th are looked at -/
theorem BF.next (B : BF w s Q i c) (h : w.deeds.length < c) : BF w s Q (i + 1) 0 := by
  refine ⟨B.head, B.runs, B.nodup, B.incr, fun b pb hb => ?_, fun j d pj t h1 h2 h3 => ?_⟩
  · rcases B.from_ b pb hb with e | ⟨a, d, pa, h1, h2, h3, h4⟩
    · exact .inl e
    · refine .inr ⟨a, d, pa, h1, h2, h3, .inl ?_⟩
      rcases h4 with h4 | ⟨h4, _⟩
      · omega
      · omega
  · refine B.closed j d pj t h1 ?_ h3
    have := step_le h3
    rcases h2 with h2 | ⟨_, h2⟩
    · by_cases z : j < i
      · exact .inl z
      · exact .inr ⟨by omega, by omega⟩
    · omega
/-- whatever row leads somewhere: that is found by a row no greater, or the row is no less than what comes next -/
theorem BF.frontier (B : BF w s Q i c) : ∀ (n : Nat) (r : List Nat) (t : Nat), r.length = n → run w s r = some t → (∃ row, (t, row) ∈ Q ∧ sle row r) ∨ ∃ p, Q[i]? = some p ∧ sle (p.2 ++ [c]) r
  | 0, r, t, hn, hr => by
    have e : r = [] := List.length_eq_zero_iff.mp hn
    subst e
    cases hr
    exact .inl ⟨[], List.mem_of_getElem? B.head, sle_refl _⟩
  | n + 1, r, t, hn, hr => by
    rcases List.eq_nil_or_concat r with e | ⟨r', d, e⟩
    · subst e
      simp at hn
    · rw [List.concat_eq_append] at e
      subst e
      obtain ⟨u, h1, h2⟩ := run_snoc.mp hr
      rcases B.frontier n r' u (by simpa using hn) h1 with ⟨row, m1, m2⟩ | ⟨p, m1, m2⟩
      · obtain ⟨j, hj⟩ := List.getElem?_of_mem m1
        by_cases z : Past i c j d
        · obtain ⟨row2, k1, k2⟩ := B.closed j d _ t hj z h2
          exact .inl ⟨row2, k1, sle_trans k2 (sle_snoc d m2)⟩
        · have hj2 := (List.getElem?_eq_some_iff.mp hj).1
          have hij : i ≤ j := by
            rcases Nat.lt_or_ge j i with q | q
            · exact absurd (.inl q) z
            · exact q
          have hi : Q[i]? = some Q[i] := List.getElem?_eq_getElem (by omega)
          refine .inr ⟨_, hi, ?_⟩
          refine sle_trans ?_ (sle_snoc d m2)
          by_cases q : i = j
          · subst q
            rw [hi] at hj
            have hj := Option.some.inj hj
            rw [hj]
            by_cases q2 : d = c
            · rw [q2]
              exact sle_refl _
            · exact (sl_last (show c < d by
                rcases Nat.lt_or_ge d c with q3 | q3
                · exact absurd (.inr ⟨rfl, q3⟩) z
                · omega) _).le
          · exact (sl_snoc _ _ (B.incr i j _ _ (by omega) hi hj)).le
      · exact .inr ⟨p, m1, sle_longer d m2⟩
/-- the search is at its end -/
theorem BF.all (B : BF w s Q i c) (h : Q.length ≤ i) {r : List Nat} {t : Nat} (hr : run w s r = some t) : ∃ row, (t, row) ∈ Q ∧ sle row r := by
  rcases B.frontier _ r t rfl hr with h1 | ⟨p, hp, _⟩
  · exact h1
  · have := (List.getElem?_eq_some_iff.mp hp).1
    omega
theorem BF.reach (B : BF w s Q i c) (h : Q.length ≤ i) (t : Nat) : t ∈ Q.map (·.1) ↔ Reach w s t := by
  constructor
  · intro ht
    obtain ⟨p, hp, e⟩ := List.mem_map.mp ht
    exact ⟨p.2, by rw [← e]; exact B.runs p hp⟩
  · rintro ⟨r, hr⟩
    obtain ⟨row, h1, _⟩ := B.all h hr
    exact List.mem_map.mpr ⟨_, h1, rfl⟩
/-- of what is found the first that is wanted has the shortest row, where none behind can be better -/
theorem BF.best (B : BF w s Q i c) {f : Nat → Bool} {b : Nat} {q : Nat × List Nat} (hq : Q[b]? = some q) (hf : f q.1 = true) (first : ∀ a p, a < b → Q[a]? = some p → f p.1 = false)
    (rest : ∀ p, Q[i]? = some p → sle q.2 (p.2 ++ [c])) : Best w s f q.2 := by
  refine best_of ⟨q.1, B.runs q (List.mem_of_getElem? hq), hf⟩ fun r t hr ht => ?_
  rcases B.frontier _ r t rfl hr with ⟨row, h1, h2⟩ | ⟨p, hp, h2⟩
  · obtain ⟨a, ha⟩ := List.getElem?_of_mem h1
    refine sle_trans ?_ h2
    rcases Nat.lt_trichotomy a b with z | z | z
    · have := first a _ z ha
      rw [ht] at this
      cases this
    · subst z
      rw [ha] at hq
      cases hq
      exact sle_refl _
    · exact (B.incr b a _ _ z hq ha).le
  · exact sle_trans (rest p hp) h2
/-- the first that is wanted is just being found, or stands at the place that is looked at -/
theorem BF.best_any (B : BF w s Q i c) {f : Nat → Bool} {b : Nat} {q : Nat × List Nat} (hq : Q[b]? = some q) (hf : f q.1 = true) (first : ∀ a p, a < b → Q[a]? = some p → f p.1 = false) : Best w s f q.2 :=
  B.best hq hf first fun _ hp => (B.less hp hq).le
theorem BF.none (B : BF w s Q i c) (h : Q.length ≤ i) {f : Nat → Bool} (hf : ∀ t ∈ Q.map (·.1), f t = false) : ∀ t, Reach w s t → f t = false := fun t ht => hf t ((B.reach h t).mpr ht)
theorem nodup_le : ∀ (n : Nat) (l : List Nat), l.Nodup → (∀ x ∈ l, x < n) → l.length ≤ n
  | 0, l, _, h => by
    cases l with
    | nil => exact Nat.le_refl _
    | cons a l => have := h a List.mem_cons_self; omega
  | n + 1, l, hn, h => by
    have e := List.length_erase (a := n) (l := l)
    have ih := nodup_le n (l.erase n) (hn.erase n) fun x hx => by
      have hx := (hn.mem_erase_iff).mp hx
      have := h x hx.2
      have := hx.1
      omega
    split at e <;> omega
theorem BF.states (B : BF w s Q i c) (g : Good w) (hs : s < 2 ^ w.m) {t : Nat} (h : t ∈ Q.map (·.1)) : t < 2 ^ w.m := by
  obtain ⟨p, hp, e⟩ := List.mem_map.mp h
  rw [← e]
  exact run_lt g p.2 s p.1 hs (B.runs p hp)
theorem BF.size (B : BF w s Q i c) (g : Good w) (hs : s < 2 ^ w.m) : Q.length ≤ 2 ^ w.m := by
  have := nodup_le (2 ^ w.m) (Q.map (·.1)) B.nodup fun x hx => B.states g hs hx
  rwa [List.length_map] at this
end
end Mth

namespace Mth
open Kp371
/-! ### rising lists -/
theorem sorted_ext : ∀ {l r : List Nat}, l.Pairwise (· < ·) → r.Pairwise (· < ·) → (∀ x, x ∈ l ↔ x ∈ r) → l = r
  | [], [], _, _, _ => rfl
  | [], b :: r, _, _, h => absurd ((h b).mpr List.mem_cons_self) (by simp)
  | a :: l, [], _, _, h => absurd ((h a).mp List.mem_cons_self) (by simp)
  | a :: l, b :: r, hl, hr, h => by
    obtain ⟨hl1, hl2⟩ := List.pairwise_cons.mp hl
    obtain ⟨hr1, hr2⟩ := List.pairwise_cons.mp hr
    have e : a = b := by
      rcases List.mem_cons.mp ((h a).mp List.mem_cons_self) with e | h1
      · exact e
      · rcases List.mem_cons.mp ((h b).mpr List.mem_cons_self) with e | h2
        · exact e.symm
        · have := hl1 b h2
          have := hr1 a h1
          omega
    subst e
    have : l = r := sorted_ext hl2 hr2 fun x => by
      constructor
      · intro hx
        rcases List.mem_cons.mp ((h x).mp (List.mem_cons_of_mem _ hx)) with e | h1
        · have := hl1 x hx
          omega
        · exact h1
      · intro hx
        rcases List.mem_cons.mp ((h x).mpr (List.mem_cons_of_mem _ hx)) with e | h1
        · have := hr1 x hx
          omega
        · exact h1
    rw [this]
theorem range_rising (n : Nat) : (List.range n).Pairwise (· < ·) := List.pairwise_lt_range
theorem reach_rising {w : World} {s : Nat} (hs : s < 2 ^ w.m) : (reach w s).Pairwise (· < ·) := by
  obtain ⟨j, e1, _⟩ := reach_lv hs
  rw [e1, lv_filter hs j]
  exact (range_rising _).filter _
/-- a rising list of just what can come is the specification's -/
theorem reach_is {w : World} (g : Good w) {s : Nat} (hs : s < 2 ^ w.m) {l : List Nat} (h1 : l.Pairwise (· < ·)) (h2 : ∀ t, t ∈ l ↔ Reach w s t) : reach w s = l :=
  sorted_ext (reach_rising hs) h1 fun t => (mem_reach g hs).trans (h2 t).symm
theorem reach_lt {w : World} (g : Good w) {s t : Nat} (hs : s < 2 ^ w.m) (h : Reach w s t) : t < 2 ^ w.m := by
  obtain ⟨l, hl⟩ := h
  exact run_lt g l s t hs hl
theorem any_reach {w : World} (g : Good w) {s : Nat} (hs : s < 2 ^ w.m) (f : Nat → Bool) : (reach w s).any f = true ↔ ∃ t, Reach w s t ∧ f t = true := by
  rw [List.any_eq_true]
  constructor
  · rintro ⟨t, h1, h2⟩
    exact ⟨t, (mem_reach g hs).mp h1, h2⟩
  · rintro ⟨t, h1, h2⟩
    exact ⟨t, (mem_reach g hs).mpr h1, h2⟩
theorem all_reach {w : World} (g : Good w) {s : Nat} (hs : s < 2 ^ w.m) (f : Nat → Bool) : (reach w s).all f = true ↔ ∀ t, Reach w s t → f t = true := by
  rw [List.all_eq_true]
  constructor
  · exact fun h t ht => h t ((mem_reach g hs).mpr ht)
  · exact fun h t ht => h t ((mem_reach g hs).mp ht)
/-- whether the aim can come, by the shortest row -/
theorem any_shortest {w : World} (g : Good w) {s : Nat} (hs : s < 2 ^ w.m) (f : Nat → Bool) : (reach w s).any f = (shortest w s f).isSome := by
  rw [Bool.eq_iff_iff, any_reach g hs]
  cases h : shortest w s f with
  | none =>
    have := (shortest_none g hs).mp h
    constructor
    · rintro ⟨t, h1, h2⟩
      rw [this t h1] at h2
      cases h2
    · intro z
      cases z
  | some l =>
    obtain ⟨t, h1, h2⟩ := ((shortest_some g hs).mp h).is
    exact ⟨fun _ => rfl, fun _ => ⟨t, ⟨l, h1⟩, h2⟩⟩
theorem fewest_shortest {w : World} (g : Good w) {s : Nat} (hs : s < 2 ^ w.m) (f : Nat → Bool) : fewest w s f = (shortest w s f).map List.length := by
  cases h : shortest w s f with
  | none => exact (fewest_none g hs).mpr ((shortest_none g hs).mp h)
  | some l => exact (fewest_some g hs).mpr ((shortest_some g hs).mp h).few
end Mth

namespace Mth
open Kp371
/-! ### how long the rows are -/
theorem lexlt_irrefl : ∀ (l : List Nat), ¬ lexlt l l
  | [], h => h
  | a :: l, h => by
    rcases h with h | ⟨_, h⟩
    · omega
    · exact lexlt_irrefl l h
theorem sl_len {l r : List Nat} (h : sl l r) : l.length ≤ r.length := by
  rcases h with h | ⟨e, _⟩ <;> omega
theorem BF.row_len {w : World} {s : Nat} {Q : List (Nat × List Nat)} {i c : Nat} (B : BF w s Q i c) : ∀ (n b : Nat), b ≤ n → ∀ pb, Q[b]? = some pb → pb.2.length ≤ b
  | n, b, hn, pb, hb => by
    rcases B.from_ b pb hb with e | ⟨a, d, pa, h1, h2, _, _⟩
    · rw [e]
      exact Nat.zero_le _
    · have hl : pb.2.length = pa.2.length + 1 := by rw [h2]; simp
      have hab : a < b := by
        rcases Nat.lt_trichotomy a b with z | z | z
        · exact z
        · subst z
          rw [h1] at hb
          cases hb
          omega
        · have := sl_len (B.incr b a pb pa z hb h1)
          omega
      cases n with
      | zero => omega
      | succ n =>
        have := BF.row_len B n a (by omega) pa h1
        omega
theorem BF.row_short {w : World} {s : Nat} {Q : List (Nat × List Nat)} {i c : Nat} (B : BF w s Q i c) (g : Good w) (hs : s < 2 ^ w.m) {p : Nat × List Nat} (hp : p ∈ Q) : p.2.length ≤ 32 := by
  obtain ⟨b, hb⟩ := List.getElem?_of_mem hp
  have h1 := B.row_len b b (Nat.le_refl _) p hb
  have h2 := (List.getElem?_eq_some_iff.mp hb).1
  have h3 := B.size g hs
  have h4 : 2 ^ w.m ≤ 2 ^ 5 := Nat.pow_le_pow_right (by decide) g.hi
  omega
theorem BF.size32 {w : World} {s : Nat} {Q : List (Nat × List Nat)} {i c : Nat} (B : BF w s Q i c) (g : Good w) (hs : s < 2 ^ w.m) : Q.length ≤ 32 := by
  have h3 := B.size g hs
  have h4 : 2 ^ w.m ≤ 2 ^ 5 := Nat.pow_le_pow_right (by decide) g.hi
  omega
/-! ### waiting -/
theorem itself_succ (w : World) : ∀ (k s : Nat), itself w s (k + 1) = happen w (itself w s k)
  | 0, s => rfl
  | k + 1, s => by
    show itself w (happen w s) (k + 1) = happen w (itself w (happen w s) k)
    exact itself_succ w k (happen w s)
theorem step_wait (w : World) (s : Nat) : stepBy w s w.deeds.length = some (happen w s) := by
  unfold stepBy
  rw [List.getElem?_eq_none (Nat.le_refl _)]
  exact if_pos rfl
theorem step_deed {w : World} {s i : Nat} {d : Deed} (h : w.deeds[i]? = some d) : stepBy w s i = if able s d then some (happen w (done_ s d)) else none := by
  unfold stepBy
  rw [h]
/-! ### what is sorted -/
theorem lt_of_le_nodup : ∀ {ys : List Int}, ys.Pairwise (· ≤ ·) → ys.Nodup → ys.Pairwise (· < ·)
  | [], _, _ => .nil
  | a :: l, h, n => by
    obtain ⟨h1, h2⟩ := List.pairwise_cons.mp h
    obtain ⟨n1, n2⟩ := List.nodup_cons.mp n
    refine List.pairwise_cons.mpr ⟨fun b hb => ?_, lt_of_le_nodup h2 n2⟩
    have := h1 b hb
    have : a ≠ b := fun z => n1 (by rw [z]; exact hb)
    omega
def castL (l : List Nat) : List Int := l.map fun (x : Nat) => (x : Int)
theorem castL_nodup {l : List Nat} (h : l.Nodup) : (castL l).Nodup := by
  unfold castL
  induction l with
  | nil => exact .nil
  | cons a l ih =>
    obtain ⟨h1, h2⟩ := List.nodup_cons.mp h
    rw [List.map_cons]
    refine List.nodup_cons.mpr ⟨fun z => h1 ?_, ih h2⟩
    obtain ⟨b, hb, e⟩ := List.mem_map.mp z
    have : b = a := by omega
    rw [← this]
    exact hb
theorem castL_toNat (l : List Nat) : (castL l).map Int.toNat = l := by
  unfold castL
  rw [List.map_map]
  induction l with
  | nil => rfl
  | cons a l ih =>
    rw [List.map_cons, ih]
    rfl
theorem toNat_castL : ∀ {ys : List Int}, (∀ y ∈ ys, 0 ≤ y) → castL (ys.map Int.toNat) = ys
  | [], _ => rfl
  | a :: l, h => by
    have h1 := h a List.mem_cons_self
    have ih := toNat_castL (ys := l) fun y hy => h y (List.mem_cons_of_mem _ hy)
    unfold castL at ih ⊢
    rw [List.map_cons, List.map_cons, ih, Int.toNat_of_nonneg h1]
theorem rising_toNat : ∀ {ys : List Int}, (∀ y ∈ ys, 0 ≤ y) → ys.Pairwise (· < ·) → (ys.map Int.toNat).Pairwise (· < ·)
  | [], _, _ => .nil
  | a :: l, h, p => by
    obtain ⟨h1, h2⟩ := List.pairwise_cons.mp p
    rw [List.map_cons]
    refine List.pairwise_cons.mpr ⟨fun b hb => ?_, rising_toNat (fun y hy => h y (List.mem_cons_of_mem _ hy)) h2⟩
    obtain ⟨c, hc, e⟩ := List.mem_map.mp hb
    have := h1 c hc
    have := h a List.mem_cons_self
    omega
/-- what sorted gives of just what can come -/
theorem sorted_reach {w : World} (g : Good w) {s : Nat} (hs : s < 2 ^ w.m) {l : List Nat} (hn : l.Nodup) (hl : ∀ t, t ∈ l ↔ Reach w s t) {ys : List Int} (hp : ys.Perm (castL l)) (hy : ys.Pairwise (· ≤ ·)) : ys = castL (reach w s) := by
  have nn : ys.Nodup := hp.nodup_iff.mpr (castL_nodup hn)
  have pos : ∀ y ∈ ys, 0 ≤ y := fun y hy => by
    obtain ⟨a, _, e⟩ := List.mem_map.mp (hp.mem_iff.mp hy)
    omega
  have e : reach w s = ys.map Int.toNat := reach_is g hs (rising_toNat pos (lt_of_le_nodup hy nn)) fun t => by
    rw [← hl t, (hp.map Int.toNat).mem_iff, castL_toNat]
  rw [e, toNat_castL pos]
/-! ### settled -/
def mix (now : Nat) (l : List Nat) : Nat := l.foldl (fun (c t : Nat) => c ||| (t ^^^ now)) 0
theorem mix_bit (now q : Nat) : ∀ (l : List Nat) (c : Nat), (l.foldl (fun (c t : Nat) => c ||| (t ^^^ now)) c).testBit q = (c.testBit q || l.any fun t => t.testBit q != now.testBit q)
  | [], c => by simp
  | a :: l, c => by
    rw [List.foldl_cons, mix_bit now q l, Nat.testBit_or, Nat.testBit_xor, List.any_cons, Bool.or_assoc]
theorem bit_within (q c : Nat) : decide (2 ^ q &&& c = 2 ^ q) = c.testBit q := by
  cases h : c.testBit q with
  | true =>
    refine decide_eq_true (Nat.eq_of_testBit_eq fun i => ?_)
    rw [Nat.testBit_and, Nat.testBit_two_pow]
    by_cases z : q = i
    · subst z
      rw [h]
      simp
    · simp [z]
  | false =>
    refine decide_eq_false fun z => ?_
    have e := congrArg (fun (x : Nat) => x.testBit q) z
    simp only [Nat.testBit_and, Nat.testBit_two_pow_self, h] at e
    cases e
theorem settled_is {w : World} (g : Good w) {l : List Nat} (hl : ∀ t, t ∈ l ↔ Reach w w.now t) : settled w = (List.range w.m).filter fun q => !decide (2 ^ q &&& mix w.now l = 2 ^ q) := by
  unfold settled
  refine List.filter_congr fun q _ => ?_
  rw [bit_within, Bool.eq_iff_iff]
  unfold mix
  rw [mix_bit, Nat.zero_testBit, Bool.false_or]
  show (reach w w.now).all (fun t => t.testBit q == w.now.testBit q) = true ↔ _
  rw [all_reach g g.now]
  constructor
  · intro h
    rw [Bool.not_eq_true', List.any_eq_false]
    intro t ht
    have := h t ((hl t).mp ht)
    simpa using this
  · intro h t ht
    rw [Bool.not_eq_true', List.any_eq_false] at h
    have := h t ((hl t).mpr ht)
    simpa using this
/-! ### never -/
def ever (w : World) (l : List Nat) (i : Nat) : Bool := match w.deeds[i]? with
  | some d => l.any fun t => able t d
  | none => false
theorem never_is {w : World} (g : Good w) {l : List Nat} (hl : ∀ t, t ∈ l ↔ Reach w w.now t) : never w = (List.range w.deeds.length).filter fun i => !ever w l i := by
  unfold never
  refine List.filter_congr fun i _ => ?_
  unfold ever
  cases h : w.deeds[i]? with
  | none =>
    show (reach w w.now).all (fun t => true) = !false
    simp
  | some d =>
    show (reach w w.now).all (fun t => !able t d) = !(l.any fun t => able t d)
    rw [Bool.eq_iff_iff, all_reach g g.now, Bool.not_eq_true', List.any_eq_false]
    constructor
    · intro k t ht
      have := k t ((hl t).mp ht)
      simpa using this
    · intro k t ht
      have := k t ((hl t).mpr ht)
      simpa using this
/-! ### the shortest rows by a search that's at its end -/
theorem BF.shortest_at {w : World} (g : Good w) {s : Nat} (hs : s < 2 ^ w.m) {Q : List (Nat × List Nat)} {i c : Nat} (B : BF w s Q i c) {f : Nat → Bool} {b : Nat} {q : Nat × List Nat} (hq : Q[b]? = some q) (hf : f q.1 = true) (first : ∀ a p, a < b → Q[a]? = some p → f p.1 = false) : shortest w s f = some q.2 :=
  (shortest_some g hs).mpr (B.best_any hq hf first)
theorem BF.shortest_not {w : World} (g : Good w) {s : Nat} (hs : s < 2 ^ w.m) {Q : List (Nat × List Nat)} {i c : Nat} (B : BF w s Q i c) (h : Q.length ≤ i) {f : Nat → Bool} (hf : ∀ t ∈ Q.map (·.1), f t = false) : shortest w s f = Option.none :=
  (shortest_none g hs).mpr (B.none h hf)
/-- the row to one state -/
theorem BF.shortest_to {w : World} (g : Good w) {s : Nat} (hs : s < 2 ^ w.m) {Q : List (Nat × List Nat)} {i c : Nat} (B : BF w s Q i c) {u : Nat} {row : List Nat} (h : (u, row) ∈ Q) : shortest w s (fun t => t == u) = some row := by
  obtain ⟨b, hb⟩ := List.getElem?_of_mem h
  refine B.shortest_at g hs hb (beq_self_eq_true u) fun a p hab ha => ?_
  have hne : p.1 ≠ u := fun z => by
    have h1 : (Q.map (·.1))[a]? = some u := by rw [List.getElem?_map, ha]; exact congrArg some z
    have h2 : (Q.map (·.1))[b]? = some u := by rw [List.getElem?_map, hb]; rfl
    have ha' := (List.getElem?_eq_some_iff.mp h1).1
    have := (List.getElem?_inj ha' B.nodup).mp (h1.trans h2.symm)
    omega
  simpa using hne
end Mth
namespace D
/-! ### play -/
theorem play_stuck (m : M) (a b : Nat) : ∀ (l : List Nat), l.foldl (fun (a : Nat × Nat × Bool) (i : Nat) => if a.2.2 then a else match Kp371.stepBy (wOf m) a.1 i with
  | none => (a.1, a.2.1, true)
  | some t => (t, a.2.1 + 1, false)) (a, b, true) = (a, b, true)
  | [] => rfl
  | x :: l => by
    rw [List.foldl_cons]
    exact play_stuck m a b l
theorem play_more {m : M} {l : List Nat} {i c st : Nat} (h : l[i]? = some c) (hp : playF m (l.take i) = (st, i, false)) {t : Nat} (ht : Kp371.stepBy (wOf m) st c = some t) : playF m (l.take (i + 1)) = (t, i + 1, false) := by
  rw [take_more h]
  unfold playF at hp ⊢
  rw [List.foldl_append, hp]
  show (match Kp371.stepBy (wOf m) st c with
    | none => (st, i, true)
    | some t => (t, i + 1, false)) = _
  rw [ht]
theorem play_stop {m : M} {l : List Nat} {i c st : Nat} (h : l[i]? = some c) (hp : playF m (l.take i) = (st, i, false)) (ht : Kp371.stepBy (wOf m) st c = none) : playF m l = (st, i, true) := by
  have hi := (List.getElem?_eq_some_iff.mp h).1
  have e : l = l.take i ++ c :: l.drop (i + 1) := by
    have h2 : l.drop i = c :: l.drop (i + 1) := by
      rw [List.drop_eq_getElem_cons hi]
      rw [List.getElem?_eq_getElem hi] at h
      cases h
      rfl
    rw [← h2, List.take_append_drop]
  rw [e]
  unfold playF at hp ⊢
  rw [List.foldl_append, hp, List.foldl_cons]
  show List.foldl _ (match Kp371.stepBy (wOf m) st c with
    | none => (st, i, true)
    | some t => (t, i + 1, false)) _ = _
  rw [ht]
  exact play_stuck m st i _
end D

set_option maxRecDepth 100000
set_option maxHeartbeats 2000000
namespace D
open PySem PySem.Spec PyProof.Rows L2
/-! ### numbers -/
theorem band (a b : Nat) : Builtin.bitAnd (a : Int) (b : Int) = ((a &&& b : Nat) : Int) := PySem.W.os_band a b
theorem bclear (s c : Nat) : Builtin.bitAnd (s : Int) (Builtin.bitNot (c : Int)) = ((s - (s &&& c) : Nat) : Int) := by
  rw [bitAnd_not, band]
  have : s &&& c ≤ s := Nat.and_le_left
  omega
theorem bor (a b : Nat) : Builtin.bitOr (a : Int) (b : Int) = ((a ||| b : Nat) : Int) := by
  rw [Bits.bitOr_pp (Int.natCast_nonneg a) (Int.natCast_nonneg b), Int.toNat_natCast, Int.toNat_natCast]
theorem nat_eq_dec (a b : Nat) : decide ((V.int (a : Int)) = V.int (b : Int)) = decide (a = b) := by
  by_cases h : a = b
  · subst h; simp
  · rw [decide_eq_false h]
    exact decide_eq_false fun e => h (by injection e with e; omega)
/-! ### the text -/
def top (i : Nat) : Stmt := PySem.Challenge.pw_whatcanbedesk_s01_answers.main.body.getD i (.Pass ⟨0, 0, 0, 0⟩)
/-! ### what may be called, by name -/
/-- a def of the top -/
def Cal (P : Program) (w : World) (K : PySem.W.Frag) (mg : Str → Option Value) (base : Heap) (k : Nat) (x : Str) (ps : List Str) (sp : Sp) : Prop :=
  ∃ (f : Addr) (fd : FuncData), mg x = some (.ref f) ∧ PySem.W.keepIn K (.ref f) = true ∧ Binds K fd ps [] ∧ FnOk P w K mg base CX0 k f fd ps sp
/-- a method -/
def Met (P : Program) (w : World) (K : PySem.W.Frag) (mg : Str → Option Value) (base : Heap) (C : Addr) (k : Nat) (x : Str) (ps : List Str) (sp : Sp) : Prop :=
  ∃ (f : Addr) (fd : FuncData), Meth K C x f ∧ Binds K fd ps [] ∧ FnOk P w K mg base CX0 k f fd ps sp
/-- a number's name -/
def Cst (mg : Str → Option Value) (x : Str) (v : Int) : Prop := ∃ t, mg x = some (.int v t)
section
variable {X : Cx} {k j : Nat} {C : Addr} {x m : Str} {ps : List Str} {sp : Sp} {p pos apos : Pos} {e o : Expr} {es : List Expr} {ta : TE} {t : TA}
theorem pe_cst {v : Int} (h : Cst X.mg x v) (hg : Gl X x := by rfl) (hd : (x == ("__debug__" : Str)) = false := by decide) : PE X (.Name x pos) (tC (.int v)) := by
  obtain ⟨t, h⟩ := h
  exact pe_glob hg h ⟨_, rfl⟩ hd
theorem pe_cal (c : Cal X.prog X.w X.K X.mg X.base k x ps sp) (hr : Room j X.A) (hk : k ≤ j) (ha : PA X (e :: es) t) (hg : Gl X x := by rfl)
    (hdb : (x == ("__debug__" : Str)) = false := by decide) (he : starEach (e :: es) X.env = (false, eval e X.env) :: starEach es X.env := by rfl) (hpl : (backTo pos (starEach es X.env)).any (·.1) = false := by rfl) :
    PE X (.Call (.Name x p) (e :: es) [] pos) (tCall sp [] E0 t) := by
  obtain ⟨f, fd, hm, kp, b, F⟩ := c
  exact pe_call F (hr.mono hk) hg hm kp b .nil pass0 ha hdb he hpl
theorem pe_met {pl : Sem Bool} (hc : Cls X.K C) (c : Met X.prog X.w X.K X.mg X.base C k m ps sp) (hr : Room j X.A) (hk : k ≤ j) (he : PE X o ta) (ha : PA X (e :: es) t)
    (hst : starEach (e :: es) X.env = (false, eval e X.env) :: starEach es X.env := by rfl) (hpl : (backTo pos (starEach es X.env)).any (·.1) = false := by rfl)
    (ht : eval (.Call (.Attribute o m apos) (e :: es) [] pos) X.env = (do
      let ov ← eval o X.env
      standAt apos.atName
      let (f, first) ← holding [ov] (getMethod ov m pl)
      callWith pos f first (backTo pos (starEach (e :: es) X.env)) (backToKw pos (keywordEach [] X.env))) := by rfl) :
    PE X (.Call (.Attribute o m apos) (e :: es) [] pos) (tMeth C m sp [] E0 ta t) := by
  obtain ⟨f, fd, hm, b, F⟩ := c
  exact pe_meth (pl := pl) he hc hm F (hr.mono hk) b .nil pass0 ha hst hpl ht
theorem pe_met0 {pl : Sem Bool} (hc : Cls X.K C) (c : Met X.prog X.w X.K X.mg X.base C k m ps sp) (hr : Room j X.A) (hk : k ≤ j) (he : PE X o ta)
    (ht : eval (.Call (.Attribute o m apos) [] [] pos) X.env = (do
      let ov ← eval o X.env
      standAt apos.atName
      let (f, first) ← holding [ov] (getMethod ov m pl)
      callWith pos f first (backTo pos (starEach [] X.env)) (backToKw pos (keywordEach [] X.env))) := by rfl) :
    PE X (.Call (.Attribute o m apos) [] [] pos) (tMeth C m sp [] E0 ta tNil) := by
  obtain ⟨f, fd, hm, b, F⟩ := c
  exact pe_meth0 (pl := pl) he hc hm F (hr.mono hk) b .nil pass0 ht
end
/-- an if whose test is known -/
theorem if_true_of {c : Bool} {A B : Prop} (hc : c = true) (h : A) : if c = true then A else B := by
  rw [if_pos hc]
  exact h
theorem if_false_of {c : Bool} {A B : Prop} (hc : c = false) (h : B) : if c = true then A else B := by
  rw [hc, if_neg Bool.false_ne_true]
  exact h
theorem if_either {c : Bool} {A B : Prop} (h1 : c = true → A) (h2 : c = false → B) : if c = true then A else B := by
  cases hc : c with
  | true => rw [if_pos rfl]; exact h1 hc
  | false => rw [if_neg Bool.false_ne_true]; exact h2 hc
/-- a class that may be made by its name; sp: its __init__ -/
def Mak (P : Program) (w : World) (K : PySem.W.Frag) (mg : Str → Option Value) (base : Heap) (C : Addr) (k : Nat) (x : Str) (ps : List Str) (sp : Sp) : Prop :=
  ∃ (f : Addr) (fd : FuncData), Mk K C f ∧ mg x = some (.ref C) ∧ Binds K fd ps [] ∧ FnOk P w K mg base CX0 k f fd ps sp
theorem pe_mk0 {X : Cx} {k j : Nat} {C : Addr} {x : Str} {ps : List Str} {sp : Sp} {p pos : Pos} (c : Mak X.prog X.w X.K X.mg X.base C k x ps sp) (hr : Room j X.A) (hk : k + 1 ≤ j) (hg : Gl X x := by rfl)
    (hdb : (x == ("__debug__" : Str)) = false := by decide) : PE X (.Call (.Name x p) [] [] pos) (tMake C sp [] E0 tNil) := by
  obtain ⟨f, fd, M, hm, b, F⟩ := c
  exact pe_make0 M F (hr.mono hk) hg hm b .nil pass0 hdb
/-! ### what the heap holds -/
def rv (d : Kp371.Deed) : List V := [.int (d.needs : Nat), .int (d.so : Nat), .int (d.makes : Nat), .int (d.thus : Nat)]
theorem rv_at {d : Kp371.Deed} {j : Nat} {v : V} (h : (rv d)[j]? = some v) : atI (rv d) (j : Int) = some v := atI_nat h
/-- at l lies a list of these rules -/
def RulesAt (H : Hp) (l : Addr) (ds : List Kp371.Deed) : Prop := ∃ ts : List Addr, H l = some (.lst (ts.map V.ref)) ∧ ts.length = ds.length ∧ ∀ (i : Nat) (t : Addr) (d : Kp371.Deed), ts[i]? = some t → ds[i]? = some d → H t = some (.tup (rv d))
theorem RulesAt.keep {H H' : Hp} {l : Addr} {ds : List Kp371.Deed} (r : RulesAt H l ds) (hl : ∀ o, H l = some o → H' l = some o) (ht : ∀ b xs, H b = some (.tup xs) → H' b = some (.tup xs)) : RulesAt H' l ds := by
  obtain ⟨ts, h1, h2, h3⟩ := r
  exact ⟨ts, hl _ h1, h2, fun i t d a b => ht _ _ (h3 i t d a b)⟩
theorem small {n : Nat} (h : n ≤ 1000) : n ≤ sizeLine := Nat.le_of_lt (small1000 h)
theorem small1 {x : V} : [x].length ≤ sizeLine := small (show 1 ≤ 1000 by decide)
/-! ### what an expression gives is locked from then on -/
def tFrz (t : TE) : TE := fun σ H Q => t σ H fun x H1 => ∃ d u, x = .ref d ∧ H1 d = some u ∧ Mut (some u) ∧ ∀ od, Q x (upd H1 d (.frz od u))
theorem pe_frz {X : Cx} {e : Expr} {t : TE} (h : PE X e t) : PE X e (tFrz t) := by
  refine ⟨fun pins s σ H Q I hw => ?_⟩
  refine thn (h.run pins s σ _ _ I hw) fun v s1 ⟨x, H1, I1, r, d, u, e1, hd, mu, q⟩ => ?_
  obtain ⟨od, I2⟩ := I1.lock hd mu
  exact ⟨x, _, I2, r, q od⟩
theorem bxor (a b : Nat) : Builtin.bitXor (a : Int) (b : Int) = ((a ^^^ b : Nat) : Int) := by
  have e := Bits.bitXor_pp (x := (a : Int)) (y := (b : Int)) (Int.natCast_nonneg a) (Int.natCast_nonneg b)
  rw [e, Int.toNat_natCast, Int.toNat_natCast]

/-- what the top has written, told by names -/
structure Txt (K : PySem.W.Frag) (mg : Str → Option Value) (C : Addr) : Prop where
  cl : Cls K C
  a_begun : NoAttr K C "begun"
  a_all_facts : NoAttr K C "all_facts"
  a_state : NoAttr K C "state"
  a_deeds : NoAttr K C "deeds"
  a_events : NoAttr K C "events"
  c_LEAST_FACTS : Cst mg "LEAST_FACTS" (2)
  c_MOST_FACTS : Cst mg "MOST_FACTS" (5)
  c_MOST_DEEDS : Cst mg "MOST_DEEDS" (6)
  c_MOST_EVENTS : Cst mg "MOST_EVENTS" (3)
  c_MOST_STEPS : Cst mg "MOST_STEPS" (40)
  c_NO_SUCH : Cst mg "NO_SUCH" (-2)
  c_NEED_NOT_SO : Cst mg "NEED_NOT_SO" (-6)
  c_NOT_AS_TOLD : Cst mg "NOT_AS_TOLD" (-22)
  c_NO_ROOM : Cst mg "NO_ROOM" (-28)
  c_CAN_NOT_COME : Cst mg "CAN_NOT_COME" (-33)
  c_BEGIN : Cst mg "BEGIN" (0)
  c_DEED : Cst mg "DEED" (1)
  c_EVENT : Cst mg "EVENT" (2)
  c_UNDEED : Cst mg "UNDEED" (3)
  c_UNEVENT : Cst mg "UNEVENT" (4)
  c_DEEDIS : Cst mg "DEEDIS" (5)
  c_EVENTIS : Cst mg "EVENTIS" (6)
  c_SET_TO : Cst mg "SET_TO" (7)
  c_NOW : Cst mg "NOW" (8)
  c_ABLE : Cst mg "ABLE" (9)
  c_DO : Cst mg "DO" (10)
  c_WAIT : Cst mg "WAIT" (11)
  c_REACH : Cst mg "REACH" (12)
  c_CANBE : Cst mg "CANBE" (13)
  c_FEWEST : Cst mg "FEWEST" (14)
  c_ROW : Cst mg "ROW" (15)
  c_UNDO : Cst mg "UNDO" (16)
  c_LOST : Cst mg "LOST" (17)
  c_SETTLED : Cst mg "SETTLED" (18)
  c_NEVER : Cst mg "NEVER" (19)
  c_BYITSELF : Cst mg "BYITSELF" (20)
  c_NOT_BEGUN : Cst mg "NOT_BEGUN" (-11)
  n_any : mg "any" = none
  n_len : mg "len" = none
  n_list : mg "list" = none
  n_range : mg "range" = none
  n_sorted : mg "sorted" = none
  n_tuple : mg "tuple" = none

section
variable {P : Program} {w : World} {K : PySem.W.Frag} {mg : Str → Option Value} {base : Heap} {C : Addr}
/-! ### the small defs -/

abbrev s_is_within : Stmt := top 10
theorem sc_is_within : FnScope ["part", "whole"] ["part", "whole"] (defScope s_is_within) := ⟨rfl, rfl, rfl, by decide +kernel, rfl, by decide +kernel, by decide +kernel⟩
def sp_is_within : Sp := fun vs H Q _ => ∃ p q : Nat, vs = [.int p, .int q] ∧ Q (.bl (decide (p &&& q = p))) H
theorem ok_is_within {f : Addr} {fd : FuncData} (F : Fun K "is_within" "is_within" s_is_within f fd) (T : Txt K mg C)  : FnOk P w K mg base CX0 1 f fd ["part", "whole"] (sp_is_within) := by
  refine F.ok sc_is_within (fun vs H Q E h => ?_) (fun cdv A outer s H vs Q E hr h => ?_)
  · obtain ⟨p, q, rfl, _⟩ := h
    rfl
  · refine ⟨_, (pss_one (ps_ret (pe_cmpR op_eq (pe_op op_and (pv 0) (pv 1)) (pv 0) (nomark _)))), ?_⟩
    obtain ⟨p, q, rfl, k⟩ := h
    refine ⟨_, rfl, _, rfl, _, _, rfl, rfl, _, rfl, rfl, ?_⟩
    show Q (V.bl (decide (V.int (Builtin.bitAnd (p : Int) (q : Int)) = V.int (p : Int)))) H
    rw [band, nat_eq_dec]
    exact k

abbrev s_is_met : Stmt := top 11
theorem sc_is_met : FnScope ["rule", "state"] ["rule", "state"] (defScope s_is_met) := ⟨rfl, rfl, rfl, by decide +kernel, rfl, by decide +kernel, by decide +kernel⟩
def sp_is_met : Sp := fun vs H Q _ => ∃ (t : Addr) (d : Kp371.Deed) (s : Nat), vs = [.ref t, .int s] ∧ (H t = some (.tup (rv d)) ∨ H t = some (.lst [.int (d.needs : Nat), .int (d.so : Nat)])) ∧ Q (.bl (Kp371.able s d)) H
theorem ok_is_met {f : Addr} {fd : FuncData} (F : Fun K "is_met" "is_met" s_is_met f fd) (T : Txt K mg C)  : FnOk P w K mg base CX0 1 f fd ["rule", "state"] (sp_is_met) := by
  refine F.ok sc_is_met (fun vs H Q E h => ?_) (fun cdv A outer s H vs Q E hr h => ?_)
  · obtain ⟨t, d, s, rfl, _⟩ := h
    rfl
  · refine ⟨_, (pss_one (ps_ret (pe_cmpR op_eq (pe_op op_and (pv 1) (pe_ix ix_seq (pv 0) pe_int (fun _ _ => rfl))) (pe_ix ix_seq (pv 0) pe_int (fun _ _ => rfl)) (nomark _)))), ?_⟩
    obtain ⟨t, d, n, rfl, ht, k⟩ := h
    have e : V.bl (decide (V.int (Builtin.bitAnd (n : Int) (d.needs : Int)) = V.int (d.so : Int))) = V.bl (Kp371.able n d) := by
      rw [band, nat_eq_dec]
      rfl
    rcases ht with ht | ht
    · refine ⟨_, rfl, _, rfl, .inr (.inl ⟨t, _, _, _, rfl, rfl, SqT.of ht, rv_at (j := 0) rfl, _, _, rfl, rfl, _, rfl, .inr (.inl ⟨t, _, _, _, rfl, rfl, SqT.of ht, rv_at (j := 1) rfl, rfl, ?_⟩)⟩)⟩
      show Q (V.bl (decide (V.int (Builtin.bitAnd (n : Int) (d.needs : Int)) = V.int (d.so : Int)))) H
      rw [e]
      exact k
    · refine ⟨_, rfl, _, rfl, .inl ⟨t, _, _, _, rfl, rfl, SqL.of ht, atI_nat (j := 0) rfl, _, _, rfl, rfl, _, rfl, .inl ⟨t, _, _, _, rfl, rfl, SqL.of ht, atI_nat (j := 1) rfl, rfl, ?_⟩⟩⟩
      show Q (V.bl (decide (V.int (Builtin.bitAnd (n : Int) (d.needs : Int)) = V.int (d.so : Int)))) H
      rw [e]
      exact k

abbrev s_made_by : Stmt := top 12
theorem sc_made_by : FnScope ["rule", "state"] ["rule", "state"] (defScope s_made_by) := ⟨rfl, rfl, rfl, by decide +kernel, rfl, by decide +kernel, by decide +kernel⟩
def sp_made_by : Sp := fun vs H Q _ => ∃ (t : Addr) (d : Kp371.Deed) (s : Nat), vs = [.ref t, .int s] ∧ H t = some (.tup (rv d)) ∧ Q (.int (Kp371.done_ s d : Nat)) H
theorem ok_made_by {f : Addr} {fd : FuncData} (F : Fun K "made_by" "made_by" s_made_by f fd) (T : Txt K mg C)  : FnOk P w K mg base CX0 1 f fd ["rule", "state"] (sp_made_by) := by
  refine F.ok sc_made_by (fun vs H Q E h => ?_) (fun cdv A outer s H vs Q E hr h => ?_)
  · obtain ⟨t, d, s, rfl, _⟩ := h
    rfl
  · refine ⟨_, (pss_one (ps_ret (pe_op op_or (pe_op op_and (pv 1) (pe_un un_inv (pe_ix ix_tup (pv 0) pe_int (fun _ _ => rfl)))) (pe_ix ix_tup (pv 0) pe_int (fun _ _ => rfl))))), ?_⟩
    obtain ⟨t, d, n, rfl, ht, k⟩ := h
    refine ⟨_, rfl, _, rfl, t, _, _, _, rfl, rfl, SqT.of ht, rv_at (j := 2) rfl, _, rfl, _, _, rfl, rfl, _, rfl, t, _, _, _, rfl, rfl, SqT.of ht, rv_at (j := 3) rfl, _, _, rfl, rfl, ?_⟩
    show Q (V.int (Builtin.bitOr (Builtin.bitAnd (n : Int) (Builtin.bitNot (d.makes : Int))) (d.thus : Int))) H
    rw [bclear, bor]
    exact k

abbrev s_is_rule : Stmt := top 13
theorem sc_is_rule : FnScope ["rule", "all_facts"] ["rule", "all_facts"] (defScope s_is_rule) := ⟨rfl, rfl, rfl, by decide +kernel, rfl, by decide +kernel, by decide +kernel⟩
def sp_is_rule : Sp := fun vs H Q _ => ∃ (t : Addr) (d : Kp371.Deed) (full : Nat), vs = [.ref t, .int full] ∧ H t = some (.tup (rv d)) ∧ Q (.bl (okR d full)) H
theorem ok_is_rule {f : Addr} {fd : FuncData} (F : Fun K "is_rule" "is_rule" s_is_rule f fd) (T : Txt K mg C) (c_is_within : Cal P w K mg base 1 "is_within" ["part", "whole"] (sp_is_within)) : FnOk P w K mg base CX0 2 f fd ["rule", "all_facts"] (sp_is_rule) := by
  refine F.ok sc_is_rule (fun vs H Q E h => ?_) (fun cdv A outer s H vs Q E hr h => ?_)
  · obtain ⟨t, d, s, rfl, _⟩ := h
    rfl
  · refine ⟨_, (pss_cons (ps_if (PW.pt (pw_or (pt_not (pt_val (pe_cal c_is_within hr (by decide) (pa_cons (pe_ix ix_tup (pv 0) pe_int (fun _ _ => rfl)) (pa_cons (pv 1) pa_nil))))) (pw_or1 (pt_not (pt_val (pe_cal c_is_within hr (by decide) (pa_cons (pe_ix ix_tup (pv 0) pe_int (fun _ _ => rfl)) (pa_cons (pe_ix ix_tup (pv 0) pe_int (fun _ _ => rfl)) pa_nil)))))))) (pss_one (ps_ret pe_bl)) pss_nil)
      (pss_cons (ps_if (PW.pt (pw_or (pt_cmpR op_eq (pe_ix ix_tup (pv 0) pe_int (fun _ _ => rfl)) pe_int (nomark _)) (pw_or1 (pt_not (pt_val (pe_cal c_is_within hr (by decide) (pa_cons (pe_ix ix_tup (pv 0) pe_int (fun _ _ => rfl)) (pa_cons (pv 1) pa_nil)))))))) (pss_one (ps_ret pe_bl)) pss_nil)
      (pss_one (ps_ret (pe_cal c_is_within hr (by decide) (pa_cons (pe_ix ix_tup (pv 0) pe_int (fun _ _ => rfl)) (pa_cons (pe_ix ix_tup (pv 0) pe_int (fun _ _ => rfl)) pa_nil))))))), ?_⟩
    obtain ⟨t, d, n, rfl, ht, k⟩ := h
    refine ⟨_, rfl, t, _, _, _, rfl, rfl, SqT.of ht, rv_at (j := 0) rfl, _, rfl, d.needs, n, rfl, _, rfl, ?_⟩
    refine if_either (fun h1 => ?_) (fun h1 => ?_)
    · have e : okR d n = false := by
        unfold okR
        have h1' : decide (d.needs &&& n = d.needs) = false := by simpa using h1
        rw [h1']; rfl
      rw [e] at k
      exact k
    have h1' : decide (d.needs &&& n = d.needs) = true := by simpa using h1
    refine ⟨_, rfl, t, _, _, _, rfl, rfl, SqT.of ht, rv_at (j := 1) rfl, _, rfl, t, _, _, _, rfl, rfl, SqT.of ht, rv_at (j := 0) rfl, d.so, d.needs, rfl, _, rfl, ?_⟩
    refine if_either (fun h2 => ?_) (fun h2 => ?_)
    · have e : okR d n = false := by
        unfold okR
        have h2' : decide (d.so &&& d.needs = d.so) = false := by simpa using h2
        rw [h1', h2']; rfl
      rw [e] at k
      exact k
    have h2' : decide (d.so &&& d.needs = d.so) = true := by simpa using h2
    refine ⟨_, rfl, t, _, _, _, rfl, rfl, SqT.of ht, rv_at (j := 2) rfl, rfl, _, rfl, ?_⟩
    refine if_either (fun h3 => ?_) (fun h3 => ?_)
    · have e : okR d n = false := by
        unfold okR
        have h3' : decide (d.makes = 0) = true := by rw [← nat_eq_dec]; exact h3
        rw [h1', h2', h3']; rfl
      rw [e] at k
      exact k
    have h3' : decide (d.makes = 0) = false := by rw [← nat_eq_dec]; exact h3
    refine ⟨_, rfl, t, _, _, _, rfl, rfl, SqT.of ht, rv_at (j := 2) rfl, _, rfl, d.makes, n, rfl, _, rfl, ?_⟩
    refine if_either (fun h4 => ?_) (fun h4 => ?_)
    · have e : okR d n = false := by
        unfold okR
        have h4' : decide (d.makes &&& n = d.makes) = false := by simpa using h4
        rw [h1', h2', h3', h4']; rfl
      rw [e] at k
      exact k
    have h4' : decide (d.makes &&& n = d.makes) = true := by simpa using h4
    refine ⟨_, rfl, t, _, _, _, rfl, rfl, SqT.of ht, rv_at (j := 3) rfl, _, rfl, t, _, _, _, rfl, rfl, SqT.of ht, rv_at (j := 2) rfl, d.thus, d.makes, rfl, ?_⟩
    have e : okR d n = decide (d.thus &&& d.makes = d.thus) := by
      unfold okR
      rw [h1', h2', h3', h4']; rfl
    rw [e] at k
    exact k

abbrev s_take_out : Stmt := top 14
theorem sc_take_out : FnScope ["rules", "i"] ["rules", "i"] (defScope s_take_out) := ⟨rfl, rfl, rfl, by decide +kernel, rfl, by decide +kernel, by decide +kernel⟩
def sp_take_out : Sp := fun vs H Q _ => ∃ (l : Addr) (xs : List V) (i : Nat), vs = [.ref l, .int i] ∧ H l = some (.lst xs) ∧
  (xs.length ≤ i → ∀ p, H p = none → Q (.ref p) (upd H p (.lst [.int (-2)]))) ∧
  (i < xs.length → i < 1000 → ∀ p, upd H l (.lst (xs.eraseIdx i)) p = none → Q (.ref p) (upd (upd H l (.lst (xs.eraseIdx i))) p (.lst [.int ((xs.length - 1 : Nat) : Int)])))  ∧ xs.length ≤ 1000
theorem ok_take_out {f : Addr} {fd : FuncData} (F : Fun K "take_out" "take_out" s_take_out f fd) (T : Txt K mg C)  : FnOk P w K mg base CX0 1 f fd ["rules", "i"] (sp_take_out) := by
  refine F.ok sc_take_out (fun vs H Q E h => ?_) (fun cdv A outer s H vs Q E hr h => ?_)
  · obtain ⟨l, xs, i, rfl, _⟩ := h
    rfl
  · refine ⟨_, (pss_cons (ps_if (pt_cmpR op_ge (pv 1) (pe_callB call_len_seq (by rfl) T.n_len PySem.boot_len (pa_cons (pv 0) pa_nil)) (nomark _)) (pss_one (ps_ret (pe_lst (pa_cons (pe_cst T.c_NO_SUCH) pa_nil)))) pss_nil)
      (pss_cons (ps_expr (pe_bm PySem.F.plainAttrs_list PySem.F.slot_list_pop PySem.F.type_list_pop mt_popAt (pv 0) (pa_cons (pv 1) pa_nil)))
      (pss_one (ps_ret (pe_lst (pa_cons (pe_callB call_len_seq (by rfl) T.n_len PySem.boot_len (pa_cons (pv 0) pa_nil)) pa_nil)))))), ?_⟩
    obtain ⟨l, xs, i, rfl, hl, k1, k2, hz⟩ := h
    refine ⟨_, rfl, _, rfl, l, xs, rfl, .inl (SqL.of hl), _, _, rfl, rfl, _, rfl, ?_⟩
    refine if_either (fun h1 => ?_) (fun h1 => ?_)
    · exact ⟨small (by decide), fun p hp => k1 (by have := of_decide_eq_true h1; omega) p hp⟩
    · have hi : i < xs.length := by have := of_decide_eq_false h1; omega
      refine ⟨_, rfl, .inl ⟨rfl, _, SqL.of hl⟩, _, rfl, ?_⟩
      have hk : seqIndex? (i : Int) xs.length = some i := PySem.seqIndex_of (by omega) (by omega)
      refine ⟨l, xs, i, i, xs[i], rfl, rfl, hl, by omega, by omega, hk, List.getElem?_eq_getElem hi, ?_⟩
      refine ⟨_, rfl, l, _, rfl, .inl (SqL.of upd_same), small1, fun p hp => ?_⟩
      have e : (xs.eraseIdx i).length = xs.length - 1 := List.length_eraseIdx_of_lt hi
      have := k2 hi (by omega) p hp
      rw [← e] at this
      exact this

abbrev s_told_rule : Stmt := top 15
theorem sc_told_rule : FnScope ["rules", "i"] ["rules", "i"] (defScope s_told_rule) := ⟨rfl, rfl, rfl, by decide +kernel, rfl, by decide +kernel, by decide +kernel⟩
def sp_told_rule : Sp := fun vs H Q _ => ∃ (l : Addr) (ds : List Kp371.Deed) (i : Nat), vs = [.ref l, .int i] ∧ RulesAt H l ds ∧
  (ds.length ≤ i → ∀ p, H p = none → Q (.ref p) (upd H p (.lst [.int (-2)]))) ∧
  (∀ d, ds[i]? = some d → ∀ p, H p = none → Q (.ref p) (upd H p (.lst (rv d))))
theorem ok_told_rule {f : Addr} {fd : FuncData} (F : Fun K "told_rule" "told_rule" s_told_rule f fd) (T : Txt K mg C)  : FnOk P w K mg base CX0 1 f fd ["rules", "i"] (sp_told_rule) := by
  refine F.ok sc_told_rule (fun vs H Q E h => ?_) (fun cdv A outer s H vs Q E hr h => ?_)
  · obtain ⟨l, xs, i, rfl, _⟩ := h
    rfl
  · refine ⟨_, (pss_cons (ps_if (pt_cmpR op_ge (pv 1) (pe_callB call_len_seq (by rfl) T.n_len PySem.boot_len (pa_cons (pv 0) pa_nil)) (nomark _)) (pss_one (ps_ret (pe_lst (pa_cons (pe_cst T.c_NO_SUCH) pa_nil)))) pss_nil)
      (pss_one (ps_ret (pe_callTy call_list_of (by rfl) T.n_list (by decide +kernel) (pa_cons (pe_ix ix_list (pv 0) (pv 1) (fun _ _ => rfl)) pa_nil))))), ?_⟩
    obtain ⟨l, ds, i, rfl, ⟨ts, hl, hn, hr2⟩, k1, k2⟩ := h
    refine ⟨_, rfl, _, rfl, l, _, rfl, .inl (SqL.of hl), _, _, rfl, rfl, _, rfl, ?_⟩
    refine if_either (fun h1 => ?_) (fun h1 => ?_)
    · exact ⟨small (by decide), fun p hp => k1 (by have := of_decide_eq_true h1; simp at this; omega) p hp⟩
    · have hi : i < ts.length := by have := of_decide_eq_false h1; simp at this; omega
      have hd : ds[i]? = some ds[i] := List.getElem?_eq_getElem (by omega)
      have ht : ts[i]? = some ts[i] := List.getElem?_eq_getElem hi
      refine ⟨_, rfl, _, rfl, l, _, _, _, rfl, rfl, SqL.of hl, atI_nat (j := i) (by rw [List.getElem?_map, ht]; rfl), _, _, rfl, .inr (SqT.of (hr2 i _ _ ht hd)), fun p hp => ?_⟩
      exact k2 _ hd p hp

/-! ### the desk -/
def dF (b : Bool) (full now : Nat) (lD lE : Addr) : List (Str × V) := [("begun", .bl b), ("all_facts", .int (full : Nat)), ("state", .int (now : Nat)), ("deeds", .ref lD), ("events", .ref lE)]
theorem lk_here {k : Str} {v : V} {r : List (Str × V)} : List.lookup k ((k, v) :: r) = some v := by
  have e : (k == k) = true := beq_self_eq_true k
  simp only [List.lookup, e]
theorem lk_past {k g : Str} {v : V} {r : List (Str × V)} (h : (k == g) = false) : List.lookup k ((g, v) :: r) = List.lookup k r := by
  simp only [List.lookup, h]
theorem put_here {f : Str} {v x : V} {r : List (Str × V)} : putF f v ((f, x) :: r) = (f, v) :: r := if_pos rfl
theorem put_past {f g : Str} {v x : V} {r : List (Str × V)} (h : ¬ g = f) : putF f v ((g, x) :: r) = (g, x) :: putF f v r := if_neg h
section
variable {b : Bool} {full now : Nat} {lD lE : Addr}
theorem dF_begun : (dF b full now lD lE).lookup ("begun" : Str) = some (.bl b) := lk_here
theorem dF_all : (dF b full now lD lE).lookup ("all_facts" : Str) = some (.int (full : Nat)) := (lk_past (by decide +kernel)).trans lk_here
theorem dF_state : (dF b full now lD lE).lookup ("state" : Str) = some (.int (now : Nat)) := (lk_past (by decide +kernel)).trans ((lk_past (by decide +kernel)).trans lk_here)
theorem dF_deeds : (dF b full now lD lE).lookup ("deeds" : Str) = some (.ref lD) := (lk_past (by decide +kernel)).trans ((lk_past (by decide +kernel)).trans ((lk_past (by decide +kernel)).trans lk_here))
theorem dF_events : (dF b full now lD lE).lookup ("events" : Str) = some (.ref lE) := (lk_past (by decide +kernel)).trans ((lk_past (by decide +kernel)).trans ((lk_past (by decide +kernel)).trans ((lk_past (by decide +kernel)).trans lk_here)))
/-- a method's name is none of the attributes -/
theorem dF_no {m : Str} (h1 : (m == ("begun" : Str)) = false) (h2 : (m == ("all_facts" : Str)) = false) (h3 : (m == ("state" : Str)) = false) (h4 : (m == ("deeds" : Str)) = false) (h5 : (m == ("events" : Str)) = false) : (dF b full now lD lE).lookup m = none :=
  (lk_past h1).trans ((lk_past h2).trans ((lk_past h3).trans ((lk_past h4).trans ((lk_past h5).trans rfl))))
theorem dF_put_begun {c : Bool} : putF "begun" (.bl c) (dF b full now lD lE) = dF c full now lD lE := put_here
theorem dF_put_state {n : Nat} : putF "state" (.int (n : Nat)) (dF b full now lD lE) = dF b full n lD lE := (put_past (by decide +kernel)).trans (congrArg _ ((put_past (by decide +kernel)).trans (congrArg _ put_here)))
theorem dF_put_all {n : Nat} : putF "all_facts" (.int (n : Nat)) (dF b full now lD lE) = dF b n now lD lE := (put_past (by decide +kernel)).trans (congrArg _ put_here)
theorem dF_put_deeds {l : Addr} : putF "deeds" (.ref l) (dF b full now lD lE) = dF b full now l lE := (put_past (by decide +kernel)).trans (congrArg _ ((put_past (by decide +kernel)).trans (congrArg _ ((put_past (by decide +kernel)).trans (congrArg _ put_here)))))
theorem dF_put_events {l : Addr} : putF "events" (.ref l) (dF b full now lD lE) = dF b full now lD l := (put_past (by decide +kernel)).trans (congrArg _ ((put_past (by decide +kernel)).trans (congrArg _ ((put_past (by decide +kernel)).trans (congrArg _ ((put_past (by decide +kernel)).trans (congrArg _ put_here)))))))
/-- the four that clear_for sets, over whatever stood -/
theorem dF_cleared {fs : List (Str × V)} {l l' : Addr} (h : fs = [(("begun" : Str), V.bl b)] ∨ fs = dF b full now lD lE) {n : Nat} :
    putF "events" (.ref l') (putF "deeds" (.ref l) (putF "state" (.int (0 : Nat)) (putF "all_facts" (.int (n : Nat)) fs))) = dF b n 0 l l' := by
  rcases h with rfl | rfl
  · have e1 : putF "all_facts" (V.int (n : Nat)) [(("begun" : Str), V.bl b)] = ([("begun", .bl b), ("all_facts", .int (n : Nat))] : List (Str × V)) := put_past (by decide +kernel)
    have e2 : putF "state" (V.int (0 : Nat)) [(("begun" : Str), V.bl b), ("all_facts", V.int (n : Nat))] = ([("begun", .bl b), ("all_facts", .int (n : Nat)), ("state", .int (0 : Nat))] : List (Str × V)) := (put_past (by decide +kernel)).trans (congrArg _ (put_past (by decide +kernel)))
    have e3 : putF "deeds" (V.ref l) [(("begun" : Str), V.bl b), ("all_facts", V.int (n : Nat)), ("state", V.int (0 : Nat))] = ([("begun", .bl b), ("all_facts", .int (n : Nat)), ("state", .int (0 : Nat)), ("deeds", .ref l)] : List (Str × V)) := (put_past (by decide +kernel)).trans (congrArg _ ((put_past (by decide +kernel)).trans (congrArg _ (put_past (by decide +kernel)))))
    have e4 : putF "events" (V.ref l') [(("begun" : Str), V.bl b), ("all_facts", V.int (n : Nat)), ("state", V.int (0 : Nat)), ("deeds", V.ref l)] = dF b n 0 l l' := (put_past (by decide +kernel)).trans (congrArg _ ((put_past (by decide +kernel)).trans (congrArg _ ((put_past (by decide +kernel)).trans (congrArg _ (put_past (by decide +kernel)))))))
    rw [e1, e2, e3, e4]
  · rw [dF_put_all, dF_put_state, dF_put_deeds, dF_put_events]
end
theorem upd_none' {H : Hp} {a c : Addr} {o : HO} (h : upd H a o c = none) : H c = none := by
  by_cases z : c = a
  · rw [z, upd_same] at h
    cases h
  · rw [upd_ne z] at h
    exact h
theorem len_put_le {f : Str} {v : V} : ∀ {fs : List (Str × V)}, (putF f v fs).length ≤ fs.length + 1
  | [] => Nat.le_refl _
  | (g, x) :: r => by
    show (if g = f then (g, v) :: r else (g, x) :: putF f v r).length ≤ _
    split
    · simp
    · have := len_put_le (f := f) (v := v) (fs := r)
      simp
      omega
theorem len_put {f : Str} {v : V} {fs : List (Str × V)} {n : Nat} (h : fs.length < n) : (putF f v fs).length < n + 1 := by
  have := len_put_le (f := f) (v := v) (fs := fs)
  omega
theorem lk_no {k g : Str} {v : V} (h : (k == g) = false) : List.lookup k [(g, v)] = none := (lk_past h).trans rfl
theorem shl1 (n : Nat) : ((1 : Int) * 2 ^ ((n : Nat) : Int).toNat - 1) = ((2 ^ n - 1 : Nat) : Int) := by
  rw [Int.toNat_natCast, Int.one_mul]
  have h : 1 ≤ 2 ^ n := Nat.one_le_two_pow
  rw [Int.ofNat_sub h]
  simp
/-- how the desk lies in the heap: it at x, its deeds at lD, its events at lE -/
structure DeskAt (C : Addr) (H : Hp) (x dx lD lE : Addr) (m : M) : Prop where
  obj : H x = some (.ins C dx (dF m.b m.full m.now lD lE))
  deeds : RulesAt H lD m.D
  events : RulesAt H lE m.E
  ne : lD ≠ lE
  szD : m.D.length ≤ 6
  szE : m.E.length ≤ 3
/-- what a call may change: the desk itself and its two lists -/
structure Moved (H H' : Hp) (x lD lE lD' lE' : Addr) : Prop where
  keep : ∀ b o, H b = some o → b ≠ x → b ≠ lD → b ≠ lE → H' b = some o
  nD : lD' = lD ∨ H lD' = none
  nE : lE' = lE ∨ H lE' = none
/-- a call's end: the desk as m', a new list of the numbers answered -/
def Told (C : Addr) (H : Hp) (x dx lD lE : Addr) (r : M × List Int) (Q : VK) : Prop := ∀ (H' : Hp) (p lD' lE' : Addr), DeskAt C H' x dx lD' lE' r.1 → Moved H H' x lD lE lD' lE' → H p = none → H' p = some (.lst (r.2.map V.int)) → p ≠ lD' → p ≠ lE' → Q (.ref p) H'
theorem ins_ne_lst {H : Hp} {a b C dx : Addr} {fs : List (Str × V)} {xs : List V} (h : H a = some (.ins C dx fs)) (h' : H b = some (.lst xs)) : a ≠ b := ne_of h h' (by intro z; cases z)
theorem ins_ne_tup {H : Hp} {a b C dx : Addr} {fs : List (Str × V)} {xs : List V} (h : H a = some (.ins C dx fs)) (h' : H b = some (.tup xs)) : a ≠ b := ne_of h h' (by intro z; cases z)
theorem lst_ne_tup {H : Hp} {a b : Addr} {ys xs : List V} (h : H a = some (.lst ys)) (h' : H b = some (.tup xs)) : a ≠ b := ne_of h h' (by intro z; cases z)
theorem some_ne_none {H : Hp} {a b : Addr} {o : HO} (h : H a = some o) (h' : H b = none) : a ≠ b := ne_of_none h h'
section
variable {H H' : Hp} {x dx lD lE : Addr} {m : M}
theorem DeskAt.lstD (d : DeskAt C H x dx lD lE m) : ∃ xs, H lD = some (.lst xs) := by
  obtain ⟨ts, h, _⟩ := d.deeds
  exact ⟨_, h⟩
theorem DeskAt.lstE (d : DeskAt C H x dx lD lE m) : ∃ xs, H lE = some (.lst xs) := by
  obtain ⟨ts, h, _⟩ := d.events
  exact ⟨_, h⟩
theorem DeskAt.xD (d : DeskAt C H x dx lD lE m) : x ≠ lD := by
  obtain ⟨xs, h⟩ := d.lstD
  exact ins_ne_lst d.obj h
theorem DeskAt.xE (d : DeskAt C H x dx lD lE m) : x ≠ lE := by
  obtain ⟨xs, h⟩ := d.lstE
  exact ins_ne_lst d.obj h
/-- how it stands is changed alone -/
theorem DeskAt.state (d : DeskAt C H x dx lD lE m) (n : Nat) : DeskAt C (upd H x (.ins C dx (dF m.b m.full n lD lE))) x dx lD lE { m with now := n } := by
  have tp : ∀ (b : Addr) (zs : List V), H b = some (.tup zs) → upd H x (.ins C dx (dF m.b m.full n lD lE)) b = some (.tup zs) := fun b zs hb => by
    rw [upd_ne (ins_ne_tup d.obj hb).symm]
    exact hb
  refine ⟨upd_same, d.deeds.keep (fun o ho => ?_) tp, d.events.keep (fun o ho => ?_) tp, d.ne, d.szD, d.szE⟩
  · rw [upd_ne d.xD.symm]
    exact ho
  · rw [upd_ne d.xE.symm]
    exact ho
/-- the desk stands where all that was stands -/
theorem DeskAt.same (d : DeskAt C H x dx lD lE m) (e : Same H H') : DeskAt C H' x dx lD lE m :=
  ⟨e _ _ d.obj, d.deeds.keep (fun o => e _ o) (fun b xs => e b _), d.events.keep (fun o => e _ o) (fun b xs => e b _), d.ne, d.szD, d.szE⟩
theorem same_upd {p : Addr} {o : HO} (h : H p = none) : Same H (upd H p o) := fun b u e => by
  rw [upd_ne (some_ne_none e h)]
  exact e
/-- nothing of the desk is changed, a new list tells the answer -/
theorem Told.plain {ans : List Int} {Q : VK} (d : DeskAt C H x dx lD lE m) (k : Told C H x dx lD lE (m, ans) Q) {H' : Hp} {p : Addr} (e : Same H H') (hp : H p = none) (ha : H' p = some (.lst (ans.map V.int))) : Q (.ref p) H' := by
  obtain ⟨xs, h1⟩ := d.lstD
  obtain ⟨ys, h2⟩ := d.lstE
  exact k H' p lD lE (d.same e) ⟨fun b o h _ _ _ => e b o h, .inl rfl, .inl rfl⟩ hp ha (some_ne_none h1 hp).symm (some_ne_none h2 hp).symm
theorem Told.plain1 {ans : List Int} {Q : VK} (d : DeskAt C H x dx lD lE m) (k : Told C H x dx lD lE (m, ans) Q) (p : Addr) (hp : H p = none) : Q (.ref p) (upd H p (.lst (ans.map V.int))) :=
  k.plain d (same_upd hp) hp upd_same
end

abbrev s_clear_for : Stmt := inClass (top 16) 1
theorem sc_clear_for : FnScope ["self", "many"] ["self", "many"] (defScope s_clear_for) := ⟨rfl, rfl, rfl, by decide +kernel, rfl, by decide +kernel, by decide +kernel⟩
def sp_clear_for (C : Addr) : Sp := fun vs H Q _ => ∃ (x dx : Addr) (fs : List (Str × V)) (b : Bool) (n : Nat), vs = [.ref x, .int n] ∧ n ≤ 5 ∧ H x = some (.ins C dx fs) ∧ (fs = [(("begun" : Str), V.bl b)] ∨ ∃ full now lD lE, fs = dF b full now lD lE) ∧
  ∀ (H' : Hp) (lD lE : Addr), DeskAt C H' x dx lD lE ⟨b, n, 0, [], []⟩ → (∀ c o, H c = some o → c ≠ x → H' c = some o) → H lD = none → H lE = none → Q .non H'
theorem ok_clear_for {f : Addr} {fd : FuncData} (F : Fun K "clear_for" "Desk.clear_for" s_clear_for f fd) (T : Txt K mg C)  : FnOk P w K mg base CX0 1 f fd ["self", "many"] (sp_clear_for C) := by
  refine F.ok sc_clear_for (fun vs H Q E h => ?_) (fun cdv A outer s H vs Q E hr h => ?_)
  · obtain ⟨x, dx, fs, b, n, rfl, _⟩ := h
    rfl
  · refine ⟨_, (pss_cons (ps_fld (pv 0) (pe_op op_sub (pe_op op_shl pe_int (pv 1)) pe_int) rfl)
      (pss_cons (ps_fld (pv 0) pe_int rfl)
      (pss_cons (ps_fld (pv 0) (pe_lst pa_nil) rfl)
      (pss_one (ps_fld (pv 0) (pe_lst pa_nil) rfl))))), ?_⟩
    obtain ⟨x, dx, fs, b, n, rfl, hn, hx, hf, k⟩ := h
    have hf2 : fs.length ≤ 5 := by
      rcases hf with rfl | ⟨_, _, _, _, rfl⟩
      · show 1 ≤ 5
        decide
      · show 5 ≤ 5
        decide
    refine ⟨_, rfl, 1, (n : Int), rfl, rfl, ⟨by omega, by omega, by decide⟩, _, _, rfl, rfl, _, rfl, x, C, dx, fs, rfl, hx, T.cl, T.a_all_facts, by omega, ?_⟩
    refine ⟨_, rfl, x, C, dx, _, rfl, upd_same, T.cl, T.a_state, len_put (by omega), ?_⟩
    refine ⟨small (by decide), fun lD hD => ?_⟩
    have hD1 : H lD = none := by
      have e := upd_none' hD
      have e := upd_none' e
      exact e
    have xD : x ≠ lD := some_ne_none hx hD1
    refine ⟨_, rfl, x, C, dx, _, rfl, (by rw [upd_ne xD]; exact upd_same), T.cl, T.a_deeds, len_put (len_put (by omega)), ?_⟩
    refine ⟨small (by decide), fun lE hE => ?_⟩
    have hE0 : upd (upd (upd H x (.ins C dx (putF "all_facts" (V.int (1 * 2 ^ ((n : Nat) : Int).toNat - 1)) fs))) x (.ins C dx (putF "state" (V.int 0) (putF "all_facts" (V.int (1 * 2 ^ ((n : Nat) : Int).toNat - 1)) fs)))) lD (.lst []) lE = none := upd_none' hE
    have hED : lE ≠ lD := fun z => by
      rw [z, upd_same] at hE0
      cases hE0
    have hE1 : H lE = none := by
      rw [upd_ne hED] at hE0
      exact upd_none' (upd_none' hE0)
    have xE : x ≠ lE := some_ne_none hx hE1
    refine ⟨_, rfl, x, C, dx, _, rfl, (by rw [upd_ne xE]; exact upd_same), T.cl, T.a_events, len_put (len_put (len_put (by omega))), ?_⟩
    refine k _ lD lE ⟨?_, ?_, ?_, hED.symm, Nat.zero_le _, Nat.zero_le _⟩ (fun c o hc hx' => ?_) hD1 hE1
    · rw [upd_same]
      show some (HO.ins C dx (putF "events" (V.ref lE) (putF "deeds" (V.ref lD) (putF "state" (V.int 0) (putF "all_facts" (V.int (1 * 2 ^ ((n : Nat) : Int).toNat - 1)) fs))))) = _
      rw [shl1]
      rcases hf with rfl | ⟨fu, nw, a, b', rfl⟩
      · exact congrArg (fun q => some (HO.ins C dx q)) (dF_cleared (full := 0) (now := 0) (lD := 0) (lE := 0) (.inl rfl))
      · exact congrArg (fun q => some (HO.ins C dx q)) (dF_cleared (.inr rfl))
    · refine ⟨[], ?_, rfl, fun i t d h _ => by simp at h⟩
      rw [upd_ne xD.symm, upd_ne hED.symm, upd_ne xD.symm, upd_same]
      rfl
    · refine ⟨[], ?_, rfl, fun i t d h _ => by simp at h⟩
      rw [upd_ne xE.symm, upd_same]
      rfl
    · rw [upd_ne hx', upd_ne (some_ne_none hc hE1), upd_ne hx', upd_ne (some_ne_none hc hD1), upd_ne hx', upd_ne hx']
      exact hc

abbrev s___init__ : Stmt := inClass (top 16) 0
theorem sc___init__ : FnScope ["self"] ["self"] (defScope s___init__) := ⟨rfl, rfl, rfl, by decide +kernel, rfl, by decide +kernel, by decide +kernel⟩
def sp_init (C : Addr) : Sp := fun vs H Q _ => ∃ (x dx : Addr), vs = [.ref x] ∧ H x = some (.ins C dx []) ∧
  ∀ (H' : Hp) (lD lE : Addr), DeskAt C H' x dx lD lE ⟨false, 0, 0, [], []⟩ → (∀ c o, H c = some o → c ≠ x → H' c = some o) → H lD = none → H lE = none → Q .non H'
theorem ok___init__ {f : Addr} {fd : FuncData} (F : Fun K "__init__" "Desk.__init__" s___init__ f fd) (T : Txt K mg C) (m_clear_for : Met P w K mg base C 1 "clear_for" ["self", "many"] (sp_clear_for C)) : FnOk P w K mg base CX0 2 f fd ["self"] (sp_init C) := by
  refine F.ok sc___init__ (fun vs H Q E h => ?_) (fun cdv A outer s H vs Q E hr h => ?_)
  · obtain ⟨x, dx, rfl, _⟩ := h
    rfl
  · refine ⟨_, (pss_cons (ps_fld (pv 0) pe_bl rfl)
      (pss_one (ps_expr (pe_met T.cl m_clear_for hr (by decide) (pv 0) (pa_cons pe_int pa_nil))))), ?_⟩
    obtain ⟨x, dx, rfl, hx, k⟩ := h
    refine ⟨_, rfl, x, C, dx, [], rfl, hx, T.cl, T.a_begun, (by show 0 < 1000; decide), ?_⟩
    refine ⟨_, rfl, x, dx, _, rfl, upd_same, lk_no (by decide +kernel), ?_⟩
    refine ⟨x, dx, _, false, 0, rfl, by decide, upd_same, .inl rfl, fun H' lD lE d kp nD nE => ?_⟩
    exact k H' lD lE d (fun c o hc hx' => kp c o (by rw [upd_ne hx']; exact hc) hx') (upd_none' nD) (upd_none' nE)

abbrev s_begin : Stmt := inClass (top 16) 2
theorem sc_begin : FnScope ["self", "many"] ["self", "many"] (defScope s_begin) := ⟨rfl, rfl, rfl, by decide +kernel, rfl, by decide +kernel, by decide +kernel⟩
def sp_op1 (C : Addr) (op : M → Nat → M × List Int) : Sp := fun vs H Q _ => ∃ (x dx lD lE : Addr) (m : M) (n : Nat), vs = [.ref x, .int n] ∧ n < 4294967296 ∧ DeskAt C H x dx lD lE m ∧ Told C H x dx lD lE (op m n) Q
theorem ok_begin {f : Addr} {fd : FuncData} (F : Fun K "begin" "Desk.begin" s_begin f fd) (T : Txt K mg C) (m_clear_for : Met P w K mg base C 1 "clear_for" ["self", "many"] (sp_clear_for C)) : FnOk P w K mg base CX0 2 f fd ["self", "many"] (sp_op1 C opBegin) := by
  refine F.ok sc_begin (fun vs H Q E h => ?_) (fun cdv A outer s H vs Q E hr h => ?_)
  · obtain ⟨x, dx, lD, lE, m, n, rfl, _⟩ := h
    rfl
  · refine ⟨_, (pss_cons (ps_if (PW.pt (pw_or (pt_cmpR op_lt (pv 1) (pe_cst T.c_LEAST_FACTS) (nomark _)) (pw_or1 (pt_cmpR op_gt (pv 1) (pe_cst T.c_MOST_FACTS) (nomark _))))) (pss_one (ps_ret (pe_lst (pa_cons (pe_cst T.c_NOT_AS_TOLD) pa_nil)))) pss_nil)
      (pss_cons (ps_fld (pv 0) pe_bl rfl)
      (pss_cons (ps_expr (pe_met T.cl m_clear_for hr (by decide) (pv 0) (pa_cons (pv 1) pa_nil)))
      (pss_one (ps_ret (pe_lst (pa_cons pe_int pa_nil))))))), ?_⟩
    obtain ⟨x, dx, lD, lE, m, n, rfl, hn, d, k⟩ := h
    refine ⟨_, rfl, _, _, rfl, rfl, _, rfl, ?_⟩
    refine if_either (fun h1 => ?_) (fun h1 => ?_)
    · have h1' := of_decide_eq_true h1
      unfold opBegin at k
      rw [if_pos (.inl (by omega))] at k
      exact ⟨small (by decide), fun p hp => k.plain1 d p hp⟩
    · have h1' := of_decide_eq_false h1
      refine ⟨_, rfl, _, _, rfl, rfl, _, rfl, ?_⟩
      refine if_either (fun h2 => ?_) (fun h2 => ?_)
      · have h2' := of_decide_eq_true h2
        unfold opBegin at k
        rw [if_pos (.inr (by omega))] at k
        exact ⟨small (by decide), fun p hp => k.plain1 d p hp⟩
      · have h2' := of_decide_eq_false h2
        unfold opBegin at k
        rw [if_neg (by omega)] at k
        refine ⟨_, rfl, x, C, dx, _, rfl, d.obj, T.cl, T.a_begun, (by show 5 < 1000; decide), ?_⟩
        refine ⟨_, rfl, x, dx, _, rfl, upd_same, ?_, ?_⟩
        · rw [dF_put_begun]
          exact dF_no (by decide +kernel) (by decide +kernel) (by decide +kernel) (by decide +kernel) (by decide +kernel)
        refine ⟨_, rfl, x, dx, _, true, n, rfl, by omega, upd_same, .inr ⟨m.full, m.now, lD, lE, dF_put_begun⟩, fun H' lD' lE' d' kp nD nE => ?_⟩
        have nD' := upd_none' nD
        have nE' := upd_none' nE
        have kp' : ∀ c o, H c = some o → c ≠ x → H' c = some o := fun c o hc hx' => kp c o (by rw [upd_ne hx']; exact hc) hx'
        refine ⟨small (by decide), fun p hp => ?_⟩
        obtain ⟨xs, e1⟩ := d'.lstD
        obtain ⟨ys, e2⟩ := d'.lstE
        have hpH : H p = none := by
          cases e : H p with
          | none => rfl
          | some o =>
            have hpx : p ≠ x := fun z => by
              rw [z, d'.obj] at hp
              cases hp
            rw [kp' p o e hpx] at hp
            cases hp
        refine k _ p lD' lE' (d'.same (same_upd hp)) ⟨fun c o hc h1 _ _ => ?_, .inr nD', .inr nE'⟩ hpH upd_same (some_ne_none e1 hp).symm (some_ne_none e2 hp).symm
        exact same_upd hp _ _ (kp' c o hc h1)

theorem RulesAt.more {H : Hp} {l t : Addr} {ds : List Kp371.Deed} {r : Kp371.Deed} {xs : List V} (h : RulesAt H l ds) (hl : H l = some (.lst xs)) (ht : H t = some (.tup (rv r))) : RulesAt (upd H l (.lst (xs ++ [.ref t]))) l (ds ++ [r]) := by
  obtain ⟨ts, h1, h2, h3⟩ := h
  rw [hl] at h1
  cases h1
  have ne : ∀ (b : Addr) (ys : List V), H b = some (.tup ys) → b ≠ l := fun b ys hb => (lst_ne_tup hl hb).symm
  refine ⟨ts ++ [t], ?_, by simp [h2], fun i t' d' a b => ?_⟩
  · rw [upd_same, List.map_append]
    rfl
  · by_cases c : i < ts.length
    · rw [List.getElem?_append_left c] at a
      rw [List.getElem?_append_left (by omega)] at b
      have := h3 i t' d' a b
      rw [upd_ne (ne _ _ this)]
      exact this
    · rw [List.getElem?_append_right (by omega)] at a
      rw [List.getElem?_append_right (by omega)] at b
      rw [h2] at a
      cases e : i - ds.length with
      | zero =>
        rw [e] at a b
        cases a
        cases b
        rw [upd_ne (ne _ _ ht)]
        exact ht
      | succ j =>
        rw [e] at a
        simp at a
theorem RulesAt.get {H : Hp} {l : Addr} {ds : List Kp371.Deed} {i : Nat} {d : Kp371.Deed} (h : RulesAt H l ds) (hd : ds[i]? = some d) : ∃ (ts : List Addr) (t : Addr), H l = some (.lst (ts.map V.ref)) ∧ ts.length = ds.length ∧ ts[i]? = some t ∧ H t = some (.tup (rv d)) := by
  obtain ⟨ts, h1, h2, h3⟩ := h
  have hi : i < ds.length := (List.getElem?_eq_some_iff.mp hd).1
  have ht : ts[i]? = some ts[i] := List.getElem?_eq_getElem (by omega)
  exact ⟨ts, ts[i], h1, h2, ht, h3 i _ _ ht hd⟩
/-- a change of one of the two lists leaves the other and the desk -/
theorem upd_lst {H : Hp} {l : Addr} {xs ys : List V} (hl : H l = some (.lst xs)) : (∀ (b : Addr) (zs : List V), H b = some (.tup zs) → upd H l (.lst ys) b = some (.tup zs)) := fun b zs hb => by
  rw [upd_ne (lst_ne_tup hl hb).symm]
  exact hb

abbrev s_add_rule : Stmt := inClass (top 16) 5
theorem sc_add_rule : FnScope ["self", "rules", "most", "rule"] ["self", "rules", "most", "rule"] (defScope s_add_rule) := ⟨rfl, rfl, rfl, by decide +kernel, rfl, by decide +kernel, by decide +kernel⟩
def sp_add_rule (C : Addr) : Sp := fun vs H Q _ => ∃ (x dx lD lE : Addr) (m : M) (l t : Addr) (xs : List V) (most : Nat) (r : Kp371.Deed), vs = [.ref x, .ref l, .int most, .ref t] ∧ DeskAt C H x dx lD lE m ∧ H t = some (.tup (rv r)) ∧ H l = some (.lst xs) ∧ xs.length ≤ 6 ∧
  (okR r m.full = false → ∀ p, H p = none → Q (.ref p) (upd H p (.lst [.int (-22)]))) ∧
  (okR r m.full = true → most ≤ xs.length → ∀ p, H p = none → Q (.ref p) (upd H p (.lst [.int (-28)]))) ∧
  (okR r m.full = true → xs.length < most → ∀ p, upd H l (.lst (xs ++ [.ref t])) p = none → Q (.ref p) (upd (upd H l (.lst (xs ++ [.ref t]))) p (.lst [.int (xs.length : Nat)])))
theorem ok_add_rule {f : Addr} {fd : FuncData} (F : Fun K "add_rule" "Desk.add_rule" s_add_rule f fd) (T : Txt K mg C) (c_is_rule : Cal P w K mg base 2 "is_rule" ["rule", "all_facts"] (sp_is_rule)) : FnOk P w K mg base CX0 3 f fd ["self", "rules", "most", "rule"] (sp_add_rule C) := by
  refine F.ok sc_add_rule (fun vs H Q E h => ?_) (fun cdv A outer s H vs Q E hr h => ?_)
  · obtain ⟨x, dx, lD, lE, m, l, t, xs, most, r, rfl, _⟩ := h
    rfl
  · refine ⟨_, (pss_cons (ps_if (pt_not (pt_val (pe_cal c_is_rule hr (by decide) (pa_cons (pv 3) (pa_cons (pe_fld (pv 0) rfl) pa_nil))))) (pss_one (ps_ret (pe_lst (pa_cons (pe_cst T.c_NOT_AS_TOLD) pa_nil)))) pss_nil)
      (pss_cons (ps_if (pt_cmpR op_ge (pe_callB call_len_seq (by rfl) T.n_len PySem.boot_len (pa_cons (pv 1) pa_nil)) (pv 2) (nomark _)) (pss_one (ps_ret (pe_lst (pa_cons (pe_cst T.c_NO_ROOM) pa_nil)))) pss_nil)
      (pss_cons (ps_expr (pe_bm PySem.F.plainAttrs_list PySem.F.slot_list_append PySem.F.type_list_append mt_append (pv 1) (pa_cons (pv 3) pa_nil)))
      (pss_one (ps_ret (pe_lst (pa_cons (pe_op op_sub (pe_callB call_len_seq (by rfl) T.n_len PySem.boot_len (pa_cons (pv 1) pa_nil)) pe_int) pa_nil))))))), ?_⟩
    obtain ⟨x, dx, lD, lE, m, l, t, xs, most, r, rfl, d, ht, hl, hz, k1, k2, k3⟩ := h
    refine ⟨_, rfl, _, rfl, x, C, dx, _, _, rfl, d.obj, T.cl, T.a_all_facts, dF_all, t, r, m.full, rfl, ht, _, rfl, ?_⟩
    refine if_either (fun h1 => ?_) (fun h1 => ?_)
    · exact ⟨small1, fun p hp => k1 (by simpa using h1) p hp⟩
    have h1' : okR r m.full = true := by simpa using h1
    refine ⟨_, rfl, l, xs, rfl, .inl (SqL.of hl), _, rfl, _, _, rfl, rfl, _, rfl, ?_⟩
    refine if_either (fun h2 => ?_) (fun h2 => ?_)
    · have := of_decide_eq_true h2
      exact ⟨small1, fun p hp => k2 h1' (by omega) p hp⟩
    have h2' := of_decide_eq_false h2
    refine ⟨_, rfl, .inl ⟨rfl, _, SqL.of hl⟩, _, rfl, l, xs, _, rfl, rfl, hl, small1000 (by omega), ?_⟩
    refine ⟨_, rfl, l, _, rfl, .inl (SqL.of upd_same), _, _, rfl, rfl, small1, fun p hp => ?_⟩
    have := k3 h1' (by omega) p hp
    have e : ((xs ++ [V.ref t]).length : Int) - 1 = (xs.length : Nat) := by
      rw [List.length_append]
      simp
    show Q (V.ref p) (upd (upd H l (HO.lst (xs ++ [V.ref t]))) p (HO.lst [V.int (((xs ++ [V.ref t]).length : Int) - 1)]))
    rw [e]
    exact this

abbrev s_add_deed : Stmt := inClass (top 16) 3
theorem sc_add_deed : FnScope ["self", "rule"] ["self", "rule"] (defScope s_add_deed) := ⟨rfl, rfl, rfl, by decide +kernel, rfl, by decide +kernel, by decide +kernel⟩
def sp_opR (C : Addr) (op : M → Kp371.Deed → M × List Int) : Sp := fun vs H Q _ => ∃ (x dx lD lE : Addr) (m : M) (t : Addr) (r : Kp371.Deed), vs = [.ref x, .ref t] ∧ DeskAt C H x dx lD lE m ∧ H t = some (.tup (rv r)) ∧ Told C H x dx lD lE (op m r) Q
theorem ok_add_deed {f : Addr} {fd : FuncData} (F : Fun K "add_deed" "Desk.add_deed" s_add_deed f fd) (T : Txt K mg C) (m_add_rule : Met P w K mg base C 3 "add_rule" ["self", "rules", "most", "rule"] (sp_add_rule C)) : FnOk P w K mg base CX0 4 f fd ["self", "rule"] (sp_opR C opDeed) := by
  refine F.ok sc_add_deed (fun vs H Q E h => ?_) (fun cdv A outer s H vs Q E hr h => ?_)
  · obtain ⟨x, dx, lD, lE, m, t, r, rfl, _⟩ := h
    rfl
  · refine ⟨_, (pss_one (ps_ret (pe_met T.cl m_add_rule hr (by decide) (pv 0) (pa_cons (pe_fld (pv 0) rfl) (pa_cons (pe_cst T.c_MOST_DEEDS) (pa_cons (pv 1) pa_nil)))))), ?_⟩
    obtain ⟨x, dx, lD, lE, m, t, r, rfl, d, ht, k⟩ := h
    obtain ⟨ts, hl, hn, _⟩ := d.deeds
    refine ⟨_, rfl, x, dx, _, rfl, d.obj, dF_no (by decide +kernel) (by decide +kernel) (by decide +kernel) (by decide +kernel) (by decide +kernel), _, rfl, x, C, dx, _, _, rfl, d.obj, T.cl, T.a_deeds, dF_deeds, _, rfl, ?_⟩
    refine ⟨x, dx, lD, lE, m, lD, t, _, 6, r, rfl, d, ht, hl, (by rw [List.length_map, hn]; exact d.szD), fun h1 => ?_, fun h1 h2 => ?_, fun h1 h2 p hp => ?_⟩
    · unfold opDeed at k
      rw [if_pos h1] at k
      exact fun p hp => k.plain1 d p hp
    · rw [List.length_map, hn] at h2
      unfold opDeed at k
      rw [if_neg (by rw [h1]; decide), if_pos h2] at k
      exact fun p hp => k.plain1 d p hp
    · rw [List.length_map, hn] at h2
      unfold opDeed at k
      rw [if_neg (by rw [h1]; decide), if_neg (by omega)] at k
      have d' : DeskAt C (upd H lD (.lst (ts.map V.ref ++ [.ref t]))) x dx lD lE { m with D := m.D ++ [r] } := by
        refine ⟨?_, d.deeds.more hl ht, d.events.keep (fun o ho => ?_) (upd_lst hl), d.ne, ?_, d.szE⟩
        · rw [upd_ne d.xD]
          exact d.obj
        · rw [upd_ne d.ne.symm]
          exact ho
        · show (m.D ++ [r]).length ≤ 6
          rw [List.length_append]
          simp
          omega
      obtain ⟨xs, e1⟩ := d'.lstD
      obtain ⟨ys, e2⟩ := d'.lstE
      refine k _ p lD lE (d'.same (same_upd hp)) ⟨fun b o hb _ h2 _ => same_upd hp _ _ (by rw [upd_ne h2]; exact hb), .inl rfl, .inl rfl⟩ (upd_none' hp) ?_ (some_ne_none e1 hp).symm (some_ne_none e2 hp).symm
      rw [upd_same, List.length_map, hn]
      rfl

abbrev s_add_event : Stmt := inClass (top 16) 4
theorem sc_add_event : FnScope ["self", "rule"] ["self", "rule"] (defScope s_add_event) := ⟨rfl, rfl, rfl, by decide +kernel, rfl, by decide +kernel, by decide +kernel⟩
theorem ok_add_event {f : Addr} {fd : FuncData} (F : Fun K "add_event" "Desk.add_event" s_add_event f fd) (T : Txt K mg C) (m_add_rule : Met P w K mg base C 3 "add_rule" ["self", "rules", "most", "rule"] (sp_add_rule C)) : FnOk P w K mg base CX0 4 f fd ["self", "rule"] (sp_opR C opEvent) := by
  refine F.ok sc_add_event (fun vs H Q E h => ?_) (fun cdv A outer s H vs Q E hr h => ?_)
  · obtain ⟨x, dx, lD, lE, m, t, r, rfl, _⟩ := h
    rfl
  · refine ⟨_, (pss_one (ps_ret (pe_met T.cl m_add_rule hr (by decide) (pv 0) (pa_cons (pe_fld (pv 0) rfl) (pa_cons (pe_cst T.c_MOST_EVENTS) (pa_cons (pv 1) pa_nil)))))), ?_⟩
    obtain ⟨x, dx, lD, lE, m, t, r, rfl, d, ht, k⟩ := h
    obtain ⟨ts, hl, hn, _⟩ := d.events
    refine ⟨_, rfl, x, dx, _, rfl, d.obj, dF_no (by decide +kernel) (by decide +kernel) (by decide +kernel) (by decide +kernel) (by decide +kernel), _, rfl, x, C, dx, _, _, rfl, d.obj, T.cl, T.a_events, dF_events, _, rfl, ?_⟩
    have hz := d.szE
    refine ⟨x, dx, lD, lE, m, lE, t, _, 3, r, rfl, d, ht, hl, (by rw [List.length_map, hn]; omega), fun h1 => ?_, fun h1 h2 => ?_, fun h1 h2 p hp => ?_⟩
    · unfold opEvent at k
      rw [if_pos h1] at k
      exact fun p hp => k.plain1 d p hp
    · rw [List.length_map, hn] at h2
      unfold opEvent at k
      rw [if_neg (by rw [h1]; decide), if_pos h2] at k
      exact fun p hp => k.plain1 d p hp
    · rw [List.length_map, hn] at h2
      unfold opEvent at k
      rw [if_neg (by rw [h1]; decide), if_neg (by omega)] at k
      have d' : DeskAt C (upd H lE (.lst (ts.map V.ref ++ [.ref t]))) x dx lD lE { m with E := m.E ++ [r] } := by
        refine ⟨?_, d.deeds.keep (fun o ho => ?_) (upd_lst hl), d.events.more hl ht, d.ne, d.szD, ?_⟩
        · rw [upd_ne d.xE]
          exact d.obj
        · rw [upd_ne d.ne]
          exact ho
        · show (m.E ++ [r]).length ≤ 3
          rw [List.length_append]
          simp
          omega
      obtain ⟨xs, e1⟩ := d'.lstD
      obtain ⟨ys, e2⟩ := d'.lstE
      refine k _ p lD lE (d'.same (same_upd hp)) ⟨fun b o hb _ _ h2 => same_upd hp _ _ (by rw [upd_ne h2]; exact hb), .inl rfl, .inl rfl⟩ (upd_none' hp) ?_ (some_ne_none e1 hp).symm (some_ne_none e2 hp).symm
      rw [upd_same, List.length_map, hn]
      rfl

abbrev s_set_to : Stmt := inClass (top 16) 6
theorem sc_set_to : FnScope ["self", "state", "before"] ["self", "state"] (defScope s_set_to) := ⟨rfl, rfl, rfl, by decide +kernel, rfl, by decide +kernel, by decide +kernel⟩
theorem ok_set_to {f : Addr} {fd : FuncData} (F : Fun K "set_to" "Desk.set_to" s_set_to f fd) (T : Txt K mg C) (c_is_within : Cal P w K mg base 1 "is_within" ["part", "whole"] (sp_is_within)) : FnOk P w K mg base CX0 2 f fd ["self", "state"] (sp_op1 C opSet) := by
  refine F.ok sc_set_to (fun vs H Q E h => ?_) (fun cdv A outer s H vs Q E hr h => ?_)
  · obtain ⟨x, dx, lD, lE, m, n, rfl, _⟩ := h
    rfl
  · refine ⟨_, (pss_cons (ps_if (pt_not (pt_val (pe_cal c_is_within hr (by decide) (pa_cons (pv 1) (pa_cons (pe_fld (pv 0) rfl) pa_nil))))) (pss_one (ps_ret (pe_lst (pa_cons (pe_cst T.c_NOT_AS_TOLD) pa_nil)))) pss_nil)
      (pss_cons (ps_set (i := 2) sc_set_to.nd rfl (Or.inl rfl) (pe_fld (pv 0) rfl))
      (pss_cons (ps_fld (pv 0) (pv 1) rfl)
      (pss_one (ps_ret (pe_lst (pa_cons (pv 2) pa_nil))))))), ?_⟩
    obtain ⟨x, dx, lD, lE, m, n, rfl, hn, d, k⟩ := h
    refine ⟨_, rfl, _, rfl, x, C, dx, _, _, rfl, d.obj, T.cl, T.a_all_facts, dF_all, n, m.full, rfl, _, rfl, ?_⟩
    refine if_either (fun h1 => ?_) (fun h1 => ?_)
    · unfold opSet at k
      rw [if_pos (by simpa using h1)] at k
      exact ⟨small1, fun p hp => k.plain1 d p hp⟩
    unfold opSet at k
    rw [if_neg (by simpa using h1)] at k
    refine ⟨_, rfl, x, C, dx, _, _, rfl, d.obj, T.cl, T.a_state, dF_state, ?_⟩
    refine ⟨_, rfl, _, rfl, x, C, dx, _, rfl, d.obj, T.cl, T.a_state, (by show 5 < 1000; decide), ?_⟩
    refine ⟨_, rfl, small1, fun p hp => ?_⟩
    have d' := d.state n
    obtain ⟨xs, e1⟩ := d'.lstD
    obtain ⟨ys, e2⟩ := d'.lstE
    rw [dF_put_state] at hp ⊢
    exact k _ p lD lE (d'.same (same_upd hp)) ⟨fun b o hb h1 _ _ => same_upd hp _ _ (by rw [upd_ne h1]; exact hb), .inl rfl, .inl rfl⟩ (upd_none' hp) upd_same (some_ne_none e1 hp).symm (some_ne_none e2 hp).symm


abbrev s_behind_events : Stmt := inClass (top 16) 17
theorem sc_behind_events : FnScope ["self", "state", "event"] ["self", "state"] (defScope s_behind_events) := ⟨rfl, rfl, rfl, by decide +kernel, rfl, by decide +kernel, by decide +kernel⟩
def sp_behind_events (C : Addr) : Sp := fun vs H Q _ => ∃ (x dx lD lE : Addr) (m : M) (n : Nat), vs = [.ref x, .int n] ∧ DeskAt C H x dx lD lE m ∧ Q (.int (happ m.E n : Nat)) H
theorem ok_behind_events {f : Addr} {fd : FuncData} (F : Fun K "behind_events" "Desk.behind_events" s_behind_events f fd) (T : Txt K mg C) (c_is_met : Cal P w K mg base 1 "is_met" ["rule", "state"] (sp_is_met)) (c_made_by : Cal P w K mg base 1 "made_by" ["rule", "state"] (sp_made_by)) : FnOk P w K mg base CX0 2 f fd ["self", "state"] (sp_behind_events C) := by
  refine F.ok sc_behind_events (fun vs H Q E h => ?_) (fun cdv A outer s H vs Q E hr h => ?_)
  · obtain ⟨x, dx, lD, lE, m, n, rfl, _⟩ := h
    rfl
  · refine ⟨_, (pss_cons (ps_for PassesOwn.never rfl (pi_list (pe_fld (pv 0) rfl)) (pg_name (i := 2) sc_behind_events.nd rfl (Or.inl rfl)) (pss_one (ps_if (pt_val (pe_cal c_is_met hr (by decide) (pa_cons (pv 2) (pa_cons (pv 1) pa_nil)))) (pss_one (ps_set (i := 1) sc_behind_events.nd rfl (Or.inl rfl) (pe_cal c_made_by hr (by decide) (pa_cons (pv 2) (pa_cons (pv 1) pa_nil))))) pss_nil)))
      (pss_one (ps_ret (pv 1)))), ?_⟩
    obtain ⟨x, dx, lD, lE, m, n, rfl, d, k⟩ := h
    obtain ⟨ts, hl, hn, hts⟩ := d.events
    refine ⟨_, rfl, x, C, dx, _, _, rfl, d.obj, T.cl, T.a_events, dF_events, lE, rfl, ⟨_, SqL.of hl⟩, for_list (K := K) (a := lE) (xs := ts.map V.ref) (fun i σ H' => H' = H ∧ ∃ v : Option V, σ = [some (.ref x), some (.int (happ (m.E.take i) n : Nat)), v])
      ⟨rfl, none, rfl⟩ (fun i σ H' _ hh => by rw [hh.1]; exact SqL.of hl) ?_ ?_⟩
    · rintro i y σ H' hi ⟨rfl, v, rfl⟩
      rw [List.getElem?_map] at hi
      cases e : ts[i]? with
      | none =>
        rw [e] at hi
        cases hi
      | some t =>
        rw [e] at hi
        cases hi
        have hlt : i < m.E.length := by
          have := (List.getElem?_eq_some_iff.mp e).1
          omega
        have hd : m.E[i]? = some m.E[i] := List.getElem?_eq_getElem hlt
        have ht := hts i t _ e hd
        have step := happ_more (s := n) hd
        refine ⟨_, rfl, _, rfl, t, m.E[i], _, rfl, .inl ht, _, rfl, ?_⟩
        refine if_either (fun h1 => ?_) (fun h1 => ?_)
        · rw [if_pos h1] at step
          refine ⟨_, rfl, _, rfl, t, m.E[i], _, rfl, ht, ?_⟩
          refine ⟨rfl, some (.ref t), ?_⟩
          rw [step]
          rfl
        · rw [if_neg (by rw [h1]; decide)] at step
          refine ⟨rfl, some (.ref t), ?_⟩
          rw [step]
          rfl
    · rintro σ H' ⟨rfl, v, rfl⟩
      refine ⟨_, rfl, ?_⟩
      rw [List.length_map, hn, List.take_length]
      exact k

theorem dF_meth {b : Bool} {full now : Nat} {lD lE : Addr} {m : Str} (h : ((m == ("begun" : Str)) || (m == ("all_facts" : Str)) || (m == ("state" : Str)) || (m == ("deeds" : Str)) || (m == ("events" : Str))) = false) : (dF b full now lD lE).lookup m = none := by
  simp only [Bool.or_eq_false_iff] at h
  exact dF_no h.1.1.1.1 h.1.1.1.2 h.1.1.2 h.1.2 h.2
theorem le_dec (a b : Nat) : decide ((a : Int) ≤ (b : Int)) = decide (a ≤ b) := decide_eq_decide.mpr (by omega)

abbrev s_waiting : Stmt := inClass (top 16) 12
theorem sc_waiting : FnScope ["self"] ["self"] (defScope s_waiting) := ⟨rfl, rfl, rfl, by decide +kernel, rfl, by decide +kernel, by decide +kernel⟩
def sp_waiting (C : Addr) : Sp := fun vs H Q _ => ∃ (x dx lD lE : Addr) (m : M), vs = [.ref x] ∧ DeskAt C H x dx lD lE m ∧ Q (.int (m.D.length : Nat)) H
theorem ok_waiting {f : Addr} {fd : FuncData} (F : Fun K "waiting" "Desk.waiting" s_waiting f fd) (T : Txt K mg C)  : FnOk P w K mg base CX0 1 f fd ["self"] (sp_waiting C) := by
  refine F.ok sc_waiting (fun vs H Q E h => ?_) (fun cdv A outer s H vs Q E hr h => ?_)
  · obtain ⟨x, dx, lD, lE, m, rfl, _⟩ := h
    rfl
  · refine ⟨_, (pss_one (ps_ret (pe_callB call_len_seq (by rfl) T.n_len PySem.boot_len (pa_cons (pe_fld (pv 0) rfl) pa_nil)))), ?_⟩
    obtain ⟨x, dx, lD, lE, m, rfl, d, k⟩ := h
    obtain ⟨ts, hl, hln, hts⟩ := d.deeds
    refine ⟨_, rfl, x, C, dx, _, _, rfl, d.obj, T.cl, T.a_deeds, dF_deeds, lD, _, rfl, .inl (SqL.of hl), ?_⟩
    show Q (V.int (((ts.map V.ref).length : Nat) : Int)) H
    rw [List.length_map, hln]
    exact k

abbrev s_is_choice : Stmt := inClass (top 16) 13
theorem sc_is_choice : FnScope ["self", "choice"] ["self", "choice"] (defScope s_is_choice) := ⟨rfl, rfl, rfl, by decide +kernel, rfl, by decide +kernel, by decide +kernel⟩
def sp_is_choice (C : Addr) : Sp := fun vs H Q _ => ∃ (x dx lD lE : Addr) (m : M) (n : Nat), vs = [.ref x, .int n] ∧ DeskAt C H x dx lD lE m ∧ Q (.bl (decide (n ≤ m.D.length))) H
theorem ok_is_choice {f : Addr} {fd : FuncData} (F : Fun K "is_choice" "Desk.is_choice" s_is_choice f fd) (T : Txt K mg C) (m_waiting : Met P w K mg base C 1 "waiting" ["self"] (sp_waiting C)) : FnOk P w K mg base CX0 2 f fd ["self", "choice"] (sp_is_choice C) := by
  refine F.ok sc_is_choice (fun vs H Q E h => ?_) (fun cdv A outer s H vs Q E hr h => ?_)
  · obtain ⟨x, dx, lD, lE, m, n, rfl, _⟩ := h
    rfl
  · refine ⟨_, (pss_one (ps_ret (pe_cmpR op_le (pv 1) (pe_met0 T.cl m_waiting hr (by decide) (pv 0)) (nomark _)))), ?_⟩
    obtain ⟨x, dx, lD, lE, m, n, rfl, d, k⟩ := h
    refine ⟨_, rfl, _, rfl, x, dx, _, rfl, d.obj, dF_meth (by decide +kernel), x, dx, lD, lE, m, rfl, d, _, _, rfl, rfl, ?_⟩
    show Q (V.bl (decide ((n : Int) ≤ ((m.D.length : Nat) : Int)))) H
    rw [le_dec]
    exact k

abbrev s_can_be_done : Stmt := inClass (top 16) 14
theorem sc_can_be_done : FnScope ["self", "choice", "state"] ["self", "choice", "state"] (defScope s_can_be_done) := ⟨rfl, rfl, rfl, by decide +kernel, rfl, by decide +kernel, by decide +kernel⟩
def sp_can_be_done (C : Addr) : Sp := fun vs H Q _ => ∃ (x dx lD lE : Addr) (m : M) (c s : Nat), vs = [.ref x, .int c, .int s] ∧ DeskAt C H x dx lD lE m ∧ c ≤ m.D.length ∧ Q (.bl (Kp371.stepBy (wOf m) s c).isSome) H
theorem ok_can_be_done {f : Addr} {fd : FuncData} (F : Fun K "can_be_done" "Desk.can_be_done" s_can_be_done f fd) (T : Txt K mg C) (c_is_met : Cal P w K mg base 1 "is_met" ["rule", "state"] (sp_is_met)) (m_waiting : Met P w K mg base C 1 "waiting" ["self"] (sp_waiting C)) : FnOk P w K mg base CX0 2 f fd ["self", "choice", "state"] (sp_can_be_done C) := by
  refine F.ok sc_can_be_done (fun vs H Q E h => ?_) (fun cdv A outer s H vs Q E hr h => ?_)
  · obtain ⟨x, dx, lD, lE, m, c, s, rfl, _⟩ := h
    rfl
  · refine ⟨_, (pss_one (ps_ret (pe_or (pe_cmpR op_eq (pv 1) (pe_met0 T.cl m_waiting hr (by decide) (pv 0)) (nomark _)) (pe_one (pe_cal c_is_met hr (by decide) (pa_cons (pe_ix ix_list (pe_fld (pv 0) rfl) (pv 1) (fun _ _ => rfl)) (pa_cons (pv 2) pa_nil))))))), ?_⟩
    obtain ⟨x, dx, lD, lE, m, c, n, rfl, d, hc, k⟩ := h
    obtain ⟨ts, hl, hln, hts⟩ := d.deeds
    refine ⟨_, rfl, _, rfl, x, dx, _, rfl, d.obj, dF_meth (by decide +kernel), x, dx, lD, lE, m, rfl, d, rfl, _, rfl, ?_⟩
    refine if_either (fun h1 => ?_) (fun h1 => ?_)
    · have e : c = m.D.length := by
        rw [nat_eq_dec] at h1
        exact of_decide_eq_true h1
      rw [e, show Kp371.stepBy (wOf m) n m.D.length = _ from Mth.step_wait (wOf m) n] at k
      exact k
    · have e : ¬ c = m.D.length := by
        rw [nat_eq_dec] at h1
        exact of_decide_eq_false h1
      have hlt : c < m.D.length := by omega
      have hd : m.D[c]? = some m.D[c] := List.getElem?_eq_getElem hlt
      have et : ts[c]? = some ts[c] := List.getElem?_eq_getElem (by omega)
      have ht := hts c _ _ et hd
      have hat : atI (ts.map V.ref) ((c : Nat) : Int) = some (V.ref ts[c]) := atI_nat (by rw [List.getElem?_map, et]; rfl)
      refine ⟨_, rfl, x, C, dx, _, _, rfl, d.obj, T.cl, T.a_deeds, dF_deeds, _, rfl, lD, _, _, _, rfl, rfl, SqL.of hl, hat, _, rfl, ts[c], m.D[c], n, rfl, .inl ht, ?_⟩
      rw [show Kp371.stepBy (wOf m) n c = _ from Mth.step_deed (w := wOf m) hd] at k
      cases hb : Kp371.able n m.D[c] with
      | true =>
        rw [hb] at k
        exact k
      | false =>
        rw [hb] at k
        exact k

abbrev s_behind_choice : Stmt := inClass (top 16) 15
theorem sc_behind_choice : FnScope ["self", "choice", "state"] ["self", "choice", "state"] (defScope s_behind_choice) := ⟨rfl, rfl, rfl, by decide +kernel, rfl, by decide +kernel, by decide +kernel⟩
def sp_behind_choice (C : Addr) : Sp := fun vs H Q _ => ∃ (x dx lD lE : Addr) (m : M) (c s t : Nat), vs = [.ref x, .int c, .int s] ∧ DeskAt C H x dx lD lE m ∧ Kp371.stepBy (wOf m) s c = some t ∧ Q (.int (t : Nat)) H
theorem ok_behind_choice {f : Addr} {fd : FuncData} (F : Fun K "behind_choice" "Desk.behind_choice" s_behind_choice f fd) (T : Txt K mg C) (m_behind_events : Met P w K mg base C 2 "behind_events" ["self", "state"] (sp_behind_events C)) (m_waiting : Met P w K mg base C 1 "waiting" ["self"] (sp_waiting C)) (c_made_by : Cal P w K mg base 1 "made_by" ["rule", "state"] (sp_made_by)) : FnOk P w K mg base CX0 3 f fd ["self", "choice", "state"] (sp_behind_choice C) := by
  refine F.ok sc_behind_choice (fun vs H Q E h => ?_) (fun cdv A outer s H vs Q E hr h => ?_)
  · obtain ⟨x, dx, lD, lE, m, c, s, t, rfl, _⟩ := h
    rfl
  · refine ⟨_, (pss_cons (ps_if (pt_cmpR op_ne (pv 1) (pe_met0 T.cl m_waiting hr (by decide) (pv 0)) (nomark _)) (pss_one (ps_set (i := 2) sc_behind_choice.nd rfl (Or.inl rfl) (pe_cal c_made_by hr (by decide) (pa_cons (pe_ix ix_list (pe_fld (pv 0) rfl) (pv 1) (fun _ _ => rfl)) (pa_cons (pv 2) pa_nil))))) pss_nil)
      (pss_one (ps_ret (pe_met T.cl m_behind_events hr (by decide) (pv 0) (pa_cons (pv 2) pa_nil))))), ?_⟩
    obtain ⟨x, dx, lD, lE, m, c, n, u, rfl, d, hst, k⟩ := h
    obtain ⟨ts, hl, hln, hts⟩ := d.deeds
    have hc : c ≤ m.D.length := Mth.step_le hst
    refine ⟨_, rfl, _, rfl, x, dx, _, rfl, d.obj, dF_meth (by decide +kernel), x, dx, lD, lE, m, rfl, d, rfl, _, rfl, ?_⟩
    refine if_either (fun h1 => ?_) (fun h1 => ?_)
    · have e : ¬ c = m.D.length := by
        rw [nat_eq_dec] at h1
        simpa using h1
      have hlt : c < m.D.length := by omega
      have hd : m.D[c]? = some m.D[c] := List.getElem?_eq_getElem hlt
      have et : ts[c]? = some ts[c] := List.getElem?_eq_getElem (by omega)
      have ht := hts c _ _ et hd
      have hat : atI (ts.map V.ref) ((c : Nat) : Int) = some (V.ref ts[c]) := atI_nat (by rw [List.getElem?_map, et]; rfl)
      rw [show Kp371.stepBy (wOf m) n c = _ from Mth.step_deed (w := wOf m) hd] at hst
      refine ⟨_, rfl, x, C, dx, _, _, rfl, d.obj, T.cl, T.a_deeds, dF_deeds, _, rfl, lD, _, _, _, rfl, rfl, SqL.of hl, hat, _, rfl, ts[c], m.D[c], n, rfl, ht, ?_⟩
      refine ⟨_, rfl, x, dx, _, rfl, d.obj, dF_meth (by decide +kernel), _, rfl, x, dx, lD, lE, m, _, rfl, d, ?_⟩
      cases hb : Kp371.able n m.D[c] with
      | true =>
        rw [hb] at hst
        cases hst
        exact k
      | false =>
        rw [hb] at hst
        cases hst
    · have e : c = m.D.length := by
        rw [nat_eq_dec] at h1
        simpa using h1
      rw [e, show Kp371.stepBy (wOf m) n m.D.length = _ from Mth.step_wait (wOf m) n] at hst
      cases hst
      exact ⟨_, rfl, x, dx, _, rfl, d.obj, dF_meth (by decide +kernel), _, rfl, x, dx, lD, lE, m, n, rfl, d, k⟩

abbrev s_behind_waiting : Stmt := inClass (top 16) 16
theorem sc_behind_waiting : FnScope ["self", "steps", "state", "step"] ["self", "steps"] (defScope s_behind_waiting) := ⟨rfl, rfl, rfl, by decide +kernel, rfl, by decide +kernel, by decide +kernel⟩
def sp_behind_waiting (C : Addr) : Sp := fun vs H Q _ => ∃ (x dx lD lE : Addr) (m : M) (n : Nat), vs = [.ref x, .int n] ∧ DeskAt C H x dx lD lE m ∧ n ≤ 40 ∧ Q (.int (Kp371.itself (wOf m) m.now n : Nat)) H
theorem ok_behind_waiting {f : Addr} {fd : FuncData} (F : Fun K "behind_waiting" "Desk.behind_waiting" s_behind_waiting f fd) (T : Txt K mg C) (m_behind_choice : Met P w K mg base C 3 "behind_choice" ["self", "choice", "state"] (sp_behind_choice C)) (m_waiting : Met P w K mg base C 1 "waiting" ["self"] (sp_waiting C)) : FnOk P w K mg base CX0 4 f fd ["self", "steps"] (sp_behind_waiting C) := by
  refine F.ok sc_behind_waiting (fun vs H Q E h => ?_) (fun cdv A outer s H vs Q E hr h => ?_)
  · obtain ⟨x, dx, lD, lE, m, n, rfl, _⟩ := h
    rfl
  · refine ⟨_, (pss_cons (ps_set (i := 2) sc_behind_waiting.nd rfl (Or.inl rfl) (pe_fld (pv 0) rfl))
      (pss_cons (ps_for PassesOwn.never rfl (pi_range1 (by rfl) T.n_range (pa_cons (pv 1) pa_nil)) (pg_name (i := 3) sc_behind_waiting.nd rfl (Or.inl rfl)) (pss_one (ps_set (i := 2) sc_behind_waiting.nd rfl (Or.inl rfl) (pe_met T.cl m_behind_choice hr (by decide) (pv 0) (pa_cons (pe_met0 T.cl m_waiting hr (by decide) (pv 0)) (pa_cons (pv 2) pa_nil))))))
      (pss_one (ps_ret (pv 2))))), ?_⟩
    obtain ⟨x, dx, lD, lE, m, n, rfl, d, hn, k⟩ := h
    refine ⟨_, rfl, x, C, dx, _, _, rfl, d.obj, T.cl, T.a_state, dF_state, ?_⟩
    refine ⟨_, rfl, (n : Int), rfl, by omega, by omega, for_range (lo := 0) (n := ((n : Nat) : Int).toNat) (fun i σ H' => H' = H ∧ ∃ v : Option V, σ = [some (.ref x), some (.int (n : Nat)), some (.int (Kp371.itself (wOf m) m.now i : Nat)), v]) ⟨rfl, none, rfl⟩ ?_ ?_⟩
    · rintro i σ H' hi ⟨rfl, v, rfl⟩
      refine ⟨_, rfl, x, dx, _, rfl, d.obj, dF_meth (by decide +kernel), _, rfl, x, dx, _, rfl, d.obj, dF_meth (by decide +kernel), x, dx, lD, lE, m, rfl, d, _, rfl, x, dx, lD, lE, m, m.D.length, _, _, rfl, d, Mth.step_wait (wOf m) _, ?_⟩
      refine ⟨rfl, some (.int (0 + (i : Int))), ?_⟩
      rw [Mth.itself_succ]
      rfl
    · rintro σ H' ⟨rfl, v, rfl⟩
      refine ⟨_, rfl, ?_⟩
      rw [Int.toNat_natCast]
      exact k

abbrev s_do_deed : Stmt := inClass (top 16) 8
theorem sc_do_deed : FnScope ["self", "i"] ["self", "i"] (defScope s_do_deed) := ⟨rfl, rfl, rfl, by decide +kernel, rfl, by decide +kernel, by decide +kernel⟩
theorem ok_do_deed {f : Addr} {fd : FuncData} (F : Fun K "do_deed" "Desk.do_deed" s_do_deed f fd) (T : Txt K mg C) (m_behind_choice : Met P w K mg base C 3 "behind_choice" ["self", "choice", "state"] (sp_behind_choice C)) (m_can_be_done : Met P w K mg base C 2 "can_be_done" ["self", "choice", "state"] (sp_can_be_done C)) : FnOk P w K mg base CX0 4 f fd ["self", "i"] (sp_op1 C opDo) := by
  refine F.ok sc_do_deed (fun vs H Q E h => ?_) (fun cdv A outer s H vs Q E hr h => ?_)
  · obtain ⟨x, dx, lD, lE, m, n, rfl, _⟩ := h
    rfl
  · refine ⟨_, (pss_cons (ps_if (pt_cmpR op_ge (pv 1) (pe_callB call_len_seq (by rfl) T.n_len PySem.boot_len (pa_cons (pe_fld (pv 0) rfl) pa_nil)) (nomark _)) (pss_one (ps_ret (pe_lst (pa_cons (pe_cst T.c_NO_SUCH) pa_nil)))) pss_nil)
      (pss_cons (ps_if (pt_not (pt_val (pe_met T.cl m_can_be_done hr (by decide) (pv 0) (pa_cons (pv 1) (pa_cons (pe_fld (pv 0) rfl) pa_nil))))) (pss_one (ps_ret (pe_lst (pa_cons (pe_cst T.c_NEED_NOT_SO) pa_nil)))) pss_nil)
      (pss_cons (ps_fld (pv 0) (pe_met T.cl m_behind_choice hr (by decide) (pv 0) (pa_cons (pv 1) (pa_cons (pe_fld (pv 0) rfl) pa_nil))) rfl)
      (pss_one (ps_ret (pe_lst (pa_cons (pe_fld (pv 0) rfl) pa_nil))))))), ?_⟩
    obtain ⟨x, dx, lD, lE, m, n, rfl, hn, d, k⟩ := h
    obtain ⟨ts, hl, hln, hts⟩ := d.deeds
    refine ⟨_, rfl, _, rfl, x, C, dx, _, _, rfl, d.obj, T.cl, T.a_deeds, dF_deeds, lD, _, rfl, .inl (SqL.of hl), _, _, rfl, rfl, _, rfl, ?_⟩
    refine if_either (fun h1 => ?_) (fun h1 => ?_)
    · have h1' := of_decide_eq_true h1
      rw [List.length_map, hln] at h1'
      unfold opDo at k
      rw [List.getElem?_eq_none (by omega)] at k
      exact ⟨small1, fun p hp => k.plain1 d p hp⟩
    have h1' := of_decide_eq_false h1
    rw [List.length_map, hln] at h1'
    have hd : m.D[n]? = some m.D[n] := List.getElem?_eq_getElem (by omega)
    have hst := Mth.step_deed (w := wOf m) (s := m.now) hd
    unfold opDo at k
    rw [hd] at k
    dsimp only at k
    refine ⟨_, rfl, x, dx, _, rfl, d.obj, dF_meth (by decide +kernel), _, rfl, _, rfl, x, C, dx, _, _, rfl, d.obj, T.cl, T.a_state, dF_state, x, dx, lD, lE, m, n, m.now, rfl, d, by omega, _, rfl, ?_⟩
    rw [hst]
    cases hb : Kp371.able m.now m.D[n] with
    | false =>
      rw [hb] at k
      exact ⟨small1, fun p hp => k.plain1 d p hp⟩
    | true =>
      rw [hb] at k hst
      refine ⟨_, rfl, x, dx, _, rfl, d.obj, dF_meth (by decide +kernel), _, rfl, _, rfl, x, C, dx, _, _, rfl, d.obj, T.cl, T.a_state, dF_state, x, dx, lD, lE, m, n, m.now, _, rfl, d, hst, ?_⟩
      refine ⟨_, rfl, x, C, dx, _, rfl, d.obj, T.cl, T.a_state, (by show 5 < 1000; decide), ?_⟩
      have d' := d.state (happ m.E (Kp371.done_ m.now m.D[n]))
      rw [← dF_put_state] at d'
      refine ⟨_, rfl, x, C, dx, _, _, rfl, upd_same, T.cl, T.a_state, (by rw [dF_put_state]; exact dF_state), small1, fun p hp => ?_⟩
      obtain ⟨xs, e1⟩ := d'.lstD
      obtain ⟨ys, e2⟩ := d'.lstE
      exact k _ p lD lE (d'.same (same_upd hp)) ⟨fun b o hb h1 _ _ => same_upd hp _ _ (by rw [upd_ne h1]; exact hb), .inl rfl, .inl rfl⟩ (upd_none' hp) upd_same (some_ne_none e1 hp).symm (some_ne_none e2 hp).symm

abbrev s_wait : Stmt := inClass (top 16) 9
theorem sc_wait : FnScope ["self", "steps"] ["self", "steps"] (defScope s_wait) := ⟨rfl, rfl, rfl, by decide +kernel, rfl, by decide +kernel, by decide +kernel⟩
theorem ok_wait {f : Addr} {fd : FuncData} (F : Fun K "wait" "Desk.wait" s_wait f fd) (T : Txt K mg C) (m_behind_waiting : Met P w K mg base C 4 "behind_waiting" ["self", "steps"] (sp_behind_waiting C)) : FnOk P w K mg base CX0 5 f fd ["self", "steps"] (sp_op1 C opWait) := by
  refine F.ok sc_wait (fun vs H Q E h => ?_) (fun cdv A outer s H vs Q E hr h => ?_)
  · obtain ⟨x, dx, lD, lE, m, n, rfl, _⟩ := h
    rfl
  · refine ⟨_, (pss_cons (ps_if (pt_cmpR op_gt (pv 1) (pe_cst T.c_MOST_STEPS) (nomark _)) (pss_one (ps_ret (pe_lst (pa_cons (pe_cst T.c_NOT_AS_TOLD) pa_nil)))) pss_nil)
      (pss_cons (ps_fld (pv 0) (pe_met T.cl m_behind_waiting hr (by decide) (pv 0) (pa_cons (pv 1) pa_nil)) rfl)
      (pss_one (ps_ret (pe_lst (pa_cons (pe_fld (pv 0) rfl) pa_nil)))))), ?_⟩
    obtain ⟨x, dx, lD, lE, m, n, rfl, hn, d, k⟩ := h
    refine ⟨_, rfl, _, _, rfl, rfl, _, rfl, ?_⟩
    refine if_either (fun h1 => ?_) (fun h1 => ?_)
    · have h1' := of_decide_eq_true h1
      unfold opWait at k
      rw [if_pos (by omega)] at k
      exact ⟨small1, fun p hp => k.plain1 d p hp⟩
    have h1' := of_decide_eq_false h1
    unfold opWait at k
    rw [if_neg (by omega)] at k
    refine ⟨_, rfl, x, dx, _, rfl, d.obj, dF_meth (by decide +kernel), _, rfl, x, dx, lD, lE, m, n, rfl, d, by omega, ?_⟩
    refine ⟨_, rfl, x, C, dx, _, rfl, d.obj, T.cl, T.a_state, (by show 5 < 1000; decide), ?_⟩
    have d' := d.state (Kp371.itself (wOf m) m.now n)
    rw [← dF_put_state] at d'
    refine ⟨_, rfl, x, C, dx, _, _, rfl, upd_same, T.cl, T.a_state, (by rw [dF_put_state]; exact dF_state), small1, fun p hp => ?_⟩
    obtain ⟨xs, e1⟩ := d'.lstD
    obtain ⟨ys, e2⟩ := d'.lstE
    exact k _ p lD lE (d'.same (same_upd hp)) ⟨fun b o hb h1 _ _ => same_upd hp _ _ (by rw [upd_ne h1]; exact hb), .inl rfl, .inl rfl⟩ (upd_none' hp) upd_same (some_ne_none e1 hp).symm (some_ne_none e2 hp).symm

abbrev s_by_itself : Stmt := inClass (top 16) 10
theorem sc_by_itself : FnScope ["self", "steps"] ["self", "steps"] (defScope s_by_itself) := ⟨rfl, rfl, rfl, by decide +kernel, rfl, by decide +kernel, by decide +kernel⟩
theorem ok_by_itself {f : Addr} {fd : FuncData} (F : Fun K "by_itself" "Desk.by_itself" s_by_itself f fd) (T : Txt K mg C) (m_behind_waiting : Met P w K mg base C 4 "behind_waiting" ["self", "steps"] (sp_behind_waiting C)) : FnOk P w K mg base CX0 5 f fd ["self", "steps"] (sp_op1 C opBy) := by
  refine F.ok sc_by_itself (fun vs H Q E h => ?_) (fun cdv A outer s H vs Q E hr h => ?_)
  · obtain ⟨x, dx, lD, lE, m, n, rfl, _⟩ := h
    rfl
  · refine ⟨_, (pss_cons (ps_if (pt_cmpR op_gt (pv 1) (pe_cst T.c_MOST_STEPS) (nomark _)) (pss_one (ps_ret (pe_lst (pa_cons (pe_cst T.c_NOT_AS_TOLD) pa_nil)))) pss_nil)
      (pss_one (ps_ret (pe_lst (pa_cons (pe_met T.cl m_behind_waiting hr (by decide) (pv 0) (pa_cons (pv 1) pa_nil)) pa_nil))))), ?_⟩
    obtain ⟨x, dx, lD, lE, m, n, rfl, hn, d, k⟩ := h
    refine ⟨_, rfl, _, _, rfl, rfl, _, rfl, ?_⟩
    refine if_either (fun h1 => ?_) (fun h1 => ?_)
    · have h1' := of_decide_eq_true h1
      unfold opBy at k
      rw [if_pos (by omega)] at k
      exact ⟨small1, fun p hp => k.plain1 d p hp⟩
    have h1' := of_decide_eq_false h1
    unfold opBy at k
    rw [if_neg (by omega)] at k
    exact ⟨_, rfl, x, dx, _, rfl, d.obj, dF_meth (by decide +kernel), _, rfl, x, dx, lD, lE, m, n, rfl, d, by omega, small1, fun p hp => k.plain1 d p hp⟩

abbrev s_play : Stmt := inClass (top 16) 11
theorem sc_play : FnScope ["self", "choices", "choice", "state", "done"] ["self", "choices"] (defScope s_play) := ⟨rfl, rfl, rfl, by decide +kernel, rfl, by decide +kernel, by decide +kernel⟩
def nl (l : List Nat) : List V := (Mth.castL l).map V.int
theorem nl_at {l : List Nat} {i c : Nat} (h : l[i]? = some c) : (nl l)[i]? = some (V.int (c : Nat)) := by
  unfold nl Mth.castL
  rw [List.getElem?_map, List.getElem?_map, h]
  rfl
theorem nl_at' {l : List Nat} {i : Nat} {v : V} (h : (nl l)[i]? = some v) : ∃ c : Nat, l[i]? = some c ∧ v = V.int (c : Nat) := by
  unfold nl Mth.castL at h
  rw [List.getElem?_map, List.getElem?_map] at h
  cases e : l[i]? with
  | none =>
    rw [e] at h
    cases h
  | some c =>
    rw [e] at h
    cases h
    exact ⟨c, rfl, rfl⟩
theorem nl_length (l : List Nat) : (nl l).length = l.length := by
  unfold nl Mth.castL
  rw [List.length_map, List.length_map]
def sp_play (C : Addr) : Sp := fun vs H Q _ => ∃ (x dx lD lE g : Addr) (m : M) (l : List Nat), vs = [.ref x, .ref g] ∧ DeskAt C H x dx lD lE m ∧ H g = some (.lst (nl l)) ∧ Told C H x dx lD lE (opPlay m l) Q
theorem ok_play {f : Addr} {fd : FuncData} (F : Fun K "play" "Desk.play" s_play f fd) (T : Txt K mg C) (m_behind_choice : Met P w K mg base C 3 "behind_choice" ["self", "choice", "state"] (sp_behind_choice C)) (m_is_choice : Met P w K mg base C 2 "is_choice" ["self", "choice"] (sp_is_choice C)) (m_can_be_done : Met P w K mg base C 2 "can_be_done" ["self", "choice", "state"] (sp_can_be_done C)) : FnOk P w K mg base CX0 4 f fd ["self", "choices"] (sp_play C) := by
  refine F.ok sc_play (fun vs H Q E h => ?_) (fun cdv A outer s H vs Q E hr h => ?_)
  · obtain ⟨x, dx, lD, lE, g, m, l, rfl, _⟩ := h
    rfl
  · refine ⟨_, (pss_cons (ps_for PassesOwn.never rfl (pi_list (pv 1)) (pg_name (i := 2) sc_play.nd rfl (Or.inl rfl)) (pss_one (ps_if (pt_not (pt_val (pe_met T.cl m_is_choice hr (by decide) (pv 0) (pa_cons (pv 2) pa_nil)))) (pss_one (ps_ret (pe_lst (pa_cons (pe_cst T.c_NO_SUCH) pa_nil)))) pss_nil)))
      (pss_cons (ps_set (i := 3) sc_play.nd rfl (Or.inl rfl) (pe_fld (pv 0) rfl))
      (pss_cons (ps_set (i := 4) sc_play.nd rfl (Or.inl rfl) pe_int)
      (pss_cons (ps_for PassesOwn.never rfl (pi_list (pv 1)) (pg_name (i := 2) sc_play.nd rfl (Or.inl rfl)) (pss_cons (ps_if (pt_not (pt_val (pe_met T.cl m_can_be_done hr (by decide) (pv 0) (pa_cons (pv 2) (pa_cons (pv 3) pa_nil))))) (pss_one ps_break) pss_nil)
      (pss_cons (ps_set (i := 3) sc_play.nd rfl (Or.inl rfl) (pe_met T.cl m_behind_choice hr (by decide) (pv 0) (pa_cons (pv 2) (pa_cons (pv 3) pa_nil))))
      (pss_one (ps_aug (i := 4) sc_play.nd rfl (Or.inl rfl) pe_int ip_add)))))
      (pss_one (ps_ret (pe_lst (pa_cons (pv 3) (pa_cons (pv 4) pa_nil))))))))), ?_⟩
    obtain ⟨x, dx, lD, lE, g, m, l, rfl, d, hg, k⟩ := h
    refine ⟨_, rfl, g, rfl, ⟨_, SqL.of hg⟩, for_list (K := K) (a := g) (xs := nl l) (fun i σ H' => H' = H ∧ (∀ j c, j < i → l[j]? = some c → c ≤ m.D.length) ∧ ∃ v : Option V, σ = [some (.ref x), some (.ref g), v, none, none])
      ⟨rfl, fun j c hj => absurd hj (Nat.not_lt_zero _), none, rfl⟩ (fun i σ H' _ hh => by rw [hh.1]; exact SqL.of hg) ?_ ?_⟩
    · rintro i y σ H' hi ⟨rfl, hall, v, rfl⟩
      obtain ⟨c, hc, rfl⟩ := nl_at' hi
      refine ⟨_, rfl, x, dx, _, rfl, d.obj, dF_meth (by decide +kernel), _, rfl, x, dx, lD, lE, m, c, rfl, d, _, rfl, ?_⟩
      refine if_either (fun h1 => ?_) (fun h1 => ?_)
      · have h1' : ¬ c ≤ m.D.length := by simpa using h1
        unfold opPlay at k
        rw [if_pos (List.any_eq_true.mpr ⟨c, List.mem_of_getElem? hc, decide_eq_true (by omega)⟩)] at k
        exact ⟨small1, fun p hp => k.plain1 d p hp⟩
      · have h1' : c ≤ m.D.length := by simpa using h1
        refine ⟨rfl, fun j c' hj hc' => ?_, some (V.int (c : Nat)), rfl⟩
        by_cases z : j < i
        · exact hall j c' z hc'
        · have e : j = i := by omega
          rw [e, hc] at hc'
          cases hc'
          exact h1'
    · rintro σ H' ⟨rfl, hall, v, rfl⟩
      have hle : ∀ c ∈ l, c ≤ m.D.length := fun c hc => by
        obtain ⟨j, hj⟩ := List.getElem?_of_mem hc
        refine hall j c ?_ hj
        rw [nl_length]
        exact (List.getElem?_eq_some_iff.mp hj).1
      unfold opPlay at k
      rw [if_neg (by
        intro z
        obtain ⟨c, h1, h2⟩ := List.any_eq_true.mp z
        have := of_decide_eq_true h2
        have := hle c h1
        omega)] at k
      refine ⟨_, rfl, x, C, dx, _, _, rfl, d.obj, T.cl, T.a_state, dF_state, ?_⟩
      have fin : ∀ (st i : Nat) (b : Bool), playF m l = (st, i, b) → ∀ p, H' p = none → Q (.ref p) (upd H' p (.lst [.int (st : Nat), .int (i : Nat)])) := fun st i b e p hp => by
        rw [e] at k
        exact k.plain1 d p hp
      refine ⟨_, rfl, g, rfl, ⟨_, SqL.of hg⟩, for_list (K := K) (a := g) (xs := nl l) (fun i σ H2 => H2 = H' ∧ ∃ (st : Nat) (v : Option V), playF m (l.take i) = (st, i, false) ∧ σ = [some (.ref x), some (.ref g), v, some (.int (st : Nat)), some (.int (i : Nat))])
        ⟨rfl, m.now, v, rfl, rfl⟩ (fun i σ H2 _ hh => by rw [hh.1]; exact SqL.of hg) ?_ ?_⟩
      · rintro i y σ H2 hi ⟨rfl, st, v, hp, rfl⟩
        obtain ⟨c, hc, rfl⟩ := nl_at' hi
        refine ⟨_, rfl, x, dx, _, rfl, d.obj, dF_meth (by decide +kernel), _, rfl, _, rfl, x, dx, lD, lE, m, c, st, rfl, d, hle c (List.mem_of_getElem? hc), _, rfl, ?_⟩
        cases hst : Kp371.stepBy (wOf m) st c with
        | none => exact ⟨_, rfl, _, rfl, small (show 2 ≤ 1000 by decide), fun p hp' => fin st i true (play_stop hc hp hst) p hp'⟩
        | some t =>
          refine ⟨_, rfl, x, dx, _, rfl, d.obj, dF_meth (by decide +kernel), _, rfl, _, rfl, x, dx, lD, lE, m, c, st, t, rfl, d, hst, ?_⟩
          exact ⟨_, rfl, _, _, rfl, rfl, rfl, t, some (V.int (c : Nat)), play_more hc hp hst, rfl⟩
      · rintro σ H2 ⟨rfl, st, v, hp, rfl⟩
        rw [nl_length, List.take_length] at hp
        refine ⟨_, rfl, _, rfl, small (show 2 ≤ 1000 by decide), fun p hp' => ?_⟩
        rw [nl_length]
        exact fin st _ false hp p hp'

abbrev s_able : Stmt := inClass (top 16) 7
theorem sc_able : FnScope ["self", "deeds", "i"] ["self"] (defScope s_able) := ⟨rfl, rfl, rfl, by decide +kernel, rfl, by decide +kernel, by decide +kernel⟩
def sp_op0 (C : Addr) (op : M → M × List Int) : Sp := fun vs H Q _ => ∃ (x dx lD lE : Addr) (m : M), vs = [.ref x] ∧ DeskAt C H x dx lD lE m ∧ Told C H x dx lD lE (op m) Q
theorem ok_able {f : Addr} {fd : FuncData} (F : Fun K "able" "Desk.able" s_able f fd) (T : Txt K mg C) (c_is_met : Cal P w K mg base 1 "is_met" ["rule", "state"] (sp_is_met)) : FnOk P w K mg base CX0 2 f fd ["self"] (sp_op0 C opAble) := by
  refine F.ok sc_able (fun vs H Q E h => ?_) (fun cdv A outer s H vs Q E hr h => ?_)
  · obtain ⟨x, dx, lD, lE, m, rfl, _⟩ := h
    rfl
  · refine ⟨_, (pss_cons (ps_setLc (i := 1) (own := [("i", 2)]) (g := gName 2) (tt := (tB (tCall (sp_is_met) [] E0 (tCons (tOp (rIxL K) (tFld K (tVar 0) "deeds") (tVar 2)) (tCons (tFld K (tVar 0) "state") tNil))))) (te := (tVar 2)) rfl sc_able.nd rfl rfl (sw_true rfl rfl rfl (by decide +kernel)) (pi_range1 (by rfl) T.n_range (pa_cons (pe_callB call_len_seq (by rfl) T.n_len PySem.boot_len (pa_cons (pe_fld (pv 0) rfl) pa_nil)) pa_nil)) (blkOk_by (N := ["self", "deeds", "i"]) (sc := defScope s_able) (by decide +kernel)) (fun _ _ _ _ _ => by exact (pg_name (i := 2) sc_able.nd rfl (Or.inl rfl))) (fun _ _ _ _ _ => by exact ((pts_one (pt_val (pe_cal c_is_met hr (by decide) (pa_cons (pe_ix ix_list (by exact (pe_fld (pv 0) (by rfl))) (pv 2) (fun _ _ => rfl)) (pa_cons (by exact (pe_fld (pv 0) (by rfl))) pa_nil))))))) (fun _ _ _ _ _ => by exact ((pv 2))))
      (pss_one (ps_ret (pe_op op_cat (pe_lst (pa_cons (pe_callB call_len_seq (by rfl) T.n_len PySem.boot_len (pa_cons (pv 1) pa_nil)) pa_nil)) (pv 1))))), ?_⟩
    obtain ⟨x, dx, lD, lE, m, rfl, d, k⟩ := h
    obtain ⟨ts, hl, hln, hts⟩ := d.deeds
    have hsz := d.szD
    refine ⟨_, rfl, x, C, dx, _, _, rfl, d.obj, T.cl, T.a_deeds, dF_deeds, lD, _, rfl, .inl (SqL.of hl), ((ts.map V.ref).length : Int), rfl, by omega, by rw [List.length_map]; omega, fun D hD => ?_⟩
    have xD : x ≠ D := some_ne_none d.obj hD
    have lDD : lD ≠ D := some_ne_none hl hD
    refine lc_range (lo := 0) (n := ((ts.map V.ref).length : Int).toNat) (fun i H' => i ≤ m.D.length ∧ H' = upd H D (.lst (((List.range i).filter (ableAt m)).map fun (k : Nat) => V.int (k : Nat)))) ⟨Nat.zero_le _, rfl⟩ ?_ ?_
    · rintro i H' hi ⟨_, rfl⟩
      have hi' : i < m.D.length := by rw [List.length_map] at hi; omega
      have hd : m.D[i]? = some m.D[i] := List.getElem?_eq_getElem hi'
      have e : ts[i]? = some ts[i] := List.getElem?_eq_getElem (by omega)
      have ht := hts i _ _ e hd
      have oD : ∀ {b : Addr} {o : HO} {u : HO}, H b = some o → upd H D u b = some o := fun {b o u} hb => by
        rw [upd_ne (some_ne_none hb hD)]
        exact hb
      have hat : atI (ts.map V.ref) (0 + (i : Int)) = some (V.ref ts[i]) := at_of (j := i) (by omega) (by rw [List.getElem?_map, e]; rfl)
      refine ⟨rfl, _, rfl, x, C, dx, _, _, rfl, oD d.obj, T.cl, T.a_deeds, dF_deeds, _, rfl, lD, _, _, _, rfl, rfl, SqL.of (oD hl), hat, _, rfl, x, C, dx, _, _, rfl, oD d.obj, T.cl, T.a_state, dF_state, ts[i], m.D[i], m.now, rfl, .inl (oD ht), _, rfl, ?_⟩
      have hab : ableAt m i = Kp371.able m.now m.D[i] := by
        unfold ableAt
        rw [hd]
      have hfl : ((List.range i).filter (ableAt m)).length ≤ i := Nat.le_trans (List.length_filter_le _ _) (by simp)
      refine if_either (fun h1 => ?_) (fun h1 => ?_)
      · refine ⟨_, rfl, _, upd_same, small1000 (by rw [List.length_map]; omega), by omega, ?_⟩
        rw [upd_upd, List.range_succ, List.filter_append, List.map_append]
        have e2 : (List.filter (ableAt m) [i]).map (fun (k : Nat) => V.int (k : Nat)) = [V.int (0 + (i : Int))] := by
          rw [List.filter_cons_of_pos (by rw [hab]; exact h1), Int.zero_add]
          rfl
        rw [e2]
      · refine ⟨by omega, ?_⟩
        rw [List.range_succ, List.filter_append]
        have e2 : List.filter (ableAt m) [i] = [] := by
          rw [List.filter_cons_of_neg (by rw [hab, h1]; decide)]
          rfl
        rw [e2, List.append_nil]
    · rintro H' ⟨_, rfl⟩
      have e3 : ((ts.map V.ref).length : Int).toNat = m.D.length := by rw [List.length_map]; omega
      rw [e3]
      have hfl : ((List.range m.D.length).filter (ableAt m)).length ≤ m.D.length := Nat.le_trans (List.length_filter_le _ _) (by simp)
      refine ⟨_, rfl, D, _, rfl, .inl (SqL.of upd_same), small1, fun q hq => ?_⟩
      have qD : D ≠ q := some_ne_none upd_same hq
      refine ⟨_, rfl, q, D, _, _, rfl, rfl, upd_same, (by rw [upd_ne qD]; exact upd_same), small (by simp; omega), fun p hp => ?_⟩
      refine k.plain (m := m) (ans := counted (ableL m)) d (fun b o hb => ?_) (upd_none' (upd_none' hp)) ?_
      · have h1 := upd_none' (upd_none' hp)
        have h2 := upd_none' hq
        rw [upd_ne (some_ne_none hb h1), upd_ne (some_ne_none hb h2), upd_ne (some_ne_none hb hD)]
        exact hb
      · rw [upd_same]
        simp [counted, ableL]

/-! ### what is found, in its order: a state, its row, where the row lies -/
abbrev E3 := Nat × List Nat × Addr
def kvOf (L : List E3) : List (Key × V) := L.map fun e => (Sum.inl (e.1 : Int), V.ref e.2.2)
def fOf (L : List E3) : List (Nat × List Nat) := L.map fun e => (e.1, e.2.1)
def sOf (L : List E3) : List Nat := L.map fun e => e.1
theorem fOf_s (L : List E3) : (fOf L).map (·.1) = sOf L := by
  unfold fOf sOf
  rw [List.map_map]
  rfl
theorem fOf_at {L : List E3} {i : Nat} {e : E3} (h : L[i]? = some e) : (fOf L)[i]? = some (e.1, e.2.1) := by
  unfold fOf
  rw [List.getElem?_map, h]
  rfl
theorem fOf_len (L : List E3) : (fOf L).length = L.length := List.length_map _
theorem kvOf_len (L : List E3) : (kvOf L).length = L.length := List.length_map _
theorem sOf_len (L : List E3) : (sOf L).length = L.length := List.length_map _
theorem key_inj {a b : Nat} : ((Sum.inl (a : Int) : Key) = Sum.inl (b : Int)) ↔ a = b := by
  constructor
  · intro h
    injection h with h
    omega
  · intro h
    rw [h]
theorem val_not : ∀ {L : List E3} {t : Nat}, t ∉ sOf L → valV (kvOf L) (Sum.inl (t : Int)) = none
  | [], _, _ => rfl
  | e :: L, t, h => by
    have h1 : ¬ e.1 = t := fun z => h (by rw [← z]; exact List.mem_cons_self)
    have h2 : t ∉ sOf L := fun z => h (List.mem_cons_of_mem _ z)
    show valV ((Sum.inl (e.1 : Int), V.ref e.2.2) :: kvOf L) _ = none
    rw [valV_neg (fun z => h1 (key_inj.mp z))]
    exact val_not h2
theorem val_at : ∀ {L : List E3} {e : E3}, (sOf L).Nodup → e ∈ L → valV (kvOf L) (Sum.inl (e.1 : Int)) = some (V.ref e.2.2)
  | [], _, _, h => by cases h
  | f :: L, e, hn, h => by
    obtain ⟨n1, n2⟩ := List.nodup_cons.mp hn
    show valV ((Sum.inl (f.1 : Int), V.ref f.2.2) :: kvOf L) _ = _
    rcases List.mem_cons.mp h with z | z
    · rw [z, valV_pos rfl]
    · have h1 : ¬ f.1 = e.1 := fun q => n1 (by
        show f.1 ∈ sOf L
        rw [q]
        exact List.mem_map.mpr ⟨e, z, rfl⟩)
      rw [valV_neg (fun z => h1 (key_inj.mp z))]
      exact val_at n2 z
theorem val_in {L : List E3} {t : Nat} (hn : (sOf L).Nodup) (h : t ∈ sOf L) : ∃ e ∈ L, e.1 = t ∧ valV (kvOf L) (Sum.inl (t : Int)) = some (V.ref e.2.2) := by
  obtain ⟨e, he, rfl⟩ := List.mem_map.mp h
  exact ⟨e, he, rfl, val_at hn he⟩
theorem kvOf_more (L : List E3) (e : E3) : kvOf (L ++ [e]) = kvOf L ++ [(Sum.inl (e.1 : Int), V.ref e.2.2)] := by
  unfold kvOf
  rw [List.map_append]
  rfl
theorem fOf_more (L : List E3) (e : E3) : fOf (L ++ [e]) = fOf L ++ [(e.1, e.2.1)] := by
  unfold fOf
  rw [List.map_append]
  rfl
theorem sOf_more (L : List E3) (e : E3) : sOf (L ++ [e]) = sOf L ++ [e.1] := by
  unfold sOf
  rw [List.map_append]
  rfl
theorem nl_more (l : List Nat) (c : Nat) : nl (l ++ [c]) = nl l ++ [V.int (c : Nat)] := by
  unfold nl Mth.castL
  rw [List.map_append, List.map_append]
  rfl
/-- what a search leaves: the dict at p, its rows -/
structure RowsAt (H : Hp) (p : Addr) (L : List E3) : Prop where
  dict : H p = some (.dK (kvOf L))
  rows : ∀ e ∈ L, H e.2.2 = some (.lst (nl e.2.1))
/-- the search is at its end -/
def Ended (w : Kp371.World) (s : Nat) (L : List E3) : Prop := ∃ i, L.length ≤ i ∧ Mth.BF w s (fOf L) i 0
structure SR (H0 H : Hp) (p q : Addr) (L : List E3) : Prop where
  same : Same H0 H
  np : H0 p = none
  nq : H0 q = none
  rowsAt : RowsAt H p L
  lst : H q = some (.lst (nl (sOf L)))
  apart : ∀ e ∈ L, e.2.2 ≠ q
theorem bf_nodup {w : Kp371.World} {s i c : Nat} {L : List E3} (B : Mth.BF w s (fOf L) i c) : (sOf L).Nodup := by
  rw [← fOf_s]
  exact B.nodup
theorem Ended.reach {w : Kp371.World} {s : Nat} {L : List E3} (E : Ended w s L) (t : Nat) : t ∈ sOf L ↔ Mth.Reach w s t := by
  obtain ⟨i, hi, B⟩ := E
  rw [← fOf_s]
  exact B.reach (by rw [fOf_len]; exact hi) t
theorem Ended.nodup {w : Kp371.World} {s : Nat} {L : List E3} (E : Ended w s L) : (sOf L).Nodup := by
  obtain ⟨i, hi, B⟩ := E
  exact bf_nodup B
theorem Ended.size {w : Kp371.World} {s : Nat} {L : List E3} (E : Ended w s L) (g : Mth.Good w) (hs : s < 2 ^ w.m) : L.length ≤ 32 := by
  obtain ⟨i, hi, B⟩ := E
  rw [← fOf_len]
  exact B.size32 g hs
theorem Ended.row {w : Kp371.World} {s : Nat} {L : List E3} (E : Ended w s L) (g : Mth.Good w) (hs : s < 2 ^ w.m) {e : E3} (h : e ∈ L) : e.2.1.length ≤ 32 := by
  obtain ⟨i, hi, B⟩ := E
  exact B.row_short g hs (p := (e.1, e.2.1)) (List.mem_map.mpr ⟨e, h, rfl⟩)
/-- one more is found -/
theorem SR.more {H0 H : Hp} {p q : Addr} {L : List E3} (U : SR H0 H p q L) {t c a1 a2 : Nat} {row : List Nat} (h1 : H a1 = none) (h2 : upd H a1 (.lst [.int (c : Nat)]) a2 = none) :
    SR H0 (upd (upd (upd (upd H a1 (.lst [.int (c : Nat)])) a2 (.lst (nl (row ++ [c])))) p (.dK (kvOf (L ++ [(t, row ++ [c], a2)])))) q (.lst (nl (sOf L) ++ [.int (t : Nat)]))) p q (L ++ [(t, row ++ [c], a2)]) := by
  have h2' : H a2 = none := upd_none' h2
  have pq : p ≠ q := ne_of U.rowsAt.dict U.lst (by intro z; cases z)
  have q1 : q ≠ a1 := some_ne_none U.lst h1
  have q2 : q ≠ a2 := some_ne_none U.lst h2'
  have p2 : p ≠ a2 := some_ne_none U.rowsAt.dict h2'
  refine ⟨fun b o hb => ?_, U.np, U.nq, ⟨?_, fun e he => ?_⟩, ?_, fun e he => ?_⟩
  · have hb' := U.same b o hb
    rw [upd_ne (some_ne_none hb U.nq), upd_ne (some_ne_none hb U.np), upd_ne (some_ne_none hb' h2'), upd_ne (some_ne_none hb' h1)]
    exact hb'
  · rw [upd_ne pq, upd_same]
  · rcases List.mem_append.mp he with he | he
    · have hr := U.rowsAt.rows e he
      have np : e.2.2 ≠ p := ne_of hr U.rowsAt.dict (by intro z; cases z)
      rw [upd_ne (U.apart e he), upd_ne np, upd_ne (some_ne_none hr h2'), upd_ne (some_ne_none hr h1)]
      exact hr
    · rw [List.mem_singleton.mp he]
      show upd _ q _ a2 = some (.lst (nl (row ++ [c])))
      rw [upd_ne q2.symm, upd_ne p2.symm, upd_same]
  · rw [upd_same, sOf_more, nl_more]
  · rcases List.mem_append.mp he with he | he
    · exact U.apart e he
    · rw [List.mem_singleton.mp he]
      exact q2.symm
def left4 (n : Nat) (σ : L2.St) : Nat := match σ[4]? with
  | some (some (V.int z)) => ((n : Int) - z).toNat
  | _ => 0

abbrev s_shortest_rows : Stmt := top 19
theorem sc_shortest_rows : FnScope ["desk", "start", "rows", "states", "place", "state", "choice", "behind"] ["desk", "start"] (defScope s_shortest_rows) := ⟨rfl, rfl, rfl, by decide +kernel, rfl, by decide +kernel, by decide +kernel⟩
def sp_shortest_rows (C : Addr) : Sp := fun vs H Q _ => ∃ (x dx lD lE : Addr) (m : M) (s : Nat), vs = [.ref x, .int s] ∧ DeskAt C H x dx lD lE m ∧ Mth.Good (wOf m) ∧ s < 2 ^ m.mm ∧
  ∀ (H' : Hp) (p : Addr) (L : List E3), Same H H' → H p = none → RowsAt H' p L → Ended (wOf m) s L → Q (.ref p) H'
theorem ok_shortest_rows {f : Addr} {fd : FuncData} (F : Fun K "shortest_rows" "shortest_rows" s_shortest_rows f fd) (T : Txt K mg C) (m_can_be_done : Met P w K mg base C 2 "can_be_done" ["self", "choice", "state"] (sp_can_be_done C)) (m_waiting : Met P w K mg base C 1 "waiting" ["self"] (sp_waiting C)) (m_behind_choice : Met P w K mg base C 3 "behind_choice" ["self", "choice", "state"] (sp_behind_choice C)) : FnOk P w K mg base CX0 4 f fd ["desk", "start"] (sp_shortest_rows C) := by
  refine F.ok sc_shortest_rows (fun vs H Q E h => ?_) (fun cdv A outer s H vs Q E hr h => ?_)
  · obtain ⟨x, dx, lD, lE, m, s, rfl, _⟩ := h
    rfl
  · refine ⟨_, (pss_cons (ps_set (i := 2) sc_shortest_rows.nd rfl (Or.inl rfl) (pe_disp (pps_cons (pv 1) (pe_lst pa_nil) pps_nil) (by rfl) (by rfl) (fun z => by cases z) (by decide)))
      (pss_cons (ps_set (i := 3) sc_shortest_rows.nd rfl (Or.inl rfl) (pe_lst (pa_cons (pv 1) pa_nil)))
      (pss_cons (ps_set (i := 4) sc_shortest_rows.nd rfl (Or.inl rfl) pe_int)
      (pss_cons (ps_while PassesOwn.never (pt_cmpR op_lt (pv 4) (pe_callB call_len_seq (by rfl) T.n_len PySem.boot_len (pa_cons (pv 3) pa_nil)) (nomark _)) (pss_cons (ps_set (i := 5) sc_shortest_rows.nd rfl (Or.inl rfl) (pe_ix ix_list (pv 3) (pv 4) (fun _ _ => rfl)))
      (pss_cons (ps_for PassesOwn.never rfl (pi_range1 (by rfl) T.n_range (pa_cons (pe_op op_add (pe_met0 T.cl m_waiting hr (by decide) (pv 0)) pe_int) pa_nil)) (pg_name (i := 6) sc_shortest_rows.nd rfl (Or.inl rfl)) (pss_one (ps_if (pt_val (pe_met T.cl m_can_be_done hr (by decide) (pv 0) (pa_cons (pv 6) (pa_cons (pv 5) pa_nil)))) (pss_cons (ps_set (i := 7) sc_shortest_rows.nd rfl (Or.inl rfl) (pe_met T.cl m_behind_choice hr (by decide) (pv 0) (pa_cons (pv 6) (pa_cons (pv 5) pa_nil))))
      (pss_one (ps_if (pt_cmp (pc_dnotin (hu_of hr) (pv 7) (pv 2))) (pss_cons (ps_dput (hu_of hr) (pv 2) (pv 7) (pe_op op_cat (pe_dget (hu_of hr) (pv 2) (pv 5) (fun _ _ => rfl)) (pe_lst (pa_cons (pv 6) pa_nil))) rfl)
      (pss_one (ps_expr (pe_bm PySem.F.plainAttrs_list PySem.F.slot_list_append PySem.F.type_list_append mt_append (pv 3) (pa_cons (pv 7) pa_nil))))) pss_nil))) pss_nil)))
      (pss_one (ps_aug (i := 4) sc_shortest_rows.nd rfl (Or.inl rfl) pe_int ip_add)))))
      (pss_one (ps_ret (pv 2))))))), ?_⟩
    obtain ⟨x, dx, lD, lE, m, n, rfl, d, gd, hn, k⟩ := h
    intro p hp
    refine ⟨_, rfl, small (by decide), fun a0 ha0 => ⟨?_, [(Sum.inl (n : Int), .ref a0)], rfl, (show 1 ≤ 15 by decide), ?_⟩⟩
    · rw [upd_ne (some_ne_none upd_same ha0)]
      exact upd_same
    refine ⟨_, rfl, small1, fun q hq => ?_⟩
    have hq2 := upd_none' hq
    have hq1 := upd_none' hq2
    have hq0 : H q = none := upd_none' hq1
    have ha00 : H a0 = none := upd_none' ha0
    have pa : p ≠ a0 := some_ne_none upd_same ha0
    have e0 : mergeK [] [(Sum.inl (n : Int), V.ref a0)] = kvOf [(n, [], a0)] := rfl
    rw [e0] at hq ⊢
    have pq : p ≠ q := some_ne_none upd_same hq
    have aq : a0 ≠ q := fun z => by
      rw [← z, upd_ne pa.symm, upd_same] at hq
      cases hq
    refine while_by (fun σ H' => ∃ (L : List E3) (i : Nat) (v5 v6 v7 : Option V), σ = [some (.ref x), some (.int (n : Nat)), some (.ref p), some (.ref q), some (.int (i : Nat)), v5, v6, v7] ∧ SR H H' p q L ∧ Mth.BF (wOf m) n (fOf L) i 0)
      (fun σ _ => left4 32 σ) ⟨[(n, [], a0)], 0, none, none, none, rfl, ⟨fun b o hb => ?_, hp, hq0, ⟨?_, fun e he => ?_⟩, upd_same, fun e he => ?_⟩, Mth.bf_start _ _⟩ ?_ ?_
    · rw [upd_ne (some_ne_none hb hq0), upd_ne (some_ne_none hb hp), upd_ne (some_ne_none hb ha00), upd_ne (some_ne_none hb hp)]
      exact hb
    · rw [upd_ne pq, upd_same]
    · rw [List.mem_singleton.mp he]
      show upd _ q _ a0 = some (.lst (nl []))
      rw [upd_ne aq, upd_ne pa.symm, upd_same]
      rfl
    · rw [List.mem_singleton.mp he]
      exact aq
    · rintro σ H' ⟨L, i, v5, v6, v7, rfl, U, B⟩
      refine ⟨_, rfl, _, rfl, q, _, rfl, .inl (SqL.of U.lst), _, _, rfl, rfl, _, rfl, ?_⟩
      rw [nl_length, sOf_len]
      refine if_either (fun h1 => ?_) (fun h1 => ?_)
      · have hi : i < L.length := by
          have := of_decide_eq_true h1
          omega
        have he : L[i]? = some L[i] := List.getElem?_eq_getElem hi
        have hsi : (nl (sOf L))[i]? = some (V.int (L[i].1 : Nat)) := nl_at (by unfold sOf; rw [List.getElem?_map, he]; rfl)
        generalize L[i] = e at he hsi
        have hsz : m.D.length ≤ 6 := d.szD
        have d1 := d.same U.same
        have nat1 : ((m.D.length : Nat) : Int) + 1 = ((m.D.length + 1 : Nat) : Int) := by omega
        refine ⟨_, rfl, _, rfl, q, _, _, _, rfl, rfl, SqL.of U.lst, atI_nat hsi, ?_⟩
        refine ⟨_, rfl, x, dx, _, rfl, d1.obj, dF_meth (by decide +kernel), x, dx, lD, lE, m, rfl, d1, _, _, rfl, rfl, ((m.D.length : Nat) : Int) + 1, rfl, by omega, by omega, ?_⟩
        refine for_range (lo := 0) (n := (((m.D.length : Nat) : Int) + 1).toNat) (fun c σ H2 => ∃ (L : List E3) (v6 v7 : Option V), σ = [some (.ref x), some (.int (n : Nat)), some (.ref p), some (.ref q), some (.int (i : Nat)), some (.int (e.1 : Nat)), v6, v7] ∧ SR H H2 p q L ∧ Mth.BF (wOf m) n (fOf L) i c ∧ L[i]? = some e)
          ⟨L, v6, v7, rfl, U, B, he⟩ ?_ ?_
        · rintro c σ H2 hc ⟨L, v6, v7, rfl, U, B, he⟩
          have hc' : c ≤ m.D.length := by
            rw [nat1, Int.toNat_natCast] at hc
            omega
          have d2 := d.same U.same
          have hf := fOf_at he
          rw [Int.zero_add]
          refine ⟨_, rfl, x, dx, _, rfl, d2.obj, dF_meth (by decide +kernel), _, rfl, _, rfl, x, dx, lD, lE, m, c, e.1, rfl, d2, hc', _, rfl, ?_⟩
          cases hst : Kp371.stepBy (wOf m) e.1 c with
          | none => exact ⟨L, _, _, rfl, U, B.skip hf hst, he⟩
          | some t =>
            refine ⟨_, rfl, x, dx, _, rfl, d2.obj, dF_meth (by decide +kernel), _, rfl, _, rfl, x, dx, lD, lE, m, c, e.1, t, rfl, d2, hst, ?_⟩
            refine ⟨_, rfl, _, rfl, p, _, rfl, DGet.k (k := Sum.inl (t : Int)) U.rowsAt.dict, _, rfl, ?_⟩
            by_cases ht : t ∈ sOf L
            · obtain ⟨e', _, _, hv⟩ := val_in (bf_nodup B) ht
              rw [hv]
              exact ⟨L, _, _, rfl, U, B.seen hf hst (by rw [fOf_s]; exact ht), he⟩
            · have hv := val_not ht
              rw [hv]
              have hrow := U.rowsAt.rows e (List.mem_of_getElem? he)
              have hlen : e.2.1.length ≤ 32 := B.row_short gd hn (List.mem_of_getElem? hf)
              have hsize := B.size32 gd hn
              rw [fOf_len] at hsize
              refine ⟨_, rfl, _, rfl, p, V.ref e.2.2, rfl, .inl ⟨_, Sum.inl (e.1 : Int), .inl U.rowsAt.dict, rfl, (val_at (bf_nodup B) (List.mem_of_getElem? he)).symm⟩, _, rfl, small1, fun a1 h1 => ?_⟩
              refine ⟨e.2.2, a1, _, _, rfl, rfl, (by rw [upd_ne (some_ne_none hrow h1)]; exact hrow), upd_same, small (by rw [nl_length]; simp; omega), fun a2 h2 => ?_⟩
              have h2' := upd_none' h2
              have p1 : p ≠ a1 := some_ne_none U.rowsAt.dict h1
              have p2 : p ≠ a2 := some_ne_none U.rowsAt.dict h2'
              have q1 : q ≠ a1 := some_ne_none U.lst h1
              have q2 : q ≠ a2 := some_ne_none U.lst h2'
              have qp : q ≠ p := (ne_of U.rowsAt.dict U.lst (by intro z; cases z)).symm
              refine ⟨_, rfl, _, rfl, p, _, rfl, DPut.k (k := Sum.inl (t : Int)) (kvs := kvOf L) (by rw [upd_ne p2, upd_ne p1]; exact U.rowsAt.dict) (small1000 (by rw [kvOf_len]; omega)), ?_⟩
              have hq' : upd (upd (upd H2 a1 (.lst [.int (c : Nat)])) a2 (.lst (nl e.2.1 ++ [.int (c : Nat)]))) p (.dK (putK (kvOf L) (Sum.inl (t : Int)) (.ref a2))) q = some (.lst (nl (sOf L))) := by
                rw [upd_ne qp, upd_ne q2, upd_ne q1]
                exact U.lst
              refine ⟨_, rfl, .inl ⟨rfl, _, SqL.of hq'⟩, _, rfl, q, _, _, rfl, rfl, hq', small1000 (by rw [nl_length, sOf_len]; omega), ?_⟩
              refine ⟨L ++ [(t, e.2.1 ++ [c], a2)], _, _, rfl, ?_, ?_, ?_⟩
              · have z := U.more (t := t) (row := e.2.1) h1 h2
                rw [nl_more, kvOf_more] at z
                rw [putK_new _ hv]
                exact z
              · rw [fOf_more]
                exact B.new hf hst (by rw [fOf_s]; exact ht)
              · rw [List.getElem?_append_left (List.getElem?_eq_some_iff.mp he).1]
                exact he
        · rintro σ H2 ⟨L, v6, v7, rfl, U, B, he⟩
          rw [nat1, Int.toNat_natCast] at B
          refine ⟨_, rfl, _, _, rfl, rfl, ⟨L, i + 1, _, _, _, rfl, U, B.next (Nat.lt_succ_self _)⟩, ?_⟩
          have hsize := B.size32 gd hn
          rw [fOf_len] at hsize
          have := (List.getElem?_eq_some_iff.mp he).1
          show (((32 : Nat) : Int) - ((i : Int) + 1)).toNat < (((32 : Nat) : Int) - (i : Int)).toNat
          omega
      · have hi : L.length ≤ i := by
          have := of_decide_eq_false h1
          omega
        exact ⟨_, rfl, k H' p L U.same hp U.rowsAt ⟨i, hi, B⟩⟩
    · rintro σ H' Q1 Q2 hq ⟨v, e1, v2, e2, p, ys, e3, hh, i, j, e4, e5, b, e6, q⟩
      exact ⟨v, e1, v2, e2, p, ys, e3, hh, i, j, e4, e5, b, e6, hq _ _ q⟩

/-- a call's end that leaves all as it was: a new list of the numbers answered -/
def ToldS (H : Hp) (ans : List Int) (Q : VK) : Prop := ∀ (H' : Hp) (p : Addr), Same H H' → H p = none → H' p = some (.lst (ans.map V.int)) → Q (.ref p) H'
theorem ToldS.ext {H H1 : Hp} {ans : List Int} {Q : VK} (k : ToldS H ans Q) (e : Same H H1) : ToldS H1 ans Q := fun H' p s hn ha => k H' p (e.trans s) (e.free hn) ha
theorem ToldS.now {H : Hp} {ans : List Int} {Q : VK} (k : ToldS H ans Q) (p : Addr) (hp : H p = none) : Q (.ref p) (upd H p (.lst (ans.map V.int))) := k _ p (same_upd hp) hp upd_same
theorem Told.still {H : Hp} {x dx lD lE : Addr} {m : M} {ans : List Int} {Q : VK} (k : Told C H x dx lD lE (m, ans) Q) (d : DeskAt C H x dx lD lE m) : ToldS H ans Q := fun _ _ e hp ha => k.plain d e hp ha
theorem same_frz {H H' : Hp} {p : Addr} {o : HO} (e : Same H H') (h : H p = none) : Same H (upd H' p o) := fun b u hb => by
  rw [upd_ne (some_ne_none hb h)]
  exact e b u hb

abbrev s_counted : Stmt := top 20
theorem sc_counted : FnScope ["found"] ["found"] (defScope s_counted) := ⟨rfl, rfl, rfl, by decide +kernel, rfl, by decide +kernel, by decide +kernel⟩
def sp_counted : Sp := fun vs H Q _ => ∃ (l : Addr) (ns : List Nat), vs = [.ref l] ∧ H l = some (.lst (nl ns)) ∧ ns.length ≤ 900 ∧ ToldS H (counted ns) Q
theorem ok_counted {f : Addr} {fd : FuncData} (F : Fun K "counted" "counted" s_counted f fd) (T : Txt K mg C)  : FnOk P w K mg base CX0 1 f fd ["found"] (sp_counted) := by
  refine F.ok sc_counted (fun vs H Q E h => ?_) (fun cdv A outer s H vs Q E hr h => ?_)
  · obtain ⟨l, ns, rfl, _⟩ := h
    rfl
  · refine ⟨_, (pss_one (ps_ret (pe_op op_cat (pe_lst (pa_cons (pe_callB call_len_seq (by rfl) T.n_len PySem.boot_len (pa_cons (pv 0) pa_nil)) pa_nil)) (pv 0)))), ?_⟩
    obtain ⟨l, ns, rfl, hl, hz, k⟩ := h
    refine ⟨_, rfl, l, _, rfl, .inl (SqL.of hl), small1, fun q hq => ?_⟩
    have lq : l ≠ q := some_ne_none hl hq
    refine ⟨_, rfl, q, l, _, _, rfl, rfl, upd_same, (by rw [upd_ne lq]; exact hl), small (by rw [nl_length]; simp; omega), fun p hp => ?_⟩
    have z := (k.ext (same_upd (o := .lst [.int ((nl ns).length : Nat)]) hq)).now p hp
    rw [nl_length] at z ⊢
    exact z

abbrev s_reached : Stmt := top 21
theorem sc_reached : FnScope ["desk"] ["desk"] (defScope s_reached) := ⟨rfl, rfl, rfl, by decide +kernel, rfl, by decide +kernel, by decide +kernel⟩
def sp_read0 (C : Addr) (ans : M → List Int) : Sp := fun vs H Q _ => ∃ (x dx lD lE : Addr) (m : M), vs = [.ref x] ∧ DeskAt C H x dx lD lE m ∧ Mth.Good (wOf m) ∧ ToldS H (ans m) Q
theorem keys_ints (L : List E3) : (kvOf L).map (·.1) = (Mth.castL (sOf L)).map Sum.inl := by
  unfold kvOf Mth.castL sOf
  rw [List.map_map, List.map_map, List.map_map]
  rfl
theorem reach_len {w : Kp371.World} (g : Mth.Good w) {s : Nat} (hs : s < 2 ^ w.m) : (Kp371.reach w s).length ≤ 32 := by
  have h := Mth.nodup_le (2 ^ w.m) (Kp371.reach w s) ((Mth.reach_rising hs).imp fun h => Nat.ne_of_lt h) fun x hx => Mth.reach_lt g hs ((Mth.mem_reach g hs).mp hx)
  have h4 : 2 ^ w.m ≤ 2 ^ 5 := Nat.pow_le_pow_right (by decide) g.hi
  omega
theorem ok_reached {f : Addr} {fd : FuncData} (F : Fun K "reached" "reached" s_reached f fd) (T : Txt K mg C) (c_counted : Cal P w K mg base 1 "counted" ["found"] (sp_counted)) (c_shortest_rows : Cal P w K mg base 4 "shortest_rows" ["desk", "start"] (sp_shortest_rows C)) : FnOk P w K mg base CX0 5 f fd ["desk"] (sp_read0 C (fun m => (opReach m).2)) := by
  refine F.ok sc_reached (fun vs H Q E h => ?_) (fun cdv A outer s H vs Q E hr h => ?_)
  · obtain ⟨x, dx, lD, lE, m, rfl, _⟩ := h
    rfl
  · refine ⟨_, (pss_one (ps_ret (pe_cal c_counted hr (by decide) (pa_cons (pe_callB (call_sortedDI rfl) (by rfl) T.n_sorted (by decide +kernel) (pa_cons (pe_cal c_shortest_rows hr (by decide) (pa_cons (pv 0) (pa_cons (pe_fld (pv 0) rfl) pa_nil))) pa_nil)) pa_nil)))), ?_⟩
    obtain ⟨x, dx, lD, lE, m, rfl, d, gd, k⟩ := h
    refine ⟨_, rfl, _, rfl, x, C, dx, _, _, rfl, d.obj, T.cl, T.a_state, dF_state, x, dx, lD, lE, m, m.now, rfl, d, gd, gd.now, fun H1 p L e1 hp R E => ?_⟩
    have hz := E.size gd gd.now
    refine ⟨p, kvOf L, Mth.castL (sOf L), rfl, .inl R.dict, keys_ints L, ?_, fun ys q perm srt hq => ?_⟩
    · unfold Mth.castL
      rw [List.length_map, sOf_len]
      omega
    have ey := Mth.sorted_reach gd gd.now E.nodup E.reach perm srt
    subst ey
    have := reach_len gd gd.now
    exact ⟨q, Kp371.reach (wOf m) m.now, rfl, upd_same, Nat.le_trans this (by decide), k.ext (e1.trans (same_upd hq))⟩

abbrev s_is_aim : Stmt := top 22
theorem sc_is_aim : FnScope ["aim", "all_facts"] ["aim", "all_facts"] (defScope s_is_aim) := ⟨rfl, rfl, rfl, by decide +kernel, rfl, by decide +kernel, by decide +kernel⟩
def sp_is_aim : Sp := fun vs H Q _ => ∃ (g : Addr) (a b full : Nat), vs = [.ref g, .int full] ∧ H g = some (.lst [.int (a : Nat), .int (b : Nat)]) ∧ Q (.bl (decide (a &&& full = a) && decide (b &&& a = b))) H
theorem ok_is_aim {f : Addr} {fd : FuncData} (F : Fun K "is_aim" "is_aim" s_is_aim f fd) (T : Txt K mg C) (c_is_within : Cal P w K mg base 1 "is_within" ["part", "whole"] (sp_is_within)) : FnOk P w K mg base CX0 2 f fd ["aim", "all_facts"] (sp_is_aim) := by
  refine F.ok sc_is_aim (fun vs H Q E h => ?_) (fun cdv A outer s H vs Q E hr h => ?_)
  · obtain ⟨g, a, b, full, rfl, _⟩ := h
    rfl
  · refine ⟨_, (pss_one (ps_ret (pe_and (pe_cal c_is_within hr (by decide) (pa_cons (pe_ix ix_list (pv 0) pe_int (fun _ _ => rfl)) (pa_cons (pv 1) pa_nil))) (pe_one (pe_cal c_is_within hr (by decide) (pa_cons (pe_ix ix_list (pv 0) pe_int (fun _ _ => rfl)) (pa_cons (pe_ix ix_list (pv 0) pe_int (fun _ _ => rfl)) pa_nil))))))), ?_⟩
    obtain ⟨g, a, b, full, rfl, hg, k⟩ := h
    refine ⟨_, rfl, g, _, _, _, rfl, rfl, SqL.of hg, atI_nat (j := 0) rfl, _, rfl, a, full, rfl, _, rfl, ?_⟩
    refine if_either (fun h1 => ?_) (fun h1 => ?_)
    · rw [h1] at k
      exact ⟨_, rfl, g, _, _, _, rfl, rfl, SqL.of hg, atI_nat (j := 1) rfl, _, rfl, g, _, _, _, rfl, rfl, SqL.of hg, atI_nat (j := 0) rfl, b, a, rfl, k⟩
    · rw [h1] at k
      exact k

abbrev s_row_to_aim : Stmt := top 23
theorem sc_row_to_aim : FnScope ["desk", "aim", "rows", "state"] ["desk", "aim"] (defScope s_row_to_aim) := ⟨rfl, rfl, rfl, by decide +kernel, rfl, by decide +kernel, by decide +kernel⟩
def sp_aim (C : Addr) (ans : M → Nat → Nat → List Int) : Sp := fun vs H Q _ => ∃ (x dx lD lE : Addr) (m : M) (g : Addr) (a b : Nat), vs = [.ref x, .ref g] ∧ DeskAt C H x dx lD lE m ∧ Mth.Good (wOf m) ∧ H g = some (.lst [.int (a : Nat), .int (b : Nat)]) ∧ ToldS H (ans m a b) Q
theorem aim_ok (m : M) (a b : Nat) : (decide (a &&& m.full = a) && decide (b &&& a = b)) = okA m a b := by
  unfold okA Kp371.okAim
  have e : decide (a &&& m.full = a) = decide (a < 2 ^ (wOf m).m) := decide_eq_decide.mpr and_full
  rw [e]
  rfl
theorem kvOf_at {L : List E3} {i : Nat} {k : Key} {v : V} (h : (kvOf L)[i]? = some (k, v)) : ∃ e, L[i]? = some e ∧ k = Sum.inl (e.1 : Int) ∧ v = V.ref e.2.2 := by
  unfold kvOf at h
  rw [List.getElem?_map] at h
  cases q : L[i]? with
  | none =>
    rw [q] at h
    cases h
  | some e =>
    rw [q] at h
    cases h
    exact ⟨e, rfl, rfl, rfl⟩
theorem ok_row_to_aim {f : Addr} {fd : FuncData} (F : Fun K "row_to_aim" "row_to_aim" s_row_to_aim f fd) (T : Txt K mg C) (c_shortest_rows : Cal P w K mg base 4 "shortest_rows" ["desk", "start"] (sp_shortest_rows C)) (c_is_aim : Cal P w K mg base 2 "is_aim" ["aim", "all_facts"] (sp_is_aim)) (c_is_met : Cal P w K mg base 1 "is_met" ["rule", "state"] (sp_is_met)) (c_counted : Cal P w K mg base 1 "counted" ["found"] (sp_counted)) : FnOk P w K mg base CX0 5 f fd ["desk", "aim"] (sp_aim C (fun m a b => (opRow m a b).2)) := by
  refine F.ok sc_row_to_aim (fun vs H Q E h => ?_) (fun cdv A outer s H vs Q E hr h => ?_)
  · obtain ⟨x, dx, lD, lE, m, g, a, b, rfl, _⟩ := h
    rfl
  · refine ⟨_, (pss_cons (ps_if (pt_not (pt_val (pe_cal c_is_aim hr (by decide) (pa_cons (pv 1) (pa_cons (pe_fld (pv 0) rfl) pa_nil))))) (pss_one (ps_ret (pe_lst (pa_cons (pe_cst T.c_NOT_AS_TOLD) pa_nil)))) pss_nil)
      (pss_cons (ps_set (i := 2) sc_row_to_aim.nd rfl (Or.inl rfl) (pe_cal c_shortest_rows hr (by decide) (pa_cons (pv 0) (pa_cons (pe_fld (pv 0) rfl) pa_nil))))
      (pss_cons (ps_for PassesOwn.never rfl (pi_keys (pe_frz (pv 2))) (pg_name (i := 3) sc_row_to_aim.nd rfl (Or.inl rfl)) (pss_one (ps_if (pt_val (pe_cal c_is_met hr (by decide) (pa_cons (pv 1) (pa_cons (pv 3) pa_nil)))) (pss_one (ps_ret (pe_cal c_counted hr (by decide) (pa_cons (pe_dget (hu_of hr) (pv 2) (pv 3) (fun _ _ => rfl)) pa_nil)))) pss_nil)))
      (pss_one (ps_ret (pe_lst (pa_cons (pe_cst T.c_CAN_NOT_COME) pa_nil))))))), ?_⟩
    obtain ⟨x, dx, lD, lE, m, g, a, b, rfl, d, gd, hg, k⟩ := h
    refine ⟨_, rfl, _, rfl, x, C, dx, _, _, rfl, d.obj, T.cl, T.a_all_facts, dF_all, g, a, b, m.full, rfl, hg, _, rfl, ?_⟩
    rw [aim_ok]
    have k : ToldS H (opRow m a b).2 Q := k
    unfold opRow at k
    dsimp only at k
    cases hok : okA m a b with
    | false =>
      rw [hok] at k
      exact ⟨small1, fun p hp => k.now p hp⟩
    | true =>
      rw [hok, if_neg (by decide)] at k
      refine ⟨_, rfl, _, rfl, x, C, dx, _, _, rfl, d.obj, T.cl, T.a_state, dF_state, x, dx, lD, lE, m, m.now, rfl, d, gd, gd.now, fun H1 p L e1 hp R E => ?_⟩
      refine ⟨_, rfl, p, _, rfl, R.dict, trivial, fun od => ⟨p, od, rfl, .inl ⟨kvOf L, upd_same, ?_⟩⟩⟩
      have hs : Same H (upd H1 p (.frz od (.dK (kvOf L)))) := same_frz e1 hp
      obtain ⟨i0, hi0, B⟩ := E
      refine for_it walk_keys (fun i σ H2 => H2 = upd H1 p (.frz od (.dK (kvOf L))) ∧ (∀ j e, j < i → L[j]? = some e → Kp371.isAim a b e.1 = false) ∧ ∃ v : Option V, σ = [some (.ref x), some (.ref g), some (.ref p), v])
        ⟨rfl, fun j e hj => absurd hj (Nat.not_lt_zero _), none, rfl⟩ (fun i σ H2 _ hh => by rw [hh.1]; exact upd_same) ?_ ?_
      · rintro i y σ H2 H3 hi ⟨rfl, hall, v, rfl⟩ ⟨rfl, kk, vv, hk, rfl⟩
        obtain ⟨e, he, rfl, rfl⟩ := kvOf_at hk
        refine ⟨_, rfl, _, rfl, g, ⟨a, b, 0, 0⟩, e.1, rfl, .inr (hs _ _ hg), _, rfl, ?_⟩
        refine if_either (fun h1 => ?_) (fun h1 => ?_)
        · have hem := List.mem_of_getElem? he
          have hrow := R.rows e hem
          have ep : e.2.2 ≠ p := ne_of hrow R.dict (by intro z; cases z)
          have best := B.shortest_at gd gd.now (f := Kp371.isAim a b) (fOf_at he) h1 fun j q hj hq => by
            cases z : L[j]? with
            | none =>
              unfold fOf at hq
              rw [List.getElem?_map, z] at hq
              cases hq
            | some e' =>
              rw [fOf_at z] at hq
              cases hq
              exact hall j e' hj z
          have hlen : e.2.1.length ≤ 32 := B.row_short gd gd.now (List.mem_of_getElem? (fOf_at he))
          rw [show Kp371.shortest (wOf m) m.now (Kp371.isAim a b) = _ from best] at k
          refine ⟨_, rfl, _, rfl, p, V.ref e.2.2, rfl, .inl ⟨kvOf L, Sum.inl (e.1 : Int), .inr ⟨od, upd_same⟩, rfl, (val_at (bf_nodup B) hem).symm⟩, e.2.2, e.2.1, rfl, (by rw [upd_ne ep]; exact hrow), Nat.le_trans hlen (by decide), k.ext hs⟩
        · refine ⟨rfl, fun j e' hj hj' => ?_, some (.int (e.1 : Nat)), rfl⟩
          by_cases z : j < i
          · exact hall j e' z hj'
          · have ej : j = i := by omega
            rw [ej, he] at hj'
            cases hj'
            exact h1
      · rintro σ H2 ⟨rfl, hall, v, rfl⟩
        have none := B.shortest_not gd gd.now (by rw [fOf_len]; exact hi0) (f := Kp371.isAim a b) fun t ht => by
          rw [fOf_s] at ht
          obtain ⟨e, he, rfl⟩ := List.mem_map.mp ht
          obtain ⟨j, hj⟩ := List.getElem?_of_mem he
          refine hall j e ?_ hj
          rw [kvOf_len]
          exact (List.getElem?_eq_some_iff.mp hj).1
        rw [show Kp371.shortest (wOf m) m.now (Kp371.isAim a b) = _ from none] at k
        exact ⟨small1, fun q hq => (k.ext hs).now q hq⟩

abbrev s_fewest_steps : Stmt := top 24
theorem sc_fewest_steps : FnScope ["desk", "aim"] ["desk", "aim"] (defScope s_fewest_steps) := ⟨rfl, rfl, rfl, by decide +kernel, rfl, by decide +kernel, by decide +kernel⟩
theorem cut_one {xs : List V} : cutV xs none (some 1) = xs.take 1 := by
  unfold cutV
  have e : HT.sIx xs.length xs.length (some 1) = min 1 xs.length := HT.sIx_nat xs.length xs.length 1
  rw [HT.sIx_none, e, List.drop_zero, Nat.sub_zero]
  cases xs with
  | nil => rfl
  | cons a l =>
    have : min 1 (a :: l).length = 1 := by
      rw [List.length_cons]
      omega
    rw [this]
theorem few_row {m : M} (g : Mth.Good (wOf m)) (a b : Nat) : (opFewest m a b).2 = (opRow m a b).2.take 1 := by
  unfold opFewest opRow
  dsimp only
  cases hok : okA m a b with
  | false => rfl
  | true =>
    rw [if_neg (by decide), if_neg (by decide)]
    rw [show Kp371.fewest (wOf m) m.now (Kp371.isAim a b) = (Kp371.shortest (wOf m) m.now (Kp371.isAim a b)).map List.length from Mth.fewest_shortest g g.now (Kp371.isAim a b)]
    cases hs : Kp371.shortest (wOf m) m.now (Kp371.isAim a b) with
    | none => rfl
    | some l => rfl
theorem ok_fewest_steps {f : Addr} {fd : FuncData} (F : Fun K "fewest_steps" "fewest_steps" s_fewest_steps f fd) (T : Txt K mg C) (c_row_to_aim : Cal P w K mg base 5 "row_to_aim" ["desk", "aim"] (sp_aim C (fun m a b => (opRow m a b).2))) : FnOk P w K mg base CX0 6 f fd ["desk", "aim"] (sp_aim C (fun m a b => (opFewest m a b).2)) := by
  refine F.ok sc_fewest_steps (fun vs H Q E h => ?_) (fun cdv A outer s H vs Q E hr h => ?_)
  · obtain ⟨x, dx, lD, lE, m, g, a, b, rfl, _⟩ := h
    rfl
  · refine ⟨_, (pss_one (ps_ret (pe_slice sl_list (pe_cal c_row_to_aim hr (by decide) (pa_cons (pv 0) (pa_cons (pv 1) pa_nil))) po_none (po_some pe_int)))), ?_⟩
    obtain ⟨x, dx, lD, lE, m, g, a, b, rfl, d, gd, hg, k⟩ := h
    refine ⟨_, rfl, _, rfl, x, dx, lD, lE, m, g, a, b, rfl, d, gd, hg, fun H1 p e1 hp ha => ?_⟩
    refine ⟨_, rfl, p, _, rfl, SqL.of ha, fun q hq => ?_⟩
    have k : ToldS H (opFewest m a b).2 Q := k
    have z := (k.ext e1).now q hq
    rw [few_row gd, List.map_take] at z
    rw [cut_one]
    exact z

abbrev s_can_be : Stmt := top 25
theorem sc_can_be : FnScope ["desk", "aim", "first"] ["desk", "aim"] (defScope s_can_be) := ⟨rfl, rfl, rfl, by decide +kernel, rfl, by decide +kernel, by decide +kernel⟩
theorem row_head (m : M) (a b : Nat) : (okA m a b = false ∧ (opRow m a b).2 = [-22]) ∨ (okA m a b = true ∧ Kp371.shortest (wOf m) m.now (Kp371.isAim a b) = none ∧ (opRow m a b).2 = [-33]) ∨ ∃ l, okA m a b = true ∧ Kp371.shortest (wOf m) m.now (Kp371.isAim a b) = some l ∧ (opRow m a b).2 = counted l := by
  unfold opRow
  dsimp only
  cases hok : okA m a b with
  | false => exact .inl ⟨rfl, rfl⟩
  | true =>
    rw [if_neg (by decide)]
    cases hs : Kp371.shortest (wOf m) m.now (Kp371.isAim a b) with
    | none => exact .inr (.inl ⟨rfl, rfl, rfl⟩)
    | some l => exact .inr (.inr ⟨l, rfl, rfl, rfl⟩)
theorem ok_can_be {f : Addr} {fd : FuncData} (F : Fun K "can_be" "can_be" s_can_be f fd) (T : Txt K mg C) (c_row_to_aim : Cal P w K mg base 5 "row_to_aim" ["desk", "aim"] (sp_aim C (fun m a b => (opRow m a b).2))) : FnOk P w K mg base CX0 6 f fd ["desk", "aim"] (sp_aim C (fun m a b => (opCanbe m a b).2)) := by
  refine F.ok sc_can_be (fun vs H Q E h => ?_) (fun cdv A outer s H vs Q E hr h => ?_)
  · obtain ⟨x, dx, lD, lE, m, g, a, b, rfl, _⟩ := h
    rfl
  · refine ⟨_, (pss_cons (ps_set (i := 2) sc_can_be.nd rfl (Or.inl rfl) (pe_ix ix_list (pe_cal c_row_to_aim hr (by decide) (pa_cons (pv 0) (pa_cons (pv 1) pa_nil))) pe_int (fun _ _ => rfl)))
      (pss_cons (ps_if (pt_cmpR op_eq (pv 2) (pe_cst T.c_NOT_AS_TOLD) (nomark _)) (pss_one (ps_ret (pe_lst (pa_cons (pe_cst T.c_NOT_AS_TOLD) pa_nil)))) pss_nil)
      (pss_one (ps_ret (pe_lst (pa_cons (pe_ifExp (pt_cmpR op_eq (pv 2) (pe_cst T.c_CAN_NOT_COME) (nomark _)) pe_int pe_int) pa_nil)))))), ?_⟩
    obtain ⟨x, dx, lD, lE, m, g, a, b, rfl, d, gd, hg, k⟩ := h
    refine ⟨_, rfl, _, rfl, x, dx, lD, lE, m, g, a, b, rfl, d, gd, hg, fun H1 p e1 hp ha => ?_⟩
    have ha : H1 p = some (.lst ((opRow m a b).2.map V.int)) := ha
    have k : ToldS H (opCanbe m a b).2 Q := k
    unfold opCanbe at k
    dsimp only at k
    rw [show (Kp371.reach (wOf m) m.now).any (Kp371.isAim a b) = (Kp371.shortest (wOf m) m.now (Kp371.isAim a b)).isSome from Mth.any_shortest gd gd.now (Kp371.isAim a b)] at k
    rcases row_head m a b with ⟨h1, h2⟩ | ⟨h1, h3, h2⟩ | ⟨l, h1, h3, h2⟩
    · rw [h2] at ha
      rw [h1] at k
      refine ⟨p, _, _, _, rfl, rfl, SqL.of ha, atI_nat (j := 0) rfl, ?_⟩
      refine ⟨_, rfl, rfl, _, rfl, if_true_of (by decide) ?_⟩
      exact ⟨small1, fun q hq => (k.ext e1).now q hq⟩
    · rw [h2] at ha
      rw [h1, h3] at k
      refine ⟨p, _, _, _, rfl, rfl, SqL.of ha, atI_nat (j := 0) rfl, ?_⟩
      refine ⟨_, rfl, rfl, _, rfl, if_false_of (by decide) ?_⟩
      refine ⟨_, rfl, rfl, _, rfl, if_true_of (by decide) ?_⟩
      exact ⟨small1, fun q hq => (k.ext e1).now q hq⟩
    · rw [h2] at ha
      rw [h1, h3] at k
      have n22 : decide (V.int ((l.length : Nat) : Int) = V.int (-22)) = false := decide_eq_false fun z => by
        injection z with z
        omega
      have n33 : decide (V.int ((l.length : Nat) : Int) = V.int (-33)) = false := decide_eq_false fun z => by
        injection z with z
        omega
      refine ⟨p, _, _, _, rfl, rfl, SqL.of ha, atI_nat (j := 0) rfl, ?_⟩
      refine ⟨_, rfl, rfl, _, rfl, if_false_of n22 ?_⟩
      refine ⟨_, rfl, rfl, _, rfl, if_false_of n33 ?_⟩
      exact ⟨small1, fun q hq => (k.ext e1).now q hq⟩

abbrev s_refused_choice : Stmt := top 26
theorem sc_refused_choice : FnScope ["desk", "choice"] ["desk", "choice"] (defScope s_refused_choice) := ⟨rfl, rfl, rfl, by decide +kernel, rfl, by decide +kernel, by decide +kernel⟩
def sp_read1 (C : Addr) (ans : M → Nat → List Int) : Sp := fun vs H Q _ => ∃ (x dx lD lE : Addr) (m : M) (n : Nat), vs = [.ref x, .int n] ∧ DeskAt C H x dx lD lE m ∧ Mth.Good (wOf m) ∧ ToldS H (ans m n) Q
def refusal (m : M) (n : Nat) : List Int := if m.D.length < n then [-2] else match Kp371.stepBy (wOf m) m.now n with
  | none => [-6]
  | some _ => []
theorem ok_refused_choice {f : Addr} {fd : FuncData} (F : Fun K "refused_choice" "refused_choice" s_refused_choice f fd) (T : Txt K mg C) (m_is_choice : Met P w K mg base C 2 "is_choice" ["self", "choice"] (sp_is_choice C)) (m_can_be_done : Met P w K mg base C 2 "can_be_done" ["self", "choice", "state"] (sp_can_be_done C)) : FnOk P w K mg base CX0 3 f fd ["desk", "choice"] (sp_read1 C refusal) := by
  refine F.ok sc_refused_choice (fun vs H Q E h => ?_) (fun cdv A outer s H vs Q E hr h => ?_)
  · obtain ⟨x, dx, lD, lE, m, n, rfl, _⟩ := h
    rfl
  · refine ⟨_, (pss_cons (ps_if (pt_not (pt_val (pe_met T.cl m_is_choice hr (by decide) (pv 0) (pa_cons (pv 1) pa_nil)))) (pss_one (ps_ret (pe_lst (pa_cons (pe_cst T.c_NO_SUCH) pa_nil)))) pss_nil)
      (pss_cons (ps_if (pt_not (pt_val (pe_met T.cl m_can_be_done hr (by decide) (pv 0) (pa_cons (pv 1) (pa_cons (pe_fld (pv 0) rfl) pa_nil))))) (pss_one (ps_ret (pe_lst (pa_cons (pe_cst T.c_NEED_NOT_SO) pa_nil)))) pss_nil)
      (pss_one (ps_ret (pe_lst pa_nil))))), ?_⟩
    obtain ⟨x, dx, lD, lE, m, n, rfl, d, gd, k⟩ := h
    unfold refusal at k
    refine ⟨_, rfl, x, dx, _, rfl, d.obj, dF_meth (by decide +kernel), _, rfl, x, dx, lD, lE, m, n, rfl, d, _, rfl, ?_⟩
    refine if_either (fun h1 => ?_) (fun h1 => ?_)
    · have h1' : ¬ n ≤ m.D.length := by simpa using h1
      rw [if_pos (by omega)] at k
      exact ⟨small1, fun p hp => k.now p hp⟩
    have h1' : n ≤ m.D.length := by simpa using h1
    rw [if_neg (by omega)] at k
    refine ⟨_, rfl, x, dx, _, rfl, d.obj, dF_meth (by decide +kernel), _, rfl, _, rfl, x, C, dx, _, _, rfl, d.obj, T.cl, T.a_state, dF_state, x, dx, lD, lE, m, n, m.now, rfl, d, h1', _, rfl, ?_⟩
    cases hst : Kp371.stepBy (wOf m) m.now n with
    | none =>
      rw [hst] at k
      exact ⟨small1, fun p hp => k.now p hp⟩
    | some t =>
      rw [hst] at k
      exact ⟨small (by decide), fun p hp => k.now p hp⟩

abbrev s_row_back : Stmt := top 27
theorem sc_row_back : FnScope ["desk", "choice", "refusal", "rows"] ["desk", "choice"] (defScope s_row_back) := ⟨rfl, rfl, rfl, by decide +kernel, rfl, by decide +kernel, by decide +kernel⟩
theorem refusal_cases (m : M) (n : Nat) : (m.D.length < n ∧ refusal m n = [-2]) ∨ (¬ m.D.length < n ∧ Kp371.stepBy (wOf m) m.now n = none ∧ refusal m n = [-6]) ∨ ∃ t, ¬ m.D.length < n ∧ Kp371.stepBy (wOf m) m.now n = some t ∧ refusal m n = [] := by
  unfold refusal
  by_cases h : m.D.length < n
  · exact .inl ⟨h, if_pos h⟩
  · rw [if_neg h]
    cases hst : Kp371.stepBy (wOf m) m.now n with
    | none => exact .inr (.inl ⟨h, rfl, rfl⟩)
    | some t => exact .inr (.inr ⟨t, h, rfl, rfl⟩)
theorem ok_row_back {f : Addr} {fd : FuncData} (F : Fun K "row_back" "row_back" s_row_back f fd) (T : Txt K mg C) (c_refused_choice : Cal P w K mg base 3 "refused_choice" ["desk", "choice"] (sp_read1 C refusal)) (c_shortest_rows : Cal P w K mg base 4 "shortest_rows" ["desk", "start"] (sp_shortest_rows C)) (c_counted : Cal P w K mg base 1 "counted" ["found"] (sp_counted)) (m_behind_choice : Met P w K mg base C 3 "behind_choice" ["self", "choice", "state"] (sp_behind_choice C)) : FnOk P w K mg base CX0 5 f fd ["desk", "choice"] (sp_read1 C (fun m n => (opUndo m n).2)) := by
  refine F.ok sc_row_back (fun vs H Q E h => ?_) (fun cdv A outer s H vs Q E hr h => ?_)
  · obtain ⟨x, dx, lD, lE, m, n, rfl, _⟩ := h
    rfl
  · refine ⟨_, (pss_cons (ps_set (i := 2) sc_row_back.nd rfl (Or.inl rfl) (pe_cal c_refused_choice hr (by decide) (pa_cons (pv 0) (pa_cons (pv 1) pa_nil))))
      (pss_cons (ps_if (pt_cmpR (op_neD hr.units) (pv 2) (pe_lst pa_nil) (nomark _)) (pss_one (ps_ret (pv 2))) pss_nil)
      (pss_cons (ps_set (i := 3) sc_row_back.nd rfl (Or.inl rfl) (pe_cal c_shortest_rows hr (by decide) (pa_cons (pv 0) (pa_cons (pe_met T.cl m_behind_choice hr (by decide) (pv 0) (pa_cons (pv 1) (pa_cons (pe_fld (pv 0) rfl) pa_nil))) pa_nil))))
      (pss_cons (ps_if (pt_cmp (pc_dnotin (hu_of hr) (pe_fld (pv 0) rfl) (pv 3))) (pss_one (ps_ret (pe_lst (pa_cons (pe_cst T.c_CAN_NOT_COME) pa_nil)))) pss_nil)
      (pss_one (ps_ret (pe_cal c_counted hr (by decide) (pa_cons (pe_dget (hu_of hr) (pv 3) (pe_fld (pv 0) rfl) (fun _ _ => rfl)) pa_nil)))))))), ?_⟩
    obtain ⟨x, dx, lD, lE, m, n, rfl, d, gd, k⟩ := h
    have k : ToldS H (opUndo m n).2 Q := k
    unfold opUndo at k
    dsimp only at k
    refine ⟨_, rfl, _, rfl, x, dx, lD, lE, m, n, rfl, d, gd, fun H1 r e1 hr1 ha => ?_⟩
    rcases refusal_cases m n with ⟨h1, h2⟩ | ⟨h1, h3, h2⟩ | ⟨t, h1, h3, h2⟩
    · rw [h2] at ha
      rw [if_pos h1] at k
      refine ⟨_, rfl, small (by decide), fun z hz => ⟨.list [.int (-2)], .list [], .lst (SqL.of (by rw [upd_ne (some_ne_none ha hz)]; exact ha)) (.cons (.int _) .nil), .lst (SqL.of upd_same) .nil, rfl, rfl, _, rfl, if_true_of rfl ?_⟩⟩
      exact ⟨_, rfl, k _ r (e1.trans (same_upd hz)) hr1 (by rw [upd_ne (some_ne_none ha hz)]; exact ha)⟩
    · rw [h2] at ha
      rw [if_neg h1, h3] at k
      refine ⟨_, rfl, small (by decide), fun z hz => ⟨.list [.int (-6)], .list [], .lst (SqL.of (by rw [upd_ne (some_ne_none ha hz)]; exact ha)) (.cons (.int _) .nil), .lst (SqL.of upd_same) .nil, rfl, rfl, _, rfl, if_true_of rfl ?_⟩⟩
      exact ⟨_, rfl, k _ r (e1.trans (same_upd hz)) hr1 (by rw [upd_ne (some_ne_none ha hz)]; exact ha)⟩
    · rw [h2] at ha
      rw [if_neg h1, h3] at k
      refine ⟨_, rfl, small (by decide), fun z hz => ⟨.list [], .list [], .lst (SqL.of (by rw [upd_ne (some_ne_none ha hz)]; exact ha)) .nil, .lst (SqL.of upd_same) .nil, rfl, rfl, _, rfl, if_false_of rfl ?_⟩⟩
      have e2 := e1.trans (same_upd (o := .lst []) hz)
      have d2 := d.same e2
      have ht : t < 2 ^ m.mm := Mth.step_lt gd gd.now h3
      refine ⟨_, rfl, _, rfl, x, dx, _, rfl, d2.obj, dF_meth (by decide +kernel), _, rfl, _, rfl, x, C, dx, _, _, rfl, d2.obj, T.cl, T.a_state, dF_state, x, dx, lD, lE, m, n, m.now, t, rfl, d2, h3, x, dx, lD, lE, m, t, rfl, d2, gd, ht, fun H3 p L e3 hp R E => ?_⟩
      have e4 := e2.trans e3
      have d3 := d.same e4
      refine ⟨_, rfl, x, C, dx, _, _, rfl, d3.obj, T.cl, T.a_state, dF_state, _, rfl, p, _, rfl, DGet.k (k := Sum.inl (m.now : Int)) R.dict, _, rfl, ?_⟩
      by_cases hm : m.now ∈ sOf L
      · obtain ⟨e, he, en, hv⟩ := val_in E.nodup hm
        rw [hv]
        have hlen := E.row gd ht he
        obtain ⟨i0, hi0, B⟩ := E
        have best := B.shortest_to gd ht (u := m.now) (row := e.2.1) (by rw [← en]; exact List.mem_map.mpr ⟨e, he, rfl⟩)
        dsimp only at k
        rw [best] at k
        exact ⟨_, rfl, _, rfl, x, C, dx, _, _, rfl, d3.obj, T.cl, T.a_state, dF_state, p, V.ref e.2.2, rfl, .inl ⟨kvOf L, Sum.inl (m.now : Int), .inl R.dict, rfl, hv.symm⟩, e.2.2, e.2.1, rfl, R.rows e he, Nat.le_trans hlen (by decide), k.ext e4⟩
      · rw [val_not hm]
        obtain ⟨i0, hi0, B⟩ := E
        have none := B.shortest_not gd ht (by rw [fOf_len]; exact hi0) (f := fun u => u == m.now) fun u hu => by
          rw [fOf_s] at hu
          have : u ≠ m.now := fun z => hm (by rw [← z]; exact hu)
          simpa using this
        dsimp only at k
        rw [none] at k
        exact ⟨small1, fun q hq => (k.ext e4).now q hq⟩

abbrev s_lost_by : Stmt := top 28
theorem sc_lost_by : FnScope ["desk", "choice", "refusal", "left", "state"] ["desk", "choice"] (defScope s_lost_by) := ⟨rfl, rfl, rfl, by decide +kernel, rfl, by decide +kernel, by decide +kernel⟩
theorem nl_snoc_filter {l : List Nat} {f : Nat → Bool} {i c : Nat} (h : l[i]? = some c) : nl ((l.take (i + 1)).filter f) = if f c = true then nl ((l.take i).filter f) ++ [V.int (c : Nat)] else nl ((l.take i).filter f) := by
  rw [take_more h, List.filter_append]
  cases hf : f c with
  | true =>
    rw [if_pos rfl, List.filter_cons_of_pos hf, List.filter_nil, nl_more]
  | false =>
    rw [if_neg (by decide), List.filter_cons_of_neg (by rw [hf]; decide), List.filter_nil, List.append_nil]
theorem ok_lost_by {f : Addr} {fd : FuncData} (F : Fun K "lost_by" "lost_by" s_lost_by f fd) (T : Txt K mg C) (c_refused_choice : Cal P w K mg base 3 "refused_choice" ["desk", "choice"] (sp_read1 C refusal)) (c_shortest_rows : Cal P w K mg base 4 "shortest_rows" ["desk", "start"] (sp_shortest_rows C)) (c_counted : Cal P w K mg base 1 "counted" ["found"] (sp_counted)) (m_behind_choice : Met P w K mg base C 3 "behind_choice" ["self", "choice", "state"] (sp_behind_choice C)) : FnOk P w K mg base CX0 5 f fd ["desk", "choice"] (sp_read1 C (fun m n => (opLost m n).2)) := by
  refine F.ok sc_lost_by (fun vs H Q E h => ?_) (fun cdv A outer s H vs Q E hr h => ?_)
  · obtain ⟨x, dx, lD, lE, m, n, rfl, _⟩ := h
    rfl
  · refine ⟨_, (pss_cons (ps_set (i := 2) sc_lost_by.nd rfl (Or.inl rfl) (pe_cal c_refused_choice hr (by decide) (pa_cons (pv 0) (pa_cons (pv 1) pa_nil))))
      (pss_cons (ps_if (pt_cmpR (op_neD hr.units) (pv 2) (pe_lst pa_nil) (nomark _)) (pss_one (ps_ret (pv 2))) pss_nil)
      (pss_cons (ps_set (i := 3) sc_lost_by.nd rfl (Or.inr rfl) (pe_cal c_shortest_rows hr (by decide) (pa_cons (pv 0) (pa_cons (pe_met T.cl m_behind_choice hr (by decide) (pv 0) (pa_cons (pv 1) (pa_cons (pe_fld (pv 0) rfl) pa_nil))) pa_nil))))
      (pss_one (ps_ret (pe_cal c_counted hr (by decide) (pa_cons (pe_lc (own := [("state", 4)]) (g := gName 4) (tt := (tB (tDNotIn (tVar 4) (tVar 3)))) (te := (tVar 4)) rfl sc_lost_by.nd (pi_list (pe_callB (call_sortedDI rfl) (by rfl) T.n_sorted (by decide +kernel) (pa_cons (pe_cal c_shortest_rows hr (by decide) (pa_cons (pv 0) (pa_cons (pe_fld (pv 0) rfl) pa_nil))) pa_nil))) (blkOk_by (N := ["desk", "choice", "refusal", "left", "state"]) (sc := defScope s_lost_by) (by decide +kernel)) (fun _ _ _ _ _ => by exact (pg_name (i := 4) sc_lost_by.nd rfl (Or.inl rfl))) (fun _ _ _ _ _ => by exact ((pts_one (pt_cmp (pc_dnotin (hu_of hr) (pv 4) (pv 3)))))) (fun _ _ _ _ _ => by exact ((pv 4)))) pa_nil))))))), ?_⟩
    obtain ⟨x, dx, lD, lE, m, n, rfl, d, gd, k⟩ := h
    have k : ToldS H (opLost m n).2 Q := k
    unfold opLost Kp371.lost at k
    dsimp only at k
    refine ⟨_, rfl, _, rfl, x, dx, lD, lE, m, n, rfl, d, gd, fun H1 r e1 hr1 ha => ?_⟩
    rcases refusal_cases m n with ⟨h1, h2⟩ | ⟨h1, h3, h2⟩ | ⟨t, h1, h3, h2⟩
    · rw [h2] at ha
      rw [if_pos h1] at k
      refine ⟨_, rfl, small (by decide), fun z hz => ⟨.list [.int (-2)], .list [], .lst (SqL.of (by rw [upd_ne (some_ne_none ha hz)]; exact ha)) (.cons (.int _) .nil), .lst (SqL.of upd_same) .nil, rfl, rfl, _, rfl, if_true_of rfl ?_⟩⟩
      exact ⟨_, rfl, k _ r (e1.trans (same_upd hz)) hr1 (by rw [upd_ne (some_ne_none ha hz)]; exact ha)⟩
    · rw [h2] at ha
      rw [if_neg h1, h3] at k
      refine ⟨_, rfl, small (by decide), fun z hz => ⟨.list [.int (-6)], .list [], .lst (SqL.of (by rw [upd_ne (some_ne_none ha hz)]; exact ha)) (.cons (.int _) .nil), .lst (SqL.of upd_same) .nil, rfl, rfl, _, rfl, if_true_of rfl ?_⟩⟩
      exact ⟨_, rfl, k _ r (e1.trans (same_upd hz)) hr1 (by rw [upd_ne (some_ne_none ha hz)]; exact ha)⟩
    · rw [h2] at ha
      rw [if_neg h1, h3] at k
      refine ⟨_, rfl, small (by decide), fun z hz => ⟨.list [], .list [], .lst (SqL.of (by rw [upd_ne (some_ne_none ha hz)]; exact ha)) .nil, .lst (SqL.of upd_same) .nil, rfl, rfl, _, rfl, if_false_of rfl ?_⟩⟩
      have e2 := e1.trans (same_upd (o := .lst []) hz)
      have d2 := d.same e2
      have ht : t < 2 ^ m.mm := Mth.step_lt gd gd.now h3
      refine ⟨_, rfl, _, rfl, x, dx, _, rfl, d2.obj, dF_meth (by decide +kernel), _, rfl, _, rfl, x, C, dx, _, _, rfl, d2.obj, T.cl, T.a_state, dF_state, x, dx, lD, lE, m, n, m.now, t, rfl, d2, h3, x, dx, lD, lE, m, t, rfl, d2, gd, ht, fun H3 p L e3 hp R E => ?_⟩
      have e4 := e2.trans e3
      have d3 := d.same e4
      refine ⟨_, rfl, _, rfl, x, C, dx, _, _, rfl, d3.obj, T.cl, T.a_state, dF_state, x, dx, lD, lE, m, m.now, rfl, d3, gd, gd.now, fun H4 p2 L2 e5 hp2 R2 E2 => ?_⟩
      have hz2 := E2.size gd gd.now
      refine ⟨p2, kvOf L2, Mth.castL (sOf L2), rfl, .inl R2.dict, keys_ints L2, ?_, fun ys q perm srt hq => ?_⟩
      · unfold Mth.castL
        rw [List.length_map, sOf_len]
        omega
      have ey := Mth.sorted_reach gd gd.now E2.nodup E2.reach perm srt
      subst ey
      have hrl := reach_len gd gd.now
      have hrl : (Kp371.reach (wOf m) m.now).length ≤ 32 := hrl
      refine ⟨q, rfl, ⟨_, SqL.of upd_same⟩, fun D hD => ?_⟩
      have e6 := e4.trans (e5.trans (same_upd (o := .lst (nl (Kp371.reach (wOf m) m.now))) hq))
      have hq1 : upd H4 q (.lst (nl (Kp371.reach (wOf m) m.now))) q = some (.lst (nl (Kp371.reach (wOf m) m.now))) := upd_same
      have hleft : upd H4 q (.lst (nl (Kp371.reach (wOf m) m.now))) p = some (.dK (kvOf L)) := by
        have z := e5 _ _ R.dict
        rw [upd_ne (some_ne_none z hq)]
        exact z
      have qD := some_ne_none hq1 hD
      have pD := some_ne_none hleft hD
      have hcont : ∀ u, (decide (u ∈ sOf L)) = (Kp371.reach (wOf m) t).contains u := fun u => by
        rw [Bool.eq_iff_iff, decide_eq_true_iff, List.contains_iff_mem]
        exact (E.reach u).trans (Mth.mem_reach gd ht).symm
      refine lc_list (K := K) (a := q) (xs := nl (Kp371.reach (wOf m) m.now)) (fun i H' => H' = upd (upd H4 q (.lst (nl (Kp371.reach (wOf m) m.now)))) D (.lst (nl (((Kp371.reach (wOf m) m.now).take i).filter fun u => !(Kp371.reach (wOf m) t).contains u)))) rfl (fun i H' _ hh => by rw [hh, show SqL K _ q _ = _ from rfl]; exact SqL.of (by rw [upd_ne qD]; exact hq1)) ?_ ?_
      · rintro i y H' hi rfl
        obtain ⟨c, hc, rfl⟩ := nl_at' hi
        have step := nl_snoc_filter (f := fun u => !(Kp371.reach (wOf m) t).contains u) hc
        refine ⟨rfl, _, rfl, _, rfl, p, _, rfl, DGet.k (k := Sum.inl (c : Int)) (by rw [upd_ne pD]; exact hleft), _, rfl, ?_⟩
        by_cases hm : c ∈ sOf L
        · obtain ⟨e, he, en, hv⟩ := val_in E.nodup hm
          rw [hv]
          have : (!(Kp371.reach (wOf m) t).contains c) = false := by
            rw [← hcont, decide_eq_true hm]
            rfl
          rw [if_neg (by rw [this]; decide)] at step
          show _ = _
          rw [step]
        · rw [val_not hm]
          have : (!(Kp371.reach (wOf m) t).contains c) = true := by
            rw [← hcont, decide_eq_false hm]
            rfl
          rw [if_pos this] at step
          refine ⟨_, rfl, _, upd_same, small1000 ?_, ?_⟩
          · rw [nl_length]
            refine Nat.le_trans (List.length_filter_le _ _) (by rw [List.length_take]; omega)
          · rw [upd_upd, step]
      · rintro H' rfl
        rw [nl_length, List.take_length]
        refine ⟨D, _, rfl, upd_same, Nat.le_trans (List.length_filter_le _ _) (by omega), k.ext (e6.trans (same_upd hD))⟩

abbrev s_settled_facts : Stmt := top 29
theorem sc_settled_facts : FnScope ["desk", "changed", "state", "many", "fact"] ["desk"] (defScope s_settled_facts) := ⟨rfl, rfl, rfl, by decide +kernel, rfl, by decide +kernel, by decide +kernel⟩
theorem bits_full {n : Nat} (h1 : 2 ≤ n) (h2 : n ≤ 5) : Builtin.Int.intBits (((2 ^ n - 1 : Nat) : Nat) : Int) = n := by
  have : n = 2 ∨ n = 3 ∨ n = 4 ∨ n = 5 := by omega
  rcases this with rfl | rfl | rfl | rfl <;> decide +kernel
theorem nl_range_filter {f : Nat → Bool} (i : Nat) : nl ((List.range (i + 1)).filter f) = if f i = true then nl ((List.range i).filter f) ++ [V.int (i : Nat)] else nl ((List.range i).filter f) := by
  rw [List.range_succ, List.filter_append]
  cases hf : f i with
  | true =>
    rw [if_pos rfl, List.filter_cons_of_pos hf, List.filter_nil, nl_more]
  | false =>
    rw [if_neg (by decide), List.filter_cons_of_neg (by rw [hf]; decide), List.filter_nil, List.append_nil]
theorem mix_more {now : Nat} {l : List Nat} {i c : Nat} (h : l[i]? = some c) : Mth.mix now (l.take (i + 1)) = Mth.mix now (l.take i) ||| (c ^^^ now) := by
  unfold Mth.mix
  rw [take_more h, List.foldl_append]
  rfl
theorem sOf_at {L : List E3} {i : Nat} {e : E3} (h : L[i]? = some e) : (sOf L)[i]? = some e.1 := by
  unfold sOf
  rw [List.getElem?_map, h]
  rfl
theorem range_filter_len {f : Nat → Bool} (i : Nat) : ((List.range i).filter f).length ≤ i := Nat.le_trans (List.length_filter_le _ _) (by rw [List.length_range]; exact Nat.le_refl _)
theorem ok_settled_facts {f : Addr} {fd : FuncData} (F : Fun K "settled_facts" "settled_facts" s_settled_facts f fd) (T : Txt K mg C) (c_shortest_rows : Cal P w K mg base 4 "shortest_rows" ["desk", "start"] (sp_shortest_rows C)) (c_counted : Cal P w K mg base 1 "counted" ["found"] (sp_counted)) (c_is_within : Cal P w K mg base 1 "is_within" ["part", "whole"] (sp_is_within)) : FnOk P w K mg base CX0 5 f fd ["desk"] (sp_read0 C (fun m => (opSettled m).2)) := by
  refine F.ok sc_settled_facts (fun vs H Q E h => ?_) (fun cdv A outer s H vs Q E hr h => ?_)
  · obtain ⟨x, dx, lD, lE, m, rfl, _⟩ := h
    rfl
  · refine ⟨_, (pss_cons (ps_set (i := 1) sc_settled_facts.nd rfl (Or.inr rfl) pe_int)
      (pss_cons (ps_for PassesOwn.never rfl (pi_keys (pe_frz (pe_cal c_shortest_rows hr (by decide) (pa_cons (pv 0) (pa_cons (pe_fld (pv 0) rfl) pa_nil))))) (pg_name (i := 2) sc_settled_facts.nd rfl (Or.inl rfl)) (pss_one (ps_set (i := 1) sc_settled_facts.nd rfl (Or.inr rfl) (pe_op op_or (pv 1) (pe_op op_xor (pv 2) (pe_fld (pv 0) rfl))))))
      (pss_cons (ps_set (i := 3) sc_settled_facts.nd rfl (Or.inl rfl) (pe_bits (pe_fld (pv 0) rfl)))
      (pss_one (ps_ret (pe_cal c_counted hr (by decide) (pa_cons (pe_lc (own := [("fact", 4)]) (g := gName 4) (tt := (tNot (tB (tCall (sp_is_within) [] E0 (tCons (tOp (rI CPow fun i j => .int (i * 2 ^ j.toNat)) (tC (.int (1))) (tVar 4)) (tCons (tVar 1) tNil)))))) (te := (tVar 4)) rfl sc_settled_facts.nd (pi_range1 (by rfl) T.n_range (pa_cons (pv 3) pa_nil)) (blkOk_by (N := ["desk", "changed", "state", "many", "fact"]) (sc := defScope s_settled_facts) (by decide +kernel)) (fun _ _ _ _ _ => by exact (pg_name (i := 4) sc_settled_facts.nd rfl (Or.inl rfl))) (fun _ _ _ _ _ => by exact ((pts_one (pt_not (pt_val (pe_cal c_is_within hr (by decide) (pa_cons (pe_op op_shl pe_int (pv 4)) (pa_cons (pv 1) pa_nil)))))))) (fun _ _ _ _ _ => by exact ((pv 4)))) pa_nil))))))), ?_⟩
    obtain ⟨x, dx, lD, lE, m, rfl, d, gd, k⟩ := h
    have k : ToldS H (counted (Kp371.settled (wOf m))) Q := k
    have hlo : 2 ≤ m.mm := gd.lo
    have hhi : m.mm ≤ 5 := gd.hi
    refine ⟨_, rfl, _, rfl, x, C, dx, _, _, rfl, d.obj, T.cl, T.a_state, dF_state, x, dx, lD, lE, m, m.now, rfl, d, gd, gd.now, fun H1 p L e1 hp R E => ?_⟩
    refine ⟨p, _, rfl, R.dict, trivial, fun od => ⟨p, od, rfl, .inl ⟨kvOf L, upd_same, ?_⟩⟩⟩
    have hs : Same H (upd H1 p (.frz od (.dK (kvOf L)))) := same_frz e1 hp
    have d2 := d.same hs
    refine for_it walk_keys (fun i σ H2 => H2 = upd H1 p (.frz od (.dK (kvOf L))) ∧ ∃ v : Option V, σ = [some (.ref x), some (.int (Mth.mix m.now ((sOf L).take i) : Nat)), v, none, none])
      ⟨rfl, none, rfl⟩ (fun i σ H2 _ hh => by rw [hh.1]; exact upd_same) ?_ ?_
    · rintro i y σ H2 H3 hi ⟨rfl, v, rfl⟩ ⟨rfl, kk, vv, hk, rfl⟩
      obtain ⟨e, he, rfl, rfl⟩ := kvOf_at hk
      refine ⟨_, rfl, _, rfl, _, rfl, x, C, dx, _, _, rfl, d2.obj, T.cl, T.a_state, dF_state, _, _, rfl, rfl, _, _, rfl, rfl, ?_⟩
      refine ⟨rfl, some (.int (e.1 : Nat)), ?_⟩
      rw [mix_more (sOf_at he)]
      show ([_, some (V.int (Builtin.bitOr _ (Builtin.bitXor (e.1 : Int) (m.now : Int)))), _, _, _] : L2.St) = _
      rw [bxor, bor]
      rfl
    · rintro σ H2 ⟨rfl, v, rfl⟩
      have ek : (kvOf L).length = (sOf L).length := by rw [kvOf_len, sOf_len]
      rw [ek, List.take_length]
      have es : Kp371.settled (wOf m) = (List.range m.mm).filter fun q => !decide (2 ^ q &&& Mth.mix m.now (sOf L) = 2 ^ q) := Mth.settled_is gd E.reach
      rw [es] at k
      refine ⟨_, rfl, x, C, dx, _, _, rfl, d2.obj, T.cl, T.a_all_facts, dF_all, _, rfl, ?_⟩
      have eb : Builtin.Int.intBits ((m.full : Nat) : Int) = m.mm := bits_full hlo hhi
      rw [eb]
      refine ⟨_, rfl, ((m.mm : Nat) : Int), rfl, by omega, by omega, fun D hD => ?_⟩
      refine lc_range (lo := 0) (n := ((m.mm : Nat) : Int).toNat) (fun i H' => H' = upd (upd H1 p (.frz od (.dK (kvOf L)))) D (.lst (nl ((List.range i).filter fun q => !decide (2 ^ q &&& Mth.mix m.now (sOf L) = 2 ^ q))))) rfl ?_ ?_
      · rintro i H' hi rfl
        rw [Int.toNat_natCast] at hi
        have step := nl_range_filter (f := fun q => !decide (2 ^ q &&& Mth.mix m.now (sOf L) = 2 ^ q)) i
        have ei : (1 : Int) * 2 ^ ((i : Nat) : Int).toNat = ((2 ^ i : Nat) : Int) := by
          rw [Int.toNat_natCast, Int.one_mul]
          simp
        rw [Int.zero_add]
        refine ⟨rfl, _, rfl, 1, (i : Int), rfl, rfl, ⟨by omega, by omega, by decide⟩, ?_⟩
        refine ⟨_, rfl, 2 ^ i, Mth.mix m.now (sOf L), ?_, _, rfl, ?_⟩
        · show [V.int ((1 : Int) * 2 ^ ((i : Nat) : Int).toNat), V.int _] = _
          rw [ei]
        have hl := range_filter_len (f := fun q => !decide (2 ^ q &&& Mth.mix m.now (sOf L) = 2 ^ q)) i
        refine if_either (fun h1 => ?_) (fun h1 => ?_)
        · rw [if_pos h1] at step
          refine ⟨_, rfl, _, upd_same, small1000 ?_, ?_⟩
          · rw [nl_length]
            omega
          · rw [upd_upd, step]
        · rw [if_neg (by rw [h1]; decide)] at step
          show _ = _
          rw [step]
      · rintro H' rfl
        rw [Int.toNat_natCast]
        have hl := range_filter_len (f := fun q => !decide (2 ^ q &&& Mth.mix m.now (sOf L) = 2 ^ q)) m.mm
        exact ⟨D, _, rfl, upd_same, by omega, k.ext (hs.trans (same_upd hD))⟩

abbrev s_is_ever_met : Stmt := top 31
theorem sc_is_ever_met : FnScope ["rule", "states", "state"] ["rule", "states"] (defScope s_is_ever_met) := ⟨rfl, rfl, rfl, by decide +kernel, rfl, by decide +kernel, by decide +kernel⟩
def sp_is_ever_met : Sp := fun vs H Q _ => ∃ (t l : Addr) (d : Kp371.Deed) (ns : List Nat), vs = [.ref t, .ref l] ∧ H t = some (.tup (rv d)) ∧ H l = some (.lst (nl ns)) ∧ ns.length ≤ 900 ∧ ∀ H', Same H H' → Q (.bl (ns.any fun s => Kp371.able s d)) H'
theorem bl_more {f : Nat → Bool} {l : List Nat} {i c : Nat} (h : l[i]? = some c) : ((l.take (i + 1)).map f).map V.bl = ((l.take i).map f).map V.bl ++ [V.bl (f c)] := by
  rw [take_more h, List.map_append, List.map_append]
  rfl
theorem ok_is_ever_met {f : Addr} {fd : FuncData} (F : Fun K "is_ever_met" "is_ever_met" s_is_ever_met f fd) (T : Txt K mg C) (c_is_met : Cal P w K mg base 1 "is_met" ["rule", "state"] (sp_is_met)) : FnOk P w K mg base CX0 2 f fd ["rule", "states"] (sp_is_ever_met) := by
  refine F.ok sc_is_ever_met (fun vs H Q E h => ?_) (fun cdv A outer s H vs Q E hr h => ?_)
  · obtain ⟨t, l, d, ns, rfl, _⟩ := h
    rfl
  · refine ⟨_, (pss_one (ps_ret (pe_callB (cr_any rfl) (by rfl) T.n_any (by decide +kernel) (pa_cons (pe_lc (own := [("state", 2)]) (g := gName 2) (tt := tYes) (te := (tCall (sp_is_met) [] E0 (tCons (tVar 0) (tCons (tVar 2) tNil)))) rfl sc_is_ever_met.nd (pi_list (pv 1)) (blkOk_by (N := ["rule", "states", "state"]) (sc := defScope s_is_ever_met) (by decide +kernel)) (fun _ _ _ _ _ => by exact (pg_name (i := 2) sc_is_ever_met.nd rfl (Or.inl rfl))) (fun _ _ _ _ _ => by exact (pts_nil)) (fun _ _ _ _ _ => by exact ((pe_cal c_is_met hr (by decide) (pa_cons (pv 0) (pa_cons (pv 2) pa_nil)))))) pa_nil)))), ?_⟩
    obtain ⟨t, l, d, ns, rfl, ht, hl, hz, k⟩ := h
    refine ⟨_, rfl, l, rfl, ⟨_, SqL.of hl⟩, fun D hD => ?_⟩
    have tD := some_ne_none ht hD
    have lD := some_ne_none hl hD
    refine lc_list (K := K) (a := l) (xs := nl ns) (fun i H' => H' = upd H D (.lst (((ns.take i).map fun s => Kp371.able s d).map V.bl))) rfl (fun i H' _ hh => by rw [hh]; exact SqL.of (by rw [upd_ne lD]; exact hl)) ?_ ?_
    · rintro i y H' hi rfl
      obtain ⟨c, hc, rfl⟩ := nl_at' hi
      refine ⟨rfl, ?_⟩
      unfold tYes
      dsimp only
      rw [if_pos rfl]
      refine ⟨_, rfl, _, rfl, t, d, c, rfl, .inl (by rw [upd_ne tD]; exact ht), _, upd_same, small1000 ?_, ?_⟩
      · rw [List.length_map, List.length_map]
        rw [List.length_take]
        omega
      · rw [upd_upd, bl_more hc]
    · rintro H' rfl
      rw [nl_length, List.take_length]
      refine ⟨D, ns.map fun s => Kp371.able s d, rfl, SqL.of upd_same, ?_⟩
      have e : (ns.map fun s => Kp371.able s d).any id = ns.any fun s => Kp371.able s d := by
        rw [List.any_map]
        rfl
      rw [e]
      exact k _ (same_upd hD)

abbrev s_never_done : Stmt := top 30
theorem sc_never_done : FnScope ["desk", "states", "i"] ["desk"] (defScope s_never_done) := ⟨rfl, rfl, rfl, by decide +kernel, rfl, by decide +kernel, by decide +kernel⟩
theorem keys_nl (L : List E3) : ((kvOf L).map fun kv => kV kv.1) = nl (sOf L) := by
  unfold kvOf nl Mth.castL sOf
  rw [List.map_map, List.map_map, List.map_map]
  rfl
theorem ok_never_done {f : Addr} {fd : FuncData} (F : Fun K "never_done" "never_done" s_never_done f fd) (T : Txt K mg C) (c_counted : Cal P w K mg base 1 "counted" ["found"] (sp_counted)) (c_shortest_rows : Cal P w K mg base 4 "shortest_rows" ["desk", "start"] (sp_shortest_rows C)) (c_is_ever_met : Cal P w K mg base 2 "is_ever_met" ["rule", "states"] (sp_is_ever_met)) : FnOk P w K mg base CX0 5 f fd ["desk"] (sp_read0 C (fun m => (opNever m).2)) := by
  refine F.ok sc_never_done (fun vs H Q E h => ?_) (fun cdv A outer s H vs Q E hr h => ?_)
  · obtain ⟨x, dx, lD, lE, m, rfl, _⟩ := h
    rfl
  · refine ⟨_, (pss_cons (ps_set (i := 1) sc_never_done.nd rfl (Or.inr rfl) (pe_callTy (call_listD rfl) (by rfl) T.n_list (by decide +kernel) (pa_cons (pe_cal c_shortest_rows hr (by decide) (pa_cons (pv 0) (pa_cons (pe_fld (pv 0) rfl) pa_nil))) pa_nil)))
      (pss_one (ps_ret (pe_cal c_counted hr (by decide) (pa_cons (pe_lc (own := [("i", 2)]) (g := gName 2) (tt := (tNot (tB (tCall (sp_is_ever_met) [] E0 (tCons (tOp (rIxL K) (tFld K (tVar 0) "deeds") (tVar 2)) (tCons (tVar 1) tNil)))))) (te := (tVar 2)) rfl sc_never_done.nd (pi_range1 (by rfl) T.n_range (pa_cons (pe_callB call_len_seq (by rfl) T.n_len PySem.boot_len (pa_cons (pe_fld (pv 0) rfl) pa_nil)) pa_nil)) (blkOk_by (N := ["desk", "states", "i"]) (sc := defScope s_never_done) (by decide +kernel)) (fun _ _ _ _ _ => by exact (pg_name (i := 2) sc_never_done.nd rfl (Or.inl rfl))) (fun _ _ _ _ _ => by exact ((pts_one (pt_not (pt_val (pe_cal c_is_ever_met hr (by decide) (pa_cons (pe_ix ix_list (by exact (pe_fld (pv 0) (by rfl))) (pv 2) (fun _ _ => rfl)) (pa_cons (pv 1) pa_nil)))))))) (fun _ _ _ _ _ => by exact ((pv 2)))) pa_nil))))), ?_⟩
    obtain ⟨x, dx, lD, lE, m, rfl, d, gd, k⟩ := h
    have k : ToldS H (counted (Kp371.never (wOf m))) Q := k
    refine ⟨_, rfl, _, rfl, x, C, dx, _, _, rfl, d.obj, T.cl, T.a_state, dF_state, x, dx, lD, lE, m, m.now, rfl, d, gd, gd.now, fun H1 p L e1 hp R E => ?_⟩
    refine ⟨p, kvOf L, rfl, .inl R.dict, fun q hq => ?_⟩
    rw [keys_nl]
    have hz := E.size gd gd.now
    have en : Kp371.never (wOf m) = (List.range m.D.length).filter fun i => !Mth.ever (wOf m) (sOf L) i := Mth.never_is gd E.reach
    rw [en] at k
    have e2 := e1.trans (same_upd (o := .lst (nl (sOf L))) hq)
    have d2 := d.same e2
    obtain ⟨ts, hl, hln, hts⟩ := d2.deeds
    have hsz := d.szD
    have hq1 : upd H1 q (.lst (nl (sOf L))) q = some (.lst (nl (sOf L))) := upd_same
    refine ⟨_, rfl, x, C, dx, _, _, rfl, d2.obj, T.cl, T.a_deeds, dF_deeds, lD, _, rfl, .inl (SqL.of hl), ((ts.map V.ref).length : Int), rfl, by omega, by rw [List.length_map]; omega, fun D hD => ?_⟩
    have e3 : ((ts.map V.ref).length : Int).toNat = m.D.length := by rw [List.length_map]; omega
    refine lc_range (lo := 0) (n := ((ts.map V.ref).length : Int).toNat) (fun i H' => Same (upd H1 q (.lst (nl (sOf L)))) H' ∧ H' D = some (.lst (nl ((List.range i).filter fun i => !Mth.ever (wOf m) (sOf L) i)))) ⟨same_upd hD, upd_same⟩ ?_ ?_
    · rintro i H' hi ⟨sm, hD'⟩
      have hi' : i < m.D.length := by omega
      have hd : m.D[i]? = some m.D[i] := List.getElem?_eq_getElem hi'
      have et : ts[i]? = some ts[i] := List.getElem?_eq_getElem (by omega)
      have ht := hts i _ _ et hd
      have d3 := d2.same sm
      have hat : atI (ts.map V.ref) ((i : Nat) : Int) = some (V.ref ts[i]) := atI_nat (by rw [List.getElem?_map, et]; rfl)
      have hev : Mth.ever (wOf m) (sOf L) i = (sOf L).any fun s => Kp371.able s m.D[i] := by
        unfold Mth.ever
        rw [show (wOf m).deeds[i]? = _ from hd]
      have step := nl_range_filter (f := fun i => !Mth.ever (wOf m) (sOf L) i) i
      rw [Int.zero_add]
      refine ⟨rfl, _, rfl, x, C, dx, _, _, rfl, d3.obj, T.cl, T.a_deeds, dF_deeds, _, rfl, lD, _, _, _, rfl, rfl, SqL.of (sm _ _ hl), hat, _, rfl, ts[i], q, m.D[i], sOf L, rfl, sm _ _ ht, sm _ _ hq1, (by rw [sOf_len]; omega), fun H2 sm2 => ⟨_, rfl, ?_⟩⟩
      have hl2 := range_filter_len (f := fun i => !Mth.ever (wOf m) (sOf L) i) i
      rw [← hev]
      have hD2 := sm2 _ _ hD'
      have s3 := sm.trans sm2
      refine if_either (fun h1 => ?_) (fun h1 => ?_)
      · rw [if_pos h1] at step
        refine ⟨_, rfl, _, hD2, small1000 ?_, fun b o hb => ?_, ?_⟩
        · rw [nl_length]
          omega
        · rw [upd_ne (some_ne_none hb hD)]
          exact s3 b o hb
        · rw [upd_same, step]
      · rw [if_neg (by rw [h1]; decide)] at step
        rw [step]
        exact ⟨s3, hD2⟩
    · rintro H' ⟨sm, hD'⟩
      rw [e3] at hD'
      have hl2 := range_filter_len (f := fun i => !Mth.ever (wOf m) (sOf L) i) m.D.length
      exact ⟨D, _, rfl, hD', by omega, k.ext (e2.trans sm)⟩

theorem Told.ext {H H2 : Hp} {x dx lD lE : Addr} {r : M × List Int} {Q : VK} (k : Told C H x dx lD lE r Q) (e : Same H H2) : Told C H2 x dx lD lE r Q := fun H' p lD' lE' d mv hp ha n1 n2 =>
  k H' p lD' lE' d ⟨fun b o hb a1 a2 a3 => mv.keep b o (e b o hb) a1 a2 a3, mv.nD.imp id e.free, mv.nE.imp id e.free⟩ (e.free hp) ha n1 n2
theorem erase_map {α β : Type} (f : α → β) : ∀ (l : List α) (i : Nat), (l.map f).eraseIdx i = (l.eraseIdx i).map f
  | [], _ => rfl
  | a :: l, 0 => rfl
  | a :: l, i + 1 => congrArg (f a :: ·) (erase_map f l i)
theorem RulesAt.erase {H : Hp} {l : Addr} {ds : List Kp371.Deed} {xs : List V} {i : Nat} (h : RulesAt H l ds) (hl : H l = some (.lst xs)) : RulesAt (upd H l (.lst (xs.eraseIdx i))) l (ds.eraseIdx i) := by
  obtain ⟨ts, h1, h2, h3⟩ := h
  rw [hl] at h1
  cases h1
  refine ⟨ts.eraseIdx i, ?_, ?_, fun j t d a b => ?_⟩
  · rw [upd_same, erase_map]
  · rw [List.length_eraseIdx, List.length_eraseIdx, h2]
  · rw [List.getElem?_eraseIdx] at a b
    have : H t = some (.tup (rv d)) := by
      by_cases c : j < i
      · rw [if_pos c] at a b
        exact h3 j t d a b
      · rw [if_neg c] at a b
        exact h3 _ t d a b
    exact upd_lst hl _ _ this
theorem ruleOut_rv (d : Kp371.Deed) : (ruleOut d).map V.int = rv d := rfl
/-- given: the numbers handed to a call -/
def sp_over (C : Addr) (ok : Int → M → Prop) : Sp := fun vs H Q _ => ∃ (x dx lD lE g : Addr) (m : M) (p : Int) (xs : List Int), vs = [.ref x, .int p, .ref g] ∧ DeskAt C H x dx lD lE m ∧ H g = some (.lst (xs.map V.int)) ∧ Mth.Shape p xs ∧ ok p m ∧ Told C H x dx lD lE (opCall m p xs) Q

abbrev s_answer_over_rules : Stmt := top 55
theorem sc_answer_over_rules : FnScope ["desk", "call", "given"] ["desk", "call", "given"] (defScope s_answer_over_rules) := ⟨rfl, rfl, rfl, by decide +kernel, rfl, by decide +kernel, by decide +kernel⟩
theorem ok_answer_over_rules {f : Addr} {fd : FuncData} (F : Fun K "answer_over_rules" "answer_over_rules" s_answer_over_rules f fd) (T : Txt K mg C) (c_told_rule : Cal P w K mg base 1 "told_rule" ["rules", "i"] (sp_told_rule)) (m_add_deed : Met P w K mg base C 4 "add_deed" ["self", "rule"] (sp_opR C opDeed)) (m_add_event : Met P w K mg base C 4 "add_event" ["self", "rule"] (sp_opR C opEvent)) (c_take_out : Cal P w K mg base 1 "take_out" ["rules", "i"] (sp_take_out)) : FnOk P w K mg base CX0 5 f fd ["desk", "call", "given"] (sp_over C (fun p m => 1 ≤ p ∧ p ≤ 6 ∧ m.b = true)) := by
  refine F.ok sc_answer_over_rules (fun vs H Q E h => ?_) (fun cdv A outer s H vs Q E hr h => ?_)
  · obtain ⟨x, dx, lD, lE, g, m, p, xs, rfl, _⟩ := h
    rfl
  · refine ⟨_, (pss_cons (ps_if (pt_cmpR op_eq (pv 1) (pe_cst T.c_DEED) (nomark _)) (pss_one (ps_ret (pe_met T.cl m_add_deed hr (by decide) (pv 0) (pa_cons (pe_callTy call_tuple_of (by rfl) T.n_tuple (by decide +kernel) (pa_cons (pv 2) pa_nil)) pa_nil)))) pss_nil)
      (pss_cons (ps_if (pt_cmpR op_eq (pv 1) (pe_cst T.c_EVENT) (nomark _)) (pss_one (ps_ret (pe_met T.cl m_add_event hr (by decide) (pv 0) (pa_cons (pe_callTy call_tuple_of (by rfl) T.n_tuple (by decide +kernel) (pa_cons (pv 2) pa_nil)) pa_nil)))) pss_nil)
      (pss_cons (ps_if (pt_cmpR op_eq (pv 1) (pe_cst T.c_UNDEED) (nomark _)) (pss_one (ps_ret (pe_cal c_take_out hr (by decide) (pa_cons (pe_fld (pv 0) rfl) (pa_cons (pe_ix ix_list (pv 2) pe_int (fun _ _ => rfl)) pa_nil))))) pss_nil)
      (pss_cons (ps_if (pt_cmpR op_eq (pv 1) (pe_cst T.c_UNEVENT) (nomark _)) (pss_one (ps_ret (pe_cal c_take_out hr (by decide) (pa_cons (pe_fld (pv 0) rfl) (pa_cons (pe_ix ix_list (pv 2) pe_int (fun _ _ => rfl)) pa_nil))))) pss_nil)
      (pss_cons (ps_if (pt_cmpR op_eq (pv 1) (pe_cst T.c_DEEDIS) (nomark _)) (pss_one (ps_ret (pe_cal c_told_rule hr (by decide) (pa_cons (pe_fld (pv 0) rfl) (pa_cons (pe_ix ix_list (pv 2) pe_int (fun _ _ => rfl)) pa_nil))))) pss_nil)
      (pss_one (ps_ret (pe_cal c_told_rule hr (by decide) (pa_cons (pe_fld (pv 0) rfl) (pa_cons (pe_ix ix_list (pv 2) pe_int (fun _ _ => rfl)) pa_nil)))))))))), ?_⟩
    obtain ⟨x, dx, lD, lE, g, m, p, xs, rfl, d, hg, sh, ⟨hp1, hp6, hb⟩, k⟩ := h
    have no : ∀ {nm : Str}, (nm == ("begun" : Str)) = false → (nm == ("all_facts" : Str)) = false → (nm == ("state" : Str)) = false → (nm == ("deeds" : Str)) = false → (nm == ("events" : Str)) = false → (dF m.b m.full m.now lD lE).lookup nm = none := fun a b c d e => dF_no a b c d e
    have tr : ¬ m.b = false := by rw [hb]; decide
    obtain ⟨tD, hlD, hnD, _⟩ := d.deeds
    obtain ⟨tE, hlE, hnE, _⟩ := d.events
    have szD := d.szD
    have szE := d.szE
    cases sh <;> first | omega | skip
    case deed a b c e ha hb' hc he =>
      refine ⟨_, rfl, rfl, _, rfl, if_true_of (by decide) ?_⟩
      refine ⟨_, rfl, x, dx, _, rfl, d.obj, no (by decide +kernel) (by decide +kernel) (by decide +kernel) (by decide +kernel) (by decide +kernel), _, rfl, g, _, rfl, .inl ⟨SqL.of hg, fun t ht => ?_⟩⟩
      unfold opCall at k
      rw [if_neg (by decide), if_neg tr, if_pos rfl] at k
      exact ⟨x, dx, lD, lE, m, t, ⟨a, b, c, e⟩, rfl, d.same (same_upd ht), upd_same, k.ext (same_upd ht)⟩
    case event a b c e ha hb' hc he =>
      refine ⟨_, rfl, rfl, _, rfl, if_false_of (by decide) ?_⟩
      refine ⟨_, rfl, rfl, _, rfl, if_true_of (by decide) ?_⟩
      refine ⟨_, rfl, x, dx, _, rfl, d.obj, no (by decide +kernel) (by decide +kernel) (by decide +kernel) (by decide +kernel) (by decide +kernel), _, rfl, g, _, rfl, .inl ⟨SqL.of hg, fun t ht => ?_⟩⟩
      unfold opCall at k
      rw [if_neg (by decide), if_neg tr, if_neg (by decide), if_pos rfl] at k
      exact ⟨x, dx, lD, lE, m, t, ⟨a, b, c, e⟩, rfl, d.same (same_upd ht), upd_same, k.ext (same_upd ht)⟩
    case undeed a ha =>
      refine ⟨_, rfl, rfl, _, rfl, if_false_of (by decide) ?_⟩
      refine ⟨_, rfl, rfl, _, rfl, if_false_of (by decide) ?_⟩
      refine ⟨_, rfl, rfl, _, rfl, if_true_of (by decide) ?_⟩
      refine ⟨_, rfl, x, C, dx, _, _, rfl, d.obj, T.cl, T.a_deeds, dF_deeds, _, rfl, g, _, _, _, rfl, rfl, SqL.of hg, atI_nat (j := 0) rfl, ?_⟩
      unfold opCall at k
      rw [if_neg (by decide), if_neg tr, if_neg (by decide), if_neg (by decide), if_pos rfl] at k
      have k : Told C H x dx lD lE (opUndeed m a) Q := k
      unfold opUndeed at k
      refine ⟨lD, _, a, rfl, hlD, fun h1 => ?_, fun h1 _ q hq => ?_, by rw [List.length_map]; omega⟩
      · rw [List.length_map, hnD] at h1
        rw [if_pos h1] at k
        exact fun q hq => k.plain1 d q hq
      · rw [List.length_map, hnD] at h1
        rw [if_neg (by omega)] at k
        have d' : DeskAt C (upd H lD (.lst ((tD.map V.ref).eraseIdx a))) x dx lD lE { m with D := m.D.eraseIdx a } := by
          refine ⟨?_, d.deeds.erase hlD, d.events.keep (fun o ho => ?_) (upd_lst hlD), d.ne, ?_, d.szE⟩
          · rw [upd_ne d.xD]
            exact d.obj
          · rw [upd_ne d.ne.symm]
            exact ho
          · show (m.D.eraseIdx a).length ≤ 6
            exact Nat.le_trans (List.length_eraseIdx_le _ _) d.szD
        obtain ⟨zs, e1⟩ := d'.lstD
        obtain ⟨ys, e2⟩ := d'.lstE
        refine k _ q lD lE (d'.same (same_upd hq)) ⟨fun b o hb _ h2 _ => same_upd hq _ _ (by rw [upd_ne h2]; exact hb), .inl rfl, .inl rfl⟩ (upd_none' hq) ?_ (some_ne_none e1 hq).symm (some_ne_none e2 hq).symm
        rw [upd_same, List.length_map, hnD]
        rfl
    case unevent a ha =>
      refine ⟨_, rfl, rfl, _, rfl, if_false_of (by decide) ?_⟩
      refine ⟨_, rfl, rfl, _, rfl, if_false_of (by decide) ?_⟩
      refine ⟨_, rfl, rfl, _, rfl, if_false_of (by decide) ?_⟩
      refine ⟨_, rfl, rfl, _, rfl, if_true_of (by decide) ?_⟩
      refine ⟨_, rfl, x, C, dx, _, _, rfl, d.obj, T.cl, T.a_events, dF_events, _, rfl, g, _, _, _, rfl, rfl, SqL.of hg, atI_nat (j := 0) rfl, ?_⟩
      unfold opCall at k
      rw [if_neg (by decide), if_neg tr, if_neg (by decide), if_neg (by decide), if_neg (by decide), if_pos rfl] at k
      have k : Told C H x dx lD lE (opUnevent m a) Q := k
      unfold opUnevent at k
      refine ⟨lE, _, a, rfl, hlE, fun h1 => ?_, fun h1 _ q hq => ?_, by rw [List.length_map]; omega⟩
      · rw [List.length_map, hnE] at h1
        rw [if_pos h1] at k
        exact fun q hq => k.plain1 d q hq
      · rw [List.length_map, hnE] at h1
        rw [if_neg (by omega)] at k
        have d' : DeskAt C (upd H lE (.lst ((tE.map V.ref).eraseIdx a))) x dx lD lE { m with E := m.E.eraseIdx a } := by
          refine ⟨?_, d.deeds.keep (fun o ho => ?_) (upd_lst hlE), d.events.erase hlE, d.ne, d.szD, ?_⟩
          · rw [upd_ne d.xE]
            exact d.obj
          · rw [upd_ne d.ne]
            exact ho
          · show (m.E.eraseIdx a).length ≤ 3
            exact Nat.le_trans (List.length_eraseIdx_le _ _) d.szE
        obtain ⟨zs, e1⟩ := d'.lstD
        obtain ⟨ys, e2⟩ := d'.lstE
        refine k _ q lD lE (d'.same (same_upd hq)) ⟨fun b o hb _ _ h2 => same_upd hq _ _ (by rw [upd_ne h2]; exact hb), .inl rfl, .inl rfl⟩ (upd_none' hq) ?_ (some_ne_none e1 hq).symm (some_ne_none e2 hq).symm
        rw [upd_same, List.length_map, hnE]
        rfl
    case deedIs a ha =>
      refine ⟨_, rfl, rfl, _, rfl, if_false_of (by decide) ?_⟩
      refine ⟨_, rfl, rfl, _, rfl, if_false_of (by decide) ?_⟩
      refine ⟨_, rfl, rfl, _, rfl, if_false_of (by decide) ?_⟩
      refine ⟨_, rfl, rfl, _, rfl, if_false_of (by decide) ?_⟩
      refine ⟨_, rfl, rfl, _, rfl, if_true_of (by decide) ?_⟩
      refine ⟨_, rfl, x, C, dx, _, _, rfl, d.obj, T.cl, T.a_deeds, dF_deeds, _, rfl, g, _, _, _, rfl, rfl, SqL.of hg, atI_nat (j := 0) rfl, ?_⟩
      unfold opCall at k
      rw [if_neg (by decide), if_neg tr, if_neg (by decide), if_neg (by decide), if_neg (by decide), if_neg (by decide), if_pos rfl] at k
      have k : Told C H x dx lD lE (opIs m m.D a) Q := k
      unfold opIs at k
      refine ⟨lD, m.D, a, rfl, d.deeds, fun h1 => ?_, fun r hr q hq => ?_⟩
      · rw [List.getElem?_eq_none h1] at k
        exact fun q hq => k.plain1 d q hq
      · rw [hr] at k
        rw [← ruleOut_rv]
        exact k.plain1 d q hq
    case eventIs a ha =>
      refine ⟨_, rfl, rfl, _, rfl, if_false_of (by decide) ?_⟩
      refine ⟨_, rfl, rfl, _, rfl, if_false_of (by decide) ?_⟩
      refine ⟨_, rfl, rfl, _, rfl, if_false_of (by decide) ?_⟩
      refine ⟨_, rfl, rfl, _, rfl, if_false_of (by decide) ?_⟩
      refine ⟨_, rfl, rfl, _, rfl, if_false_of (by decide) ?_⟩
      refine ⟨_, rfl, x, C, dx, _, _, rfl, d.obj, T.cl, T.a_events, dF_events, _, rfl, g, _, _, _, rfl, rfl, SqL.of hg, atI_nat (j := 0) rfl, ?_⟩
      unfold opCall at k
      rw [if_neg (by decide), if_neg tr, if_neg (by decide), if_neg (by decide), if_neg (by decide), if_neg (by decide), if_neg (by decide), if_pos rfl] at k
      have k : Told C H x dx lD lE (opIs m m.E a) Q := k
      unfold opIs at k
      refine ⟨lE, m.E, a, rfl, d.events, fun h1 => ?_, fun r hr q hq => ?_⟩
      · rw [List.getElem?_eq_none h1] at k
        exact fun q hq => k.plain1 d q hq
      · rw [hr] at k
        rw [← ruleOut_rv]
        exact k.plain1 d q hq

theorem opc_set {m : M} {xs : List Int} (hb : m.b = true) : opCall m 7 xs = opSet m (nth xs 0) := by simp [opCall, hb]
theorem opc_now {m : M} {xs : List Int} (hb : m.b = true) : opCall m 8 xs = (m, [(m.now : Int)]) := by simp [opCall, hb]
theorem opc_able {m : M} {xs : List Int} (hb : m.b = true) : opCall m 9 xs = opAble m := by simp [opCall, hb]
theorem opc_do_ {m : M} {xs : List Int} (hb : m.b = true) : opCall m 10 xs = opDo m (nth xs 0) := by simp [opCall, hb]
theorem opc_wait {m : M} {xs : List Int} (hb : m.b = true) : opCall m 11 xs = opWait m (nth xs 0) := by simp [opCall, hb]
theorem opc_reach {m : M} {xs : List Int} (hb : m.b = true) : opCall m 12 xs = opReach m := by simp [opCall, hb]
theorem opc_canBe {m : M} {xs : List Int} (hb : m.b = true) : opCall m 13 xs = opCanbe m (nth xs 0) (nth xs 1) := by simp [opCall, hb]
theorem opc_fewest {m : M} {xs : List Int} (hb : m.b = true) : opCall m 14 xs = opFewest m (nth xs 0) (nth xs 1) := by simp [opCall, hb]
theorem opc_row {m : M} {xs : List Int} (hb : m.b = true) : opCall m 15 xs = opRow m (nth xs 0) (nth xs 1) := by simp [opCall, hb]
theorem opc_undo {m : M} {xs : List Int} (hb : m.b = true) : opCall m 16 xs = opUndo m (nth xs 0) := by simp [opCall, hb]
theorem opc_lost {m : M} {xs : List Int} (hb : m.b = true) : opCall m 17 xs = opLost m (nth xs 0) := by simp [opCall, hb]
theorem opc_settled {m : M} {xs : List Int} (hb : m.b = true) : opCall m 18 xs = opSettled m := by simp [opCall, hb]
theorem opc_never {m : M} {xs : List Int} (hb : m.b = true) : opCall m 19 xs = opNever m := by simp [opCall, hb]
theorem opc_byItself {m : M} {xs : List Int} (hb : m.b = true) : opCall m 20 xs = opBy m (nth xs 0) := by simp [opCall, hb]
theorem opc_play {m : M} {xs : List Int} (hb : m.b = true) : opCall m 21 xs = opPlay m (xs.map Int.toNat) := by simp [opCall, hb]

abbrev s_answer_over_steps : Stmt := top 56
theorem sc_answer_over_steps : FnScope ["desk", "call", "given"] ["desk", "call", "given"] (defScope s_answer_over_steps) := ⟨rfl, rfl, rfl, by decide +kernel, rfl, by decide +kernel, by decide +kernel⟩
theorem ok_answer_over_steps {f : Addr} {fd : FuncData} (F : Fun K "answer_over_steps" "answer_over_steps" s_answer_over_steps f fd) (T : Txt K mg C) (m_play : Met P w K mg base C 4 "play" ["self", "choices"] (sp_play C)) (m_set_to : Met P w K mg base C 2 "set_to" ["self", "state"] (sp_op1 C opSet)) (m_able : Met P w K mg base C 2 "able" ["self"] (sp_op0 C opAble)) (m_do_deed : Met P w K mg base C 4 "do_deed" ["self", "i"] (sp_op1 C opDo)) (m_wait : Met P w K mg base C 5 "wait" ["self", "steps"] (sp_op1 C opWait)) (m_by_itself : Met P w K mg base C 5 "by_itself" ["self", "steps"] (sp_op1 C opBy)) : FnOk P w K mg base CX0 6 f fd ["desk", "call", "given"] (sp_over C (fun p m => (7 ≤ p ∧ p ≤ 11 ∨ 20 ≤ p) ∧ m.b = true)) := by
  refine F.ok sc_answer_over_steps (fun vs H Q E h => ?_) (fun cdv A outer s H vs Q E hr h => ?_)
  · obtain ⟨x, dx, lD, lE, g, m, p, xs, rfl, _⟩ := h
    rfl
  · refine ⟨_, (pss_cons (ps_if (pt_cmpR op_eq (pv 1) (pe_cst T.c_SET_TO) (nomark _)) (pss_one (ps_ret (pe_met T.cl m_set_to hr (by decide) (pv 0) (pa_cons (pe_ix ix_list (pv 2) pe_int (fun _ _ => rfl)) pa_nil)))) pss_nil)
      (pss_cons (ps_if (pt_cmpR op_eq (pv 1) (pe_cst T.c_NOW) (nomark _)) (pss_one (ps_ret (pe_lst (pa_cons (pe_fld (pv 0) rfl) pa_nil)))) pss_nil)
      (pss_cons (ps_if (pt_cmpR op_eq (pv 1) (pe_cst T.c_ABLE) (nomark _)) (pss_one (ps_ret (pe_met0 T.cl m_able hr (by decide) (pv 0)))) pss_nil)
      (pss_cons (ps_if (pt_cmpR op_eq (pv 1) (pe_cst T.c_DO) (nomark _)) (pss_one (ps_ret (pe_met T.cl m_do_deed hr (by decide) (pv 0) (pa_cons (pe_ix ix_list (pv 2) pe_int (fun _ _ => rfl)) pa_nil)))) pss_nil)
      (pss_cons (ps_if (pt_cmpR op_eq (pv 1) (pe_cst T.c_WAIT) (nomark _)) (pss_one (ps_ret (pe_met T.cl m_wait hr (by decide) (pv 0) (pa_cons (pe_ix ix_list (pv 2) pe_int (fun _ _ => rfl)) pa_nil)))) pss_nil)
      (pss_cons (ps_if (pt_cmpR op_eq (pv 1) (pe_cst T.c_BYITSELF) (nomark _)) (pss_one (ps_ret (pe_met T.cl m_by_itself hr (by decide) (pv 0) (pa_cons (pe_ix ix_list (pv 2) pe_int (fun _ _ => rfl)) pa_nil)))) pss_nil)
      (pss_one (ps_ret (pe_met T.cl m_play hr (by decide) (pv 0) (pa_cons (pv 2) pa_nil)))))))))), ?_⟩
    obtain ⟨x, dx, lD, lE, g, m, p, xs, rfl, d, hg, sh, ⟨hp, hb⟩, k⟩ := h
    cases sh <;> first | omega | skip
    case set a ha =>
      refine ⟨_, rfl, rfl, _, rfl, if_true_of (by decide) ?_⟩
      rw [opc_set hb] at k
      exact ⟨_, rfl, x, dx, _, rfl, d.obj, dF_meth (by decide +kernel), _, rfl, g, _, _, _, rfl, rfl, SqL.of hg, atI_nat (j := 0) rfl, x, dx, lD, lE, m, a, rfl, ha, d, k⟩
    case now =>
      refine ⟨_, rfl, rfl, _, rfl, if_false_of (by decide) ?_⟩
      refine ⟨_, rfl, rfl, _, rfl, if_true_of (by decide) ?_⟩
      rw [opc_now hb] at k
      exact ⟨_, rfl, x, C, dx, _, _, rfl, d.obj, T.cl, T.a_state, dF_state, small1, fun p hp => k.plain1 d p hp⟩
    case able =>
      refine ⟨_, rfl, rfl, _, rfl, if_false_of (by decide) ?_⟩
      refine ⟨_, rfl, rfl, _, rfl, if_false_of (by decide) ?_⟩
      refine ⟨_, rfl, rfl, _, rfl, if_true_of (by decide) ?_⟩
      rw [opc_able hb] at k
      exact ⟨_, rfl, x, dx, _, rfl, d.obj, dF_meth (by decide +kernel), x, dx, lD, lE, m, rfl, d, k⟩
    case do_ a ha =>
      refine ⟨_, rfl, rfl, _, rfl, if_false_of (by decide) ?_⟩
      refine ⟨_, rfl, rfl, _, rfl, if_false_of (by decide) ?_⟩
      refine ⟨_, rfl, rfl, _, rfl, if_false_of (by decide) ?_⟩
      refine ⟨_, rfl, rfl, _, rfl, if_true_of (by decide) ?_⟩
      rw [opc_do_ hb] at k
      exact ⟨_, rfl, x, dx, _, rfl, d.obj, dF_meth (by decide +kernel), _, rfl, g, _, _, _, rfl, rfl, SqL.of hg, atI_nat (j := 0) rfl, x, dx, lD, lE, m, a, rfl, ha, d, k⟩
    case wait a ha =>
      refine ⟨_, rfl, rfl, _, rfl, if_false_of (by decide) ?_⟩
      refine ⟨_, rfl, rfl, _, rfl, if_false_of (by decide) ?_⟩
      refine ⟨_, rfl, rfl, _, rfl, if_false_of (by decide) ?_⟩
      refine ⟨_, rfl, rfl, _, rfl, if_false_of (by decide) ?_⟩
      refine ⟨_, rfl, rfl, _, rfl, if_true_of (by decide) ?_⟩
      rw [opc_wait hb] at k
      exact ⟨_, rfl, x, dx, _, rfl, d.obj, dF_meth (by decide +kernel), _, rfl, g, _, _, _, rfl, rfl, SqL.of hg, atI_nat (j := 0) rfl, x, dx, lD, lE, m, a, rfl, ha, d, k⟩
    case byItself a ha =>
      refine ⟨_, rfl, rfl, _, rfl, if_false_of (by decide) ?_⟩
      refine ⟨_, rfl, rfl, _, rfl, if_false_of (by decide) ?_⟩
      refine ⟨_, rfl, rfl, _, rfl, if_false_of (by decide) ?_⟩
      refine ⟨_, rfl, rfl, _, rfl, if_false_of (by decide) ?_⟩
      refine ⟨_, rfl, rfl, _, rfl, if_false_of (by decide) ?_⟩
      refine ⟨_, rfl, rfl, _, rfl, if_true_of (by decide) ?_⟩
      rw [opc_byItself hb] at k
      exact ⟨_, rfl, x, dx, _, rfl, d.obj, dF_meth (by decide +kernel), _, rfl, g, _, _, _, rfl, rfl, SqL.of hg, atI_nat (j := 0) rfl, x, dx, lD, lE, m, a, rfl, ha, d, k⟩
    case play l hl hx =>
      refine ⟨_, rfl, rfl, _, rfl, if_false_of (by decide) ?_⟩
      refine ⟨_, rfl, rfl, _, rfl, if_false_of (by decide) ?_⟩
      refine ⟨_, rfl, rfl, _, rfl, if_false_of (by decide) ?_⟩
      refine ⟨_, rfl, rfl, _, rfl, if_false_of (by decide) ?_⟩
      refine ⟨_, rfl, rfl, _, rfl, if_false_of (by decide) ?_⟩
      refine ⟨_, rfl, rfl, _, rfl, if_false_of (by decide) ?_⟩
      rw [opc_play hb] at k
      rw [show (l.map fun (x : Nat) => (x : Int)).map Int.toNat = l from Mth.castL_toNat l] at k
      exact ⟨_, rfl, x, dx, _, rfl, d.obj, dF_meth (by decide +kernel), _, rfl, x, dx, lD, lE, g, m, l, rfl, d, hg, k⟩

abbrev s_answer_over_rows : Stmt := top 57
theorem sc_answer_over_rows : FnScope ["desk", "call", "given"] ["desk", "call", "given"] (defScope s_answer_over_rows) := ⟨rfl, rfl, rfl, by decide +kernel, rfl, by decide +kernel, by decide +kernel⟩
theorem ok_answer_over_rows {f : Addr} {fd : FuncData} (F : Fun K "answer_over_rows" "answer_over_rows" s_answer_over_rows f fd) (T : Txt K mg C) (c_never_done : Cal P w K mg base 5 "never_done" ["desk"] (sp_read0 C (fun m => (opNever m).2))) (c_reached : Cal P w K mg base 5 "reached" ["desk"] (sp_read0 C (fun m => (opReach m).2))) (c_can_be : Cal P w K mg base 6 "can_be" ["desk", "aim"] (sp_aim C (fun m a b => (opCanbe m a b).2))) (c_fewest_steps : Cal P w K mg base 6 "fewest_steps" ["desk", "aim"] (sp_aim C (fun m a b => (opFewest m a b).2))) (c_row_to_aim : Cal P w K mg base 5 "row_to_aim" ["desk", "aim"] (sp_aim C (fun m a b => (opRow m a b).2))) (c_row_back : Cal P w K mg base 5 "row_back" ["desk", "choice"] (sp_read1 C (fun m n => (opUndo m n).2))) (c_lost_by : Cal P w K mg base 5 "lost_by" ["desk", "choice"] (sp_read1 C (fun m n => (opLost m n).2))) (c_settled_facts : Cal P w K mg base 5 "settled_facts" ["desk"] (sp_read0 C (fun m => (opSettled m).2))) : FnOk P w K mg base CX0 7 f fd ["desk", "call", "given"] (sp_over C (fun p m => 12 ≤ p ∧ p ≤ 19 ∧ m.b = true ∧ Ok m)) := by
  refine F.ok sc_answer_over_rows (fun vs H Q E h => ?_) (fun cdv A outer s H vs Q E hr h => ?_)
  · obtain ⟨x, dx, lD, lE, g, m, p, xs, rfl, _⟩ := h
    rfl
  · refine ⟨_, (pss_cons (ps_if (pt_cmpR op_eq (pv 1) (pe_cst T.c_REACH) (nomark _)) (pss_one (ps_ret (pe_cal c_reached hr (by decide) (pa_cons (pv 0) pa_nil)))) pss_nil)
      (pss_cons (ps_if (pt_cmpR op_eq (pv 1) (pe_cst T.c_CANBE) (nomark _)) (pss_one (ps_ret (pe_cal c_can_be hr (by decide) (pa_cons (pv 0) (pa_cons (pv 2) pa_nil))))) pss_nil)
      (pss_cons (ps_if (pt_cmpR op_eq (pv 1) (pe_cst T.c_FEWEST) (nomark _)) (pss_one (ps_ret (pe_cal c_fewest_steps hr (by decide) (pa_cons (pv 0) (pa_cons (pv 2) pa_nil))))) pss_nil)
      (pss_cons (ps_if (pt_cmpR op_eq (pv 1) (pe_cst T.c_ROW) (nomark _)) (pss_one (ps_ret (pe_cal c_row_to_aim hr (by decide) (pa_cons (pv 0) (pa_cons (pv 2) pa_nil))))) pss_nil)
      (pss_cons (ps_if (pt_cmpR op_eq (pv 1) (pe_cst T.c_UNDO) (nomark _)) (pss_one (ps_ret (pe_cal c_row_back hr (by decide) (pa_cons (pv 0) (pa_cons (pe_ix ix_list (pv 2) pe_int (fun _ _ => rfl)) pa_nil))))) pss_nil)
      (pss_cons (ps_if (pt_cmpR op_eq (pv 1) (pe_cst T.c_LOST) (nomark _)) (pss_one (ps_ret (pe_cal c_lost_by hr (by decide) (pa_cons (pv 0) (pa_cons (pe_ix ix_list (pv 2) pe_int (fun _ _ => rfl)) pa_nil))))) pss_nil)
      (pss_cons (ps_if (pt_cmpR op_eq (pv 1) (pe_cst T.c_SETTLED) (nomark _)) (pss_one (ps_ret (pe_cal c_settled_facts hr (by decide) (pa_cons (pv 0) pa_nil)))) pss_nil)
      (pss_one (ps_ret (pe_cal c_never_done hr (by decide) (pa_cons (pv 0) pa_nil))))))))))), ?_⟩
    obtain ⟨x, dx, lD, lE, g, m, p, xs, rfl, d, hg, sh, ⟨hp1, hp2, hb, ok⟩, k⟩ := h
    have gd := ok hb
    cases sh <;> first | omega | skip
    case reach =>
      refine ⟨_, rfl, rfl, _, rfl, if_true_of (by decide) ?_⟩
      rw [opc_reach hb] at k
      exact ⟨_, rfl, x, dx, lD, lE, m, rfl, d, gd, Told.still (ans := (opReach m).2) k d⟩
    case canBe a b ha hb' =>
      refine ⟨_, rfl, rfl, _, rfl, if_false_of (by decide) ?_⟩
      refine ⟨_, rfl, rfl, _, rfl, if_true_of (by decide) ?_⟩
      rw [opc_canBe hb] at k
      exact ⟨_, rfl, _, rfl, x, dx, lD, lE, m, g, a, b, rfl, d, gd, hg, Told.still (ans := (opCanbe m a b).2) k d⟩
    case fewest a b ha hb' =>
      refine ⟨_, rfl, rfl, _, rfl, if_false_of (by decide) ?_⟩
      refine ⟨_, rfl, rfl, _, rfl, if_false_of (by decide) ?_⟩
      refine ⟨_, rfl, rfl, _, rfl, if_true_of (by decide) ?_⟩
      rw [opc_fewest hb] at k
      exact ⟨_, rfl, _, rfl, x, dx, lD, lE, m, g, a, b, rfl, d, gd, hg, Told.still (ans := (opFewest m a b).2) k d⟩
    case row a b ha hb' =>
      refine ⟨_, rfl, rfl, _, rfl, if_false_of (by decide) ?_⟩
      refine ⟨_, rfl, rfl, _, rfl, if_false_of (by decide) ?_⟩
      refine ⟨_, rfl, rfl, _, rfl, if_false_of (by decide) ?_⟩
      refine ⟨_, rfl, rfl, _, rfl, if_true_of (by decide) ?_⟩
      rw [opc_row hb] at k
      exact ⟨_, rfl, _, rfl, x, dx, lD, lE, m, g, a, b, rfl, d, gd, hg, Told.still (ans := (opRow m a b).2) k d⟩
    case undo a ha =>
      refine ⟨_, rfl, rfl, _, rfl, if_false_of (by decide) ?_⟩
      refine ⟨_, rfl, rfl, _, rfl, if_false_of (by decide) ?_⟩
      refine ⟨_, rfl, rfl, _, rfl, if_false_of (by decide) ?_⟩
      refine ⟨_, rfl, rfl, _, rfl, if_false_of (by decide) ?_⟩
      refine ⟨_, rfl, rfl, _, rfl, if_true_of (by decide) ?_⟩
      rw [opc_undo hb] at k
      exact ⟨_, rfl, _, rfl, g, _, _, _, rfl, rfl, SqL.of hg, atI_nat (j := 0) rfl, x, dx, lD, lE, m, a, rfl, d, gd, Told.still (ans := (opUndo m a).2) k d⟩
    case lost a ha =>
      refine ⟨_, rfl, rfl, _, rfl, if_false_of (by decide) ?_⟩
      refine ⟨_, rfl, rfl, _, rfl, if_false_of (by decide) ?_⟩
      refine ⟨_, rfl, rfl, _, rfl, if_false_of (by decide) ?_⟩
      refine ⟨_, rfl, rfl, _, rfl, if_false_of (by decide) ?_⟩
      refine ⟨_, rfl, rfl, _, rfl, if_false_of (by decide) ?_⟩
      refine ⟨_, rfl, rfl, _, rfl, if_true_of (by decide) ?_⟩
      rw [opc_lost hb] at k
      exact ⟨_, rfl, _, rfl, g, _, _, _, rfl, rfl, SqL.of hg, atI_nat (j := 0) rfl, x, dx, lD, lE, m, a, rfl, d, gd, Told.still (ans := (opLost m a).2) k d⟩
    case settled =>
      refine ⟨_, rfl, rfl, _, rfl, if_false_of (by decide) ?_⟩
      refine ⟨_, rfl, rfl, _, rfl, if_false_of (by decide) ?_⟩
      refine ⟨_, rfl, rfl, _, rfl, if_false_of (by decide) ?_⟩
      refine ⟨_, rfl, rfl, _, rfl, if_false_of (by decide) ?_⟩
      refine ⟨_, rfl, rfl, _, rfl, if_false_of (by decide) ?_⟩
      refine ⟨_, rfl, rfl, _, rfl, if_false_of (by decide) ?_⟩
      refine ⟨_, rfl, rfl, _, rfl, if_true_of (by decide) ?_⟩
      rw [opc_settled hb] at k
      exact ⟨_, rfl, x, dx, lD, lE, m, rfl, d, gd, Told.still (ans := (opSettled m).2) k d⟩
    case never =>
      refine ⟨_, rfl, rfl, _, rfl, if_false_of (by decide) ?_⟩
      refine ⟨_, rfl, rfl, _, rfl, if_false_of (by decide) ?_⟩
      refine ⟨_, rfl, rfl, _, rfl, if_false_of (by decide) ?_⟩
      refine ⟨_, rfl, rfl, _, rfl, if_false_of (by decide) ?_⟩
      refine ⟨_, rfl, rfl, _, rfl, if_false_of (by decide) ?_⟩
      refine ⟨_, rfl, rfl, _, rfl, if_false_of (by decide) ?_⟩
      refine ⟨_, rfl, rfl, _, rfl, if_false_of (by decide) ?_⟩
      rw [opc_never hb] at k
      exact ⟨_, rfl, x, dx, lD, lE, m, rfl, d, gd, Told.still (ans := (opNever m).2) k d⟩

theorem Mth_shape_range {p : Int} {xs : List Int} (h : Mth.Shape p xs) : 0 ≤ p ∧ p ≤ 21 := by cases h <;> omega

abbrev s_answer_of : Stmt := top 58
theorem sc_answer_of : FnScope ["desk", "call", "given"] ["desk", "call", "given"] (defScope s_answer_of) := ⟨rfl, rfl, rfl, by decide +kernel, rfl, by decide +kernel, by decide +kernel⟩
theorem ok_answer_of {f : Addr} {fd : FuncData} (F : Fun K "answer_of" "answer_of" s_answer_of f fd) (T : Txt K mg C) (c_answer_over_steps : Cal P w K mg base 6 "answer_over_steps" ["desk", "call", "given"] (sp_over C (fun p m => (7 ≤ p ∧ p ≤ 11 ∨ 20 ≤ p) ∧ m.b = true))) (m_begin : Met P w K mg base C 2 "begin" ["self", "many"] (sp_op1 C opBegin)) (c_answer_over_rules : Cal P w K mg base 5 "answer_over_rules" ["desk", "call", "given"] (sp_over C (fun p m => 1 ≤ p ∧ p ≤ 6 ∧ m.b = true))) (c_answer_over_rows : Cal P w K mg base 7 "answer_over_rows" ["desk", "call", "given"] (sp_over C (fun p m => 12 ≤ p ∧ p ≤ 19 ∧ m.b = true ∧ Ok m))) : FnOk P w K mg base CX0 8 f fd ["desk", "call", "given"] (sp_over C (fun _ m => Ok m)) := by
  refine F.ok sc_answer_of (fun vs H Q E h => ?_) (fun cdv A outer s H vs Q E hr h => ?_)
  · obtain ⟨x, dx, lD, lE, g, m, p, xs, rfl, _⟩ := h
    rfl
  · refine ⟨_, (pss_cons (ps_if (pt_cmpR op_eq (pv 1) (pe_cst T.c_BEGIN) (nomark _)) (pss_one (ps_ret (pe_met T.cl m_begin hr (by decide) (pv 0) (pa_cons (pe_ix ix_list (pv 2) pe_int (fun _ _ => rfl)) pa_nil)))) pss_nil)
      (pss_cons (ps_if (pt_not (pt_val (pe_fld (pv 0) rfl))) (pss_one (ps_ret (pe_lst (pa_cons (pe_cst T.c_NOT_BEGUN) pa_nil)))) pss_nil)
      (pss_cons (ps_if (pt_cmpR op_le (pv 1) (pe_cst T.c_EVENTIS) (nomark _)) (pss_one (ps_ret (pe_cal c_answer_over_rules hr (by decide) (pa_cons (pv 0) (pa_cons (pv 1) (pa_cons (pv 2) pa_nil)))))) pss_nil)
      (pss_cons (ps_if (pt_chain op_le op_le (pe_cst T.c_REACH) (pv 1) (pe_cst T.c_NEVER)) (pss_one (ps_ret (pe_cal c_answer_over_rows hr (by decide) (pa_cons (pv 0) (pa_cons (pv 1) (pa_cons (pv 2) pa_nil)))))) pss_nil)
      (pss_one (ps_ret (pe_cal c_answer_over_steps hr (by decide) (pa_cons (pv 0) (pa_cons (pv 1) (pa_cons (pv 2) pa_nil)))))))))), ?_⟩
    obtain ⟨x, dx, lD, lE, g, m, p, xs, rfl, d, hg, sh, ok, k⟩ := h
    have no : ∀ {nm : Str}, (nm == ("begun" : Str)) = false → (nm == ("all_facts" : Str)) = false → (nm == ("state" : Str)) = false → (nm == ("deeds" : Str)) = false → (nm == ("events" : Str)) = false → (dF m.b m.full m.now lD lE).lookup nm = none := fun a b c d e => dF_no a b c d e
    refine ⟨_, rfl, rfl, _, rfl, ?_⟩
    refine if_either (fun h1 => ?_) (fun h1 => ?_)
    · have hp : p = 0 := by
        have := of_decide_eq_true h1
        injection this
      subst hp
      cases sh
      rename_i a ha
      refine ⟨_, rfl, x, dx, _, rfl, d.obj, no (by decide +kernel) (by decide +kernel) (by decide +kernel) (by decide +kernel) (by decide +kernel), _, rfl, g, _, _, _, rfl, rfl, SqL.of hg, atI_nat (j := 0) rfl, ?_⟩
      unfold opCall at k
      rw [if_pos rfl] at k
      exact ⟨x, dx, lD, lE, m, a, rfl, ha, d, k⟩
    have hp : ¬ p = 0 := fun z => by
      have := of_decide_eq_false h1
      exact this (by rw [z])
    refine ⟨_, rfl, x, C, dx, _, _, rfl, d.obj, T.cl, T.a_begun, dF_begun, _, rfl, ?_⟩
    refine if_either (fun h2 => ?_) (fun h2 => ?_)
    · have hb : m.b = false := by simpa using h2
      unfold opCall at k
      rw [if_neg hp, if_pos hb] at k
      exact ⟨small1, fun p hp => k.plain1 d p hp⟩
    have hb : m.b = true := by simpa using h2
    have hr := Mth_shape_range sh
    refine ⟨_, rfl, _, _, rfl, rfl, _, rfl, ?_⟩
    refine if_either (fun h3 => ?_) (fun h3 => ?_)
    · have h3' := of_decide_eq_true h3
      exact ⟨_, rfl, _, rfl, _, rfl, x, dx, lD, lE, g, m, p, xs, rfl, d, hg, sh, ⟨by omega, h3', hb⟩, k⟩
    have h3' := of_decide_eq_false h3
    refine ⟨_, rfl, _, _, rfl, rfl, _, rfl, ?_⟩
    refine if_either (fun h4 => ?_) (fun h4 => ?_)
    · have h4' := of_decide_eq_true h4
      refine ⟨_, _, rfl, rfl, _, rfl, ?_⟩
      refine if_either (fun h5 => ?_) (fun h5 => ?_)
      · have h5' := of_decide_eq_true h5
        exact ⟨_, rfl, _, rfl, _, rfl, x, dx, lD, lE, g, m, p, xs, rfl, d, hg, sh, ⟨h4', h5', hb, ok⟩, k⟩
      · have h5' := of_decide_eq_false h5
        exact ⟨_, rfl, _, rfl, _, rfl, x, dx, lD, lE, g, m, p, xs, rfl, d, hg, sh, ⟨by omega, hb⟩, k⟩
    · have h4' := of_decide_eq_false h4
      refine ⟨_, rfl, ?_⟩
      exact ⟨_, rfl, _, rfl, _, rfl, x, dx, lD, lE, g, m, p, xs, rfl, d, hg, sh, ⟨by omega, hb⟩, k⟩

/-! ### the whole line -/
theorem DeskAt.other {H : Hp} {x dx lD lE pt : Addr} {m : M} {xs ys : List V} (d : DeskAt C H x dx lD lE m) (h : H pt = some (.lst xs)) (n1 : pt ≠ lD) (n2 : pt ≠ lE) : DeskAt C (upd H pt (.lst ys)) x dx lD lE m := by
  refine ⟨?_, d.deeds.keep (fun o ho => ?_) (upd_lst h), d.events.keep (fun o ho => ?_) (upd_lst h), d.ne, d.szD, d.szE⟩
  · rw [upd_ne (ins_ne_lst d.obj h)]
    exact d.obj
  · rw [upd_ne n1.symm]
    exact ho
  · rw [upd_ne n2.symm]
    exact ho
/-- where the turn stands -/
structure Turn (C : Addr) (H0 H : Hp) (ps : List (Int × List Int)) (x pt : Addr) (pre rest : List (Int × List Int)) (out : List Int) (m : M) (dx lD lE : Addr) : Prop where
  split : ps = pre ++ rest
  desk : DeskAt C H x dx lD lE m
  same : Same H0 H
  n1 : H0 x = none
  n2 : H0 lD = none
  n3 : H0 lE = none
  n4 : H0 pt = none
  told : H pt = some (.lst (out.map V.int))
  ne1 : pt ≠ lD
  ne2 : pt ≠ lE
  ans : out ++ runM m rest = runM m0 ps
  ok : Ok m
def left (n : Nat) (σ : L2.St) : Nat := match σ[3]? with
  | some (some (V.int z)) => ((n : Int) - z).toNat
  | _ => 0
theorem map_get {ns : List Int} {j : Nat} {z : Int} (h : ns[j]? = some z) : (ns.map V.int)[j]? = some (V.int z) := by
  rw [List.getElem?_map, h]
  rfl
theorem cut_mid {A B D' : List Int} {P Q' : Nat} (hP : P = A.length) (hQ : Q' = A.length + B.length) : cutV ((A ++ (B ++ D')).map V.int) (some ((P : Nat) : Int)) (some ((Q' : Nat) : Int)) = B.map V.int := by
  unfold cutV
  rw [HT.sIx_nat, HT.sIx_nat, List.length_map, List.length_append, List.length_append, hP, hQ]
  have e1 : min A.length (A.length + (B.length + D'.length)) = A.length := by omega
  have e2 : min (A.length + B.length) (A.length + (B.length + D'.length)) = A.length + B.length := by omega
  rw [e1, e2, ← List.map_drop, List.drop_left, ← List.map_take]
  have e3 : A.length + B.length - A.length = B.length := by omega
  rw [e3, List.take_left]

abbrev s_answers : Stmt := top 59
theorem sc_answers : FnScope ["calls", "desk", "told", "place", "first", "behind", "answer"] ["calls"] (defScope s_answers) := ⟨rfl, rfl, rfl, by decide +kernel, rfl, by decide +kernel, by decide +kernel⟩
def sp_answers (K : PySem.W.Frag) : Sp := fun vs H Q _ => ∃ (a : Addr) (ps : List (Int × List Int)), vs = [.ref a] ∧ SqL K H a ((Mth.encs ps).map V.int) ∧ (∀ p ∈ ps, Mth.Shape p.1 p.2) ∧ (runM m0 ps).length ≤ 10000000 ∧
  ∀ (H' : Hp) (p : Addr), H' p = some (.lst ((runM m0 ps).map V.int)) → Q (.ref p) H'
theorem ok_answers {f : Addr} {fd : FuncData} (F : Fun K "answers" "answers" s_answers f fd) (T : Txt K mg C) (c_Desk : Mak P w K mg base C 2 "Desk" ["self"] (sp_init C)) (c_answer_of : Cal P w K mg base 8 "answer_of" ["desk", "call", "given"] (sp_over C (fun _ m => Ok m))) : FnOk P w K mg base CX0 9 f fd ["calls"] (sp_answers K) := by
  refine F.ok sc_answers (fun vs H Q E h => ?_) (fun cdv A outer s H vs Q E hr h => ?_)
  · obtain ⟨a, ps, rfl, _⟩ := h
    rfl
  · refine ⟨_, (pss_cons (ps_set (i := 1) sc_answers.nd rfl (Or.inl rfl) (pe_mk0 c_Desk hr (by decide)))
      (pss_cons (ps_set (i := 2) sc_answers.nd rfl (Or.inl rfl) (pe_lst pa_nil))
      (pss_cons (ps_set (i := 3) sc_answers.nd rfl (Or.inl rfl) pe_int)
      (pss_cons (ps_while PassesOwn.never (pt_cmpR op_lt (pv 3) (pe_callB call_len_seq (by rfl) T.n_len PySem.boot_len (pa_cons (pv 0) pa_nil)) (nomark _)) (pss_cons (ps_set (i := 4) sc_answers.nd rfl (Or.inl rfl) (pe_op op_add (pv 3) pe_int))
      (pss_cons (ps_set (i := 5) sc_answers.nd rfl (Or.inl rfl) (pe_op op_add (pv 4) (pe_ix ix_list (pv 0) (pe_op op_add (pv 3) pe_int) (fun _ _ => rfl))))
      (pss_cons (ps_set (i := 6) sc_answers.nd rfl (Or.inl rfl) (pe_cal c_answer_of hr (by decide) (pa_cons (pv 1) (pa_cons (pe_ix ix_list (pv 0) (pv 3) (fun _ _ => rfl)) (pa_cons (pe_slice sl_list (pv 0) (po_some (pv 4)) (po_some (pv 5))) pa_nil)))))
      (pss_cons (ps_expr (pe_bm PySem.F.plainAttrs_list PySem.F.slot_list_append PySem.F.type_list_append mt_append (pv 2) (pa_cons (pe_callB call_len_seq (by rfl) T.n_len PySem.boot_len (pa_cons (pv 6) pa_nil)) pa_nil)))
      (pss_cons (ps_expr (pe_bm PySem.F.plainAttrs_list PySem.F.slot_list_extend PySem.F.type_list_extend mt_extend (pv 2) (pa_cons (pv 6) pa_nil)))
      (pss_one (ps_set (i := 3) sc_answers.nd rfl (Or.inl rfl) (pe_op op_add (pv 5) pe_int)))))))))
      (pss_one (ps_ret (pv 2))))))), ?_⟩
    obtain ⟨a, ps, rfl, hS, hsh, hlen, k⟩ := h
    intro x dx nx nd ne
    refine ⟨x, dx, rfl, upd_same, fun H1 lD lE d1 kp nD nE => ⟨rfl, ?_⟩⟩
    have s1 : Same H H1 := Same.made nx nd kp
    have nD0 : H lD = none := upd_none' (upd_none' nD)
    have nE0 : H lE = none := upd_none' (upd_none' nE)
    refine ⟨small (by decide), fun pt hpt => ?_⟩
    have hpt0 : H pt = none := s1.free hpt
    obtain ⟨xsD, eD⟩ := d1.lstD
    obtain ⟨xsE, eE⟩ := d1.lstE
    refine while_by (fun σ H' => ∃ (pre rest : List (Int × List Int)) (out : List Int) (m : M) (lD lE : Addr) (v4 v5 v6 : Option V), σ = [some (.ref a), some (.ref x), some (.ref pt), some (.int ((Mth.encs pre).length : Nat)), v4, v5, v6] ∧ Turn C H H' ps x pt pre rest out m dx lD lE)
      (fun σ _ => left (Mth.encs ps).length σ) ⟨[], ps, [], m0, lD, lE, none, none, none, rfl, ⟨rfl, d1.same (same_upd hpt), fun b o hb => same_upd hpt _ _ (s1 b o hb), nx, nD0, nE0, hpt0, upd_same, (some_ne_none eD hpt).symm, (some_ne_none eE hpt).symm, rfl, ok_m0⟩⟩ ?_ ?_
    · rintro σ H' ⟨pre, rest, out, m, lD, lE, v4, v5, v6, rfl, U⟩
      have hS' := U.same.seq hS
      refine ⟨_, rfl, _, rfl, a, _, rfl, .inl hS', _, _, rfl, rfl, _, rfl, ?_⟩
      cases rest with
      | nil =>
        refine if_false_of (decide_eq_false ?_) ?_
        · have := U.split
          rw [List.append_nil] at this
          rw [List.length_map, this]
          omega
        · refine ⟨_, rfl, k H' pt ?_⟩
          have e := U.ans
          rw [show runM m [] = [] from rfl, List.append_nil] at e
          rw [← e]
          exact U.told
      | cons c rest =>
        have hns : Mth.encs ps = Mth.encs pre ++ (c.1 :: (c.2.length : Int) :: (c.2 ++ ([0] ++ Mth.encs rest))) := by
          rw [U.split]
          unfold Mth.encs
          rw [List.flatMap_append, List.flatMap_cons]
          simp [Mth.encC]
        have hlen2 : (Mth.encs ps).length = (Mth.encs pre).length + (2 + c.2.length + 1 + (Mth.encs rest).length) := by
          rw [hns]
          simp
          omega
        have sh := hsh c (by rw [U.split]; simp)
        have g0 : (Mth.encs ps)[(Mth.encs pre).length]? = some c.1 := by
          rw [hns, List.getElem?_append_right (Nat.le_refl _), Nat.sub_self]
          rfl
        have g1 : (Mth.encs ps)[(Mth.encs pre).length + 1]? = some (c.2.length : Int) := by
          rw [hns, List.getElem?_append_right (by omega), Nat.add_sub_cancel_left]
          rfl
        have hcut : cutV ((Mth.encs ps).map V.int) (some (((Mth.encs pre).length : Int) + 2)) (some (((Mth.encs pre).length : Int) + 2 + (c.2.length : Int))) = c.2.map V.int := by
          have e1 : ((Mth.encs pre).length : Int) + 2 = (((Mth.encs pre).length + 2 : Nat) : Int) := by omega
          have e2 : (((Mth.encs pre).length + 2 : Nat) : Int) + (c.2.length : Int) = (((Mth.encs pre).length + 2 + c.2.length : Nat) : Int) := by omega
          have e3 : Mth.encs ps = (Mth.encs pre ++ [c.1, (c.2.length : Int)]) ++ (c.2 ++ ([0] ++ Mth.encs rest)) := by
            rw [hns]
            simp
          rw [e1, e2, e3]
          exact cut_mid (by simp) (by simp)
        refine if_true_of (decide_eq_true ?_) ?_
        · rw [List.length_map, hlen2]
          omega
        have ans := U.ans
        have hsz : out.length + (1 + ((opCall m c.1 c.2).2.length + (runM (opCall m c.1 c.2).1 rest).length)) ≤ 10000000 := by
          rw [← ans] at hlen
          simp [runM] at hlen
          omega
        refine ⟨_, rfl, _, _, rfl, rfl, ?_⟩
        refine ⟨_, rfl, _, rfl, _, rfl, _, _, rfl, rfl, a, _, _, _, rfl, rfl, hS', at_of (j := (Mth.encs pre).length + 1) (by omega) (map_get g1), _, _, rfl, rfl, ?_⟩
        refine ⟨_, rfl, _, rfl, _, rfl, a, _, _, _, rfl, rfl, hS', at_of (j := (Mth.encs pre).length) rfl (map_get g0), _, rfl, _, rfl, _, rfl, _, rfl, _, rfl, a, _, rfl, hS', fun g hg => ?_⟩
        refine ⟨x, dx, lD, lE, g, m, c.1, c.2, rfl, U.desk.same (same_upd hg), ?_, sh, U.ok, fun H2 p lD' lE' d2 mv hp ha q1 q2 => ?_⟩
        · rw [upd_same]
          exact congrArg (fun q => some (HO.lst q)) hcut
        have hto := same_upd hg (o := .lst (cutV ((Mth.encs ps).map V.int) (some (((Mth.encs pre).length : Int) + 2)) (some (((Mth.encs pre).length : Int) + 2 + (c.2.length : Int))))) _ _ U.told
        have ht2 : H2 pt = some (.lst (out.map V.int)) := mv.keep pt _ hto (ins_ne_lst U.desk.obj U.told).symm U.ne1 U.ne2
        have ptp : pt ≠ p := some_ne_none hto hp
        refine ⟨_, rfl, .inl ⟨rfl, _, SqL.of ht2⟩, _, rfl, p, _, rfl, .inl (SqL.of ha), pt, _, _, rfl, rfl, ht2, (by rw [List.length_map, sizeLine_eq]; omega), ?_⟩
        refine ⟨_, rfl, .inl ⟨rfl, _, SqL.of upd_same⟩, _, rfl, pt, p, _, _, rfl, rfl, upd_same, (by rw [upd_ne ptp.symm]; exact ha), (by rw [List.length_append, List.length_map, List.length_map, sizeLine_eq]; simp; omega), ?_⟩
        refine ⟨_, rfl, _, _, rfl, rfl, ?_⟩
        have ptD : pt ≠ lD' := by
          rcases mv.nD with z | z
          · rw [z]
            exact U.ne1
          · exact some_ne_none hto z
        have ptE : pt ≠ lE' := by
          rcases mv.nE with z | z
          · rw [z]
            exact U.ne2
          · exact some_ne_none hto z
        have el : (Mth.encs (pre ++ [c])).length = (Mth.encs pre).length + 2 + c.2.length + 1 := by
          unfold Mth.encs
          rw [List.flatMap_append]
          simp [Mth.encC]
          omega
        refine ⟨⟨pre ++ [c], rest, out ++ (((opCall m c.1 c.2).2.length : Nat) : Int) :: (opCall m c.1 c.2).2, (opCall m c.1 c.2).1, lD', lE', some (V.int (((Mth.encs pre).length : Int) + 2)), some (V.int (((Mth.encs pre).length : Int) + 2 + (c.2.length : Int))), some (V.ref p), ?_, ?_⟩, ?_⟩
        · have e9 : (((Mth.encs pre).length + 2 + c.2.length + 1 : Nat) : Int) = ((Mth.encs pre).length : Int) + 2 + (c.2.length : Int) + 1 := by omega
          rw [el, e9]
          rfl
        · have free : ∀ {q : Addr}, upd H' g (.lst (cutV ((Mth.encs ps).map V.int) (some (((Mth.encs pre).length : Int) + 2)) (some (((Mth.encs pre).length : Int) + 2 + (c.2.length : Int))))) q = none → H q = none := fun z => U.same.free (upd_none' z)
          refine ⟨by rw [U.split]; simp, ?_, fun b o hb => ?_, U.n1, ?_, ?_, U.n4, ?_, ptD, ptE, ?_, (op_step U.ok sh).2⟩
          · exact (d2.other ht2 ptD ptE).other upd_same ptD ptE
          · have b1 : b ≠ pt := some_ne_none hb U.n4
            rw [upd_ne b1, upd_ne b1]
            exact mv.keep b o (same_upd hg _ _ (U.same b o hb)) (some_ne_none hb U.n1) (some_ne_none hb U.n2) (some_ne_none hb U.n3)
          · rcases mv.nD with z | z
            · rw [z]; exact U.n2
            · exact free z
          · rcases mv.nE with z | z
            · rw [z]; exact U.n3
            · exact free z
          · rw [upd_same]
            simp
          · rw [← ans]
            simp [runM]
        · unfold left
          show (((Mth.encs ps).length : Int) - (((Mth.encs pre).length : Int) + 2 + (c.2.length : Int) + 1)).toNat < (((Mth.encs ps).length : Int) - ((Mth.encs pre).length : Int)).toNat
          omega
    · rintro σ H' Q1 Q2 hq ⟨v, e1, v2, e2, p, ys, e3, hh, i, j, e4, e5, b, e6, q⟩
      exact ⟨v, e1, v2, e2, p, ys, e3, hh, i, j, e4, e5, b, e6, hq _ _ q⟩

end

def sp_fin (K : PySem.W.Frag) : Sp := fun vs H Q _ => ∃ (a : Addr) (ns : List Int), vs = [.ref a] ∧ SqL K H a (ns.map V.int) ∧ PyKp371.answers_asked ns = true ∧
  ∀ (H' : Hp) (p : Addr), H' p = some (.lst ((PyKp371.answers ns).map V.int)) → Q (.ref p) H'
theorem fin_imp {K : PySem.W.Frag} (vs : List V) (H : Hp) (Q : VK) (E : XK) (h : sp_fin K vs H Q E) : sp_answers K vs H Q E := by
  obtain ⟨a, ns, rfl, hs, ask, k⟩ := h
  obtain ⟨ps, h1, h2, h3, h4⟩ := whole ask
  subst h2
  exact ⟨a, ps, rfl, hs, h1, h4, fun H' p hp => k H' p (by rw [h3]; exact hp)⟩

/-! ### the end -/
theorem all_mk {P : Program} {w : World} {K : PySem.W.Frag} {h : Heap} {mg : Str → Option Value} {fa C f0 f1 f2 f3 f4 f5 f6 f7 f8 f9 f10 f11 f12 f13 f14 f15 f16 f17 f18 f19 f20 f21 f22 f23 f24 f25 f26 f27 f28 f29 f30 f31 f32 f33 f34 f35 f36 f37 f38 f39 f40 f41 : Addr} (X : K.In h) (G : h.Ns mainGlobals mg) (hfa : mg "answers" = some (.ref fa))
    {od0 an0 od1 an1 od2 an2 od3 an3 od4 an4 od5 an5 od6 an6 od7 an7 od8 an8 od9 an9 od10 an10 od11 an11 od12 an12 od13 an13 od14 an14 od15 an15 od16 an16 od17 an17 od18 an18 od19 an19 od20 an20 od21 an21 od22 an22 od23 an23 od24 an24 od25 an25 od26 an26 od27 an27 od28 an28 od29 an29 od30 an30 od31 an31 od32 an32 od33 an33 od34 an34 od35 an35 od36 an36 od37 an37 od38 an38 od39 an39 od40 an40 od41 an41 : Option Addr} {sl0 sl1 sl2 sl3 sl4 sl5 sl6 sl7 sl8 sl9 sl10 sl11 sl12 sl13 sl14 sl15 sl16 sl17 sl18 sl19 sl20 sl21 sl22 sl23 sl24 sl25 sl26 sl27 sl28 sl29 sl30 sl31 sl32 sl33 sl34 sl35 sl36 sl37 sl38 sl39 sl40 sl41 : Array (Option Value)} {oc0 kV0 dc0 pm0 cd0 ct0 oc1 kV1 dc1 pm1 cd1 ct1 oc2 kV2 dc2 pm2 cd2 ct2 oc3 kV3 dc3 pm3 cd3 ct3 oc4 kV4 dc4 pm4 cd4 ct4 oc5 kV5 dc5 pm5 cd5 ct5 oc6 kV6 dc6 pm6 cd6 ct6 oc7 kV7 dc7 pm7 cd7 ct7 oc8 kV8 dc8 pm8 cd8 ct8 oc9 kV9 dc9 pm9 cd9 ct9 oc10 kV10 dc10 pm10 cd10 ct10 oc11 kV11 dc11 pm11 cd11 ct11 oc12 kV12 dc12 pm12 cd12 ct12 oc13 kV13 dc13 pm13 cd13 ct13 oc14 kV14 dc14 pm14 cd14 ct14 oc15 kV15 dc15 pm15 cd15 ct15 oc16 kV16 dc16 pm16 cd16 ct16 oc17 kV17 dc17 pm17 cd17 ct17 oc18 kV18 dc18 pm18 cd18 ct18 oc19 kV19 dc19 pm19 cd19 ct19 oc20 kV20 dc20 pm20 cd20 ct20 oc21 kV21 dc21 pm21 cd21 ct21 oc22 kV22 dc22 pm22 cd22 ct22 oc23 kV23 dc23 pm23 cd23 ct23 oc24 kV24 dc24 pm24 cd24 ct24 oc25 kV25 dc25 pm25 cd25 ct25 oc26 kV26 dc26 pm26 cd26 ct26 oc27 kV27 dc27 pm27 cd27 ct27 oc28 kV28 dc28 pm28 cd28 ct28 oc29 kV29 dc29 pm29 cd29 ct29 oc30 kV30 dc30 pm30 cd30 ct30 oc31 kV31 dc31 pm31 cd31 ct31 oc32 kV32 dc32 pm32 cd32 ct32 oc33 kV33 dc33 pm33 cd33 ct33 oc34 kV34 dc34 pm34 cd34 ct34 oc35 kV35 dc35 pm35 cd35 ct35 oc36 kV36 dc36 pm36 cd36 ct36 oc37 kV37 dc37 pm37 cd37 ct37 oc38 kV38 dc38 pm38 cd38 ct38 oc39 kV39 dc39 pm39 cd39 ct39 oc40 kV40 dc40 pm40 cd40 ct40 oc41 kV41 dc41 pm41 cd41 ct41 : Value} {t0 t1 t2 t3 t4 t5 t6 t7 t8 t9 t10 t11 t12 t13 t14 t15 t16 t17 t18 t19 t20 t21 t22 t23 t24 t25 t26 t27 t28 t29 t30 t31 : Tok}
    (aC : PySem.W.nsIn K mainGlobals "Desk" = some (some (.ref C)))
    (a0 : PySem.W.nsIn K mainGlobals "is_within" = some (some (.ref f0)))
    (l0 : K.lookup f0 = some ⟨oc0, od0, .func (PySem.W.fnOf "is_within" "is_within" (defArgs s_is_within) (defBody s_is_within) (defScope s_is_within) .none kV0 dc0 pm0 an0 cd0 ct0), sl0⟩)
    (c0 : PySem.W.codeIn K cd0 "is_within" = true)
    (k0 : PySem.W.keepIn K (.ref f0) = true)
    (a1 : PySem.W.nsIn K mainGlobals "is_met" = some (some (.ref f1)))
    (l1 : K.lookup f1 = some ⟨oc1, od1, .func (PySem.W.fnOf "is_met" "is_met" (defArgs s_is_met) (defBody s_is_met) (defScope s_is_met) .none kV1 dc1 pm1 an1 cd1 ct1), sl1⟩)
    (c1 : PySem.W.codeIn K cd1 "is_met" = true)
    (k1 : PySem.W.keepIn K (.ref f1) = true)
    (a2 : PySem.W.nsIn K mainGlobals "made_by" = some (some (.ref f2)))
    (l2 : K.lookup f2 = some ⟨oc2, od2, .func (PySem.W.fnOf "made_by" "made_by" (defArgs s_made_by) (defBody s_made_by) (defScope s_made_by) .none kV2 dc2 pm2 an2 cd2 ct2), sl2⟩)
    (c2 : PySem.W.codeIn K cd2 "made_by" = true)
    (k2 : PySem.W.keepIn K (.ref f2) = true)
    (a3 : PySem.W.nsIn K mainGlobals "is_rule" = some (some (.ref f3)))
    (l3 : K.lookup f3 = some ⟨oc3, od3, .func (PySem.W.fnOf "is_rule" "is_rule" (defArgs s_is_rule) (defBody s_is_rule) (defScope s_is_rule) .none kV3 dc3 pm3 an3 cd3 ct3), sl3⟩)
    (c3 : PySem.W.codeIn K cd3 "is_rule" = true)
    (k3 : PySem.W.keepIn K (.ref f3) = true)
    (a4 : PySem.W.nsIn K mainGlobals "take_out" = some (some (.ref f4)))
    (l4 : K.lookup f4 = some ⟨oc4, od4, .func (PySem.W.fnOf "take_out" "take_out" (defArgs s_take_out) (defBody s_take_out) (defScope s_take_out) .none kV4 dc4 pm4 an4 cd4 ct4), sl4⟩)
    (c4 : PySem.W.codeIn K cd4 "take_out" = true)
    (k4 : PySem.W.keepIn K (.ref f4) = true)
    (a5 : PySem.W.nsIn K mainGlobals "told_rule" = some (some (.ref f5)))
    (l5 : K.lookup f5 = some ⟨oc5, od5, .func (PySem.W.fnOf "told_rule" "told_rule" (defArgs s_told_rule) (defBody s_told_rule) (defScope s_told_rule) .none kV5 dc5 pm5 an5 cd5 ct5), sl5⟩)
    (c5 : PySem.W.codeIn K cd5 "told_rule" = true)
    (k5 : PySem.W.keepIn K (.ref f5) = true)
    (a6 : PySem.W.findIn K (.ref C) "clear_for" = some (some (.ref f6)))
    (i6 : PySem.W.isFn K (.ref f6) = true)
    (l6 : K.lookup f6 = some ⟨oc6, od6, .func (PySem.W.fnOf "clear_for" "Desk.clear_for" (defArgs s_clear_for) (defBody s_clear_for) (defScope s_clear_for) .none kV6 dc6 pm6 an6 cd6 ct6), sl6⟩)
    (c6 : PySem.W.codeIn K cd6 "Desk.clear_for" = true)
    (k6 : PySem.W.keepIn K (.ref f6) = true)
    (a7 : PySem.W.findIn K (.ref C) "__init__" = some (some (.ref f7)))
    (i7 : PySem.W.isFn K (.ref f7) = true)
    (l7 : K.lookup f7 = some ⟨oc7, od7, .func (PySem.W.fnOf "__init__" "Desk.__init__" (defArgs s___init__) (defBody s___init__) (defScope s___init__) .none kV7 dc7 pm7 an7 cd7 ct7), sl7⟩)
    (c7 : PySem.W.codeIn K cd7 "Desk.__init__" = true)
    (k7 : PySem.W.keepIn K (.ref f7) = true)
    (a8 : PySem.W.findIn K (.ref C) "begin" = some (some (.ref f8)))
    (i8 : PySem.W.isFn K (.ref f8) = true)
    (l8 : K.lookup f8 = some ⟨oc8, od8, .func (PySem.W.fnOf "begin" "Desk.begin" (defArgs s_begin) (defBody s_begin) (defScope s_begin) .none kV8 dc8 pm8 an8 cd8 ct8), sl8⟩)
    (c8 : PySem.W.codeIn K cd8 "Desk.begin" = true)
    (k8 : PySem.W.keepIn K (.ref f8) = true)
    (a9 : PySem.W.findIn K (.ref C) "add_rule" = some (some (.ref f9)))
    (i9 : PySem.W.isFn K (.ref f9) = true)
    (l9 : K.lookup f9 = some ⟨oc9, od9, .func (PySem.W.fnOf "add_rule" "Desk.add_rule" (defArgs s_add_rule) (defBody s_add_rule) (defScope s_add_rule) .none kV9 dc9 pm9 an9 cd9 ct9), sl9⟩)
    (c9 : PySem.W.codeIn K cd9 "Desk.add_rule" = true)
    (k9 : PySem.W.keepIn K (.ref f9) = true)
    (a10 : PySem.W.findIn K (.ref C) "add_deed" = some (some (.ref f10)))
    (i10 : PySem.W.isFn K (.ref f10) = true)
    (l10 : K.lookup f10 = some ⟨oc10, od10, .func (PySem.W.fnOf "add_deed" "Desk.add_deed" (defArgs s_add_deed) (defBody s_add_deed) (defScope s_add_deed) .none kV10 dc10 pm10 an10 cd10 ct10), sl10⟩)
    (c10 : PySem.W.codeIn K cd10 "Desk.add_deed" = true)
    (k10 : PySem.W.keepIn K (.ref f10) = true)
    (a11 : PySem.W.findIn K (.ref C) "add_event" = some (some (.ref f11)))
    (i11 : PySem.W.isFn K (.ref f11) = true)
    (l11 : K.lookup f11 = some ⟨oc11, od11, .func (PySem.W.fnOf "add_event" "Desk.add_event" (defArgs s_add_event) (defBody s_add_event) (defScope s_add_event) .none kV11 dc11 pm11 an11 cd11 ct11), sl11⟩)
    (c11 : PySem.W.codeIn K cd11 "Desk.add_event" = true)
    (k11 : PySem.W.keepIn K (.ref f11) = true)
    (a12 : PySem.W.findIn K (.ref C) "set_to" = some (some (.ref f12)))
    (i12 : PySem.W.isFn K (.ref f12) = true)
    (l12 : K.lookup f12 = some ⟨oc12, od12, .func (PySem.W.fnOf "set_to" "Desk.set_to" (defArgs s_set_to) (defBody s_set_to) (defScope s_set_to) .none kV12 dc12 pm12 an12 cd12 ct12), sl12⟩)
    (c12 : PySem.W.codeIn K cd12 "Desk.set_to" = true)
    (k12 : PySem.W.keepIn K (.ref f12) = true)
    (a13 : PySem.W.findIn K (.ref C) "behind_events" = some (some (.ref f13)))
    (i13 : PySem.W.isFn K (.ref f13) = true)
    (l13 : K.lookup f13 = some ⟨oc13, od13, .func (PySem.W.fnOf "behind_events" "Desk.behind_events" (defArgs s_behind_events) (defBody s_behind_events) (defScope s_behind_events) .none kV13 dc13 pm13 an13 cd13 ct13), sl13⟩)
    (c13 : PySem.W.codeIn K cd13 "Desk.behind_events" = true)
    (k13 : PySem.W.keepIn K (.ref f13) = true)
    (a14 : PySem.W.findIn K (.ref C) "waiting" = some (some (.ref f14)))
    (i14 : PySem.W.isFn K (.ref f14) = true)
    (l14 : K.lookup f14 = some ⟨oc14, od14, .func (PySem.W.fnOf "waiting" "Desk.waiting" (defArgs s_waiting) (defBody s_waiting) (defScope s_waiting) .none kV14 dc14 pm14 an14 cd14 ct14), sl14⟩)
    (c14 : PySem.W.codeIn K cd14 "Desk.waiting" = true)
    (k14 : PySem.W.keepIn K (.ref f14) = true)
    (a15 : PySem.W.findIn K (.ref C) "is_choice" = some (some (.ref f15)))
    (i15 : PySem.W.isFn K (.ref f15) = true)
    (l15 : K.lookup f15 = some ⟨oc15, od15, .func (PySem.W.fnOf "is_choice" "Desk.is_choice" (defArgs s_is_choice) (defBody s_is_choice) (defScope s_is_choice) .none kV15 dc15 pm15 an15 cd15 ct15), sl15⟩)
    (c15 : PySem.W.codeIn K cd15 "Desk.is_choice" = true)
    (k15 : PySem.W.keepIn K (.ref f15) = true)
    (a16 : PySem.W.findIn K (.ref C) "can_be_done" = some (some (.ref f16)))
    (i16 : PySem.W.isFn K (.ref f16) = true)
    (l16 : K.lookup f16 = some ⟨oc16, od16, .func (PySem.W.fnOf "can_be_done" "Desk.can_be_done" (defArgs s_can_be_done) (defBody s_can_be_done) (defScope s_can_be_done) .none kV16 dc16 pm16 an16 cd16 ct16), sl16⟩)
    (c16 : PySem.W.codeIn K cd16 "Desk.can_be_done" = true)
    (k16 : PySem.W.keepIn K (.ref f16) = true)
    (a17 : PySem.W.findIn K (.ref C) "behind_choice" = some (some (.ref f17)))
    (i17 : PySem.W.isFn K (.ref f17) = true)
    (l17 : K.lookup f17 = some ⟨oc17, od17, .func (PySem.W.fnOf "behind_choice" "Desk.behind_choice" (defArgs s_behind_choice) (defBody s_behind_choice) (defScope s_behind_choice) .none kV17 dc17 pm17 an17 cd17 ct17), sl17⟩)
    (c17 : PySem.W.codeIn K cd17 "Desk.behind_choice" = true)
    (k17 : PySem.W.keepIn K (.ref f17) = true)
    (a18 : PySem.W.findIn K (.ref C) "behind_waiting" = some (some (.ref f18)))
    (i18 : PySem.W.isFn K (.ref f18) = true)
    (l18 : K.lookup f18 = some ⟨oc18, od18, .func (PySem.W.fnOf "behind_waiting" "Desk.behind_waiting" (defArgs s_behind_waiting) (defBody s_behind_waiting) (defScope s_behind_waiting) .none kV18 dc18 pm18 an18 cd18 ct18), sl18⟩)
    (c18 : PySem.W.codeIn K cd18 "Desk.behind_waiting" = true)
    (k18 : PySem.W.keepIn K (.ref f18) = true)
    (a19 : PySem.W.findIn K (.ref C) "do_deed" = some (some (.ref f19)))
    (i19 : PySem.W.isFn K (.ref f19) = true)
    (l19 : K.lookup f19 = some ⟨oc19, od19, .func (PySem.W.fnOf "do_deed" "Desk.do_deed" (defArgs s_do_deed) (defBody s_do_deed) (defScope s_do_deed) .none kV19 dc19 pm19 an19 cd19 ct19), sl19⟩)
    (c19 : PySem.W.codeIn K cd19 "Desk.do_deed" = true)
    (k19 : PySem.W.keepIn K (.ref f19) = true)
    (a20 : PySem.W.findIn K (.ref C) "wait" = some (some (.ref f20)))
    (i20 : PySem.W.isFn K (.ref f20) = true)
    (l20 : K.lookup f20 = some ⟨oc20, od20, .func (PySem.W.fnOf "wait" "Desk.wait" (defArgs s_wait) (defBody s_wait) (defScope s_wait) .none kV20 dc20 pm20 an20 cd20 ct20), sl20⟩)
    (c20 : PySem.W.codeIn K cd20 "Desk.wait" = true)
    (k20 : PySem.W.keepIn K (.ref f20) = true)
    (a21 : PySem.W.findIn K (.ref C) "by_itself" = some (some (.ref f21)))
    (i21 : PySem.W.isFn K (.ref f21) = true)
    (l21 : K.lookup f21 = some ⟨oc21, od21, .func (PySem.W.fnOf "by_itself" "Desk.by_itself" (defArgs s_by_itself) (defBody s_by_itself) (defScope s_by_itself) .none kV21 dc21 pm21 an21 cd21 ct21), sl21⟩)
    (c21 : PySem.W.codeIn K cd21 "Desk.by_itself" = true)
    (k21 : PySem.W.keepIn K (.ref f21) = true)
    (a22 : PySem.W.findIn K (.ref C) "play" = some (some (.ref f22)))
    (i22 : PySem.W.isFn K (.ref f22) = true)
    (l22 : K.lookup f22 = some ⟨oc22, od22, .func (PySem.W.fnOf "play" "Desk.play" (defArgs s_play) (defBody s_play) (defScope s_play) .none kV22 dc22 pm22 an22 cd22 ct22), sl22⟩)
    (c22 : PySem.W.codeIn K cd22 "Desk.play" = true)
    (k22 : PySem.W.keepIn K (.ref f22) = true)
    (a23 : PySem.W.findIn K (.ref C) "able" = some (some (.ref f23)))
    (i23 : PySem.W.isFn K (.ref f23) = true)
    (l23 : K.lookup f23 = some ⟨oc23, od23, .func (PySem.W.fnOf "able" "Desk.able" (defArgs s_able) (defBody s_able) (defScope s_able) .none kV23 dc23 pm23 an23 cd23 ct23), sl23⟩)
    (c23 : PySem.W.codeIn K cd23 "Desk.able" = true)
    (k23 : PySem.W.keepIn K (.ref f23) = true)
    (a24 : PySem.W.nsIn K mainGlobals "shortest_rows" = some (some (.ref f24)))
    (l24 : K.lookup f24 = some ⟨oc24, od24, .func (PySem.W.fnOf "shortest_rows" "shortest_rows" (defArgs s_shortest_rows) (defBody s_shortest_rows) (defScope s_shortest_rows) .none kV24 dc24 pm24 an24 cd24 ct24), sl24⟩)
    (c24 : PySem.W.codeIn K cd24 "shortest_rows" = true)
    (k24 : PySem.W.keepIn K (.ref f24) = true)
    (a25 : PySem.W.nsIn K mainGlobals "counted" = some (some (.ref f25)))
    (l25 : K.lookup f25 = some ⟨oc25, od25, .func (PySem.W.fnOf "counted" "counted" (defArgs s_counted) (defBody s_counted) (defScope s_counted) .none kV25 dc25 pm25 an25 cd25 ct25), sl25⟩)
    (c25 : PySem.W.codeIn K cd25 "counted" = true)
    (k25 : PySem.W.keepIn K (.ref f25) = true)
    (a26 : PySem.W.nsIn K mainGlobals "reached" = some (some (.ref f26)))
    (l26 : K.lookup f26 = some ⟨oc26, od26, .func (PySem.W.fnOf "reached" "reached" (defArgs s_reached) (defBody s_reached) (defScope s_reached) .none kV26 dc26 pm26 an26 cd26 ct26), sl26⟩)
    (c26 : PySem.W.codeIn K cd26 "reached" = true)
    (k26 : PySem.W.keepIn K (.ref f26) = true)
    (a27 : PySem.W.nsIn K mainGlobals "is_aim" = some (some (.ref f27)))
    (l27 : K.lookup f27 = some ⟨oc27, od27, .func (PySem.W.fnOf "is_aim" "is_aim" (defArgs s_is_aim) (defBody s_is_aim) (defScope s_is_aim) .none kV27 dc27 pm27 an27 cd27 ct27), sl27⟩)
    (c27 : PySem.W.codeIn K cd27 "is_aim" = true)
    (k27 : PySem.W.keepIn K (.ref f27) = true)
    (a28 : PySem.W.nsIn K mainGlobals "row_to_aim" = some (some (.ref f28)))
    (l28 : K.lookup f28 = some ⟨oc28, od28, .func (PySem.W.fnOf "row_to_aim" "row_to_aim" (defArgs s_row_to_aim) (defBody s_row_to_aim) (defScope s_row_to_aim) .none kV28 dc28 pm28 an28 cd28 ct28), sl28⟩)
    (c28 : PySem.W.codeIn K cd28 "row_to_aim" = true)
    (k28 : PySem.W.keepIn K (.ref f28) = true)
    (a29 : PySem.W.nsIn K mainGlobals "fewest_steps" = some (some (.ref f29)))
    (l29 : K.lookup f29 = some ⟨oc29, od29, .func (PySem.W.fnOf "fewest_steps" "fewest_steps" (defArgs s_fewest_steps) (defBody s_fewest_steps) (defScope s_fewest_steps) .none kV29 dc29 pm29 an29 cd29 ct29), sl29⟩)
    (c29 : PySem.W.codeIn K cd29 "fewest_steps" = true)
    (k29 : PySem.W.keepIn K (.ref f29) = true)
    (a30 : PySem.W.nsIn K mainGlobals "can_be" = some (some (.ref f30)))
    (l30 : K.lookup f30 = some ⟨oc30, od30, .func (PySem.W.fnOf "can_be" "can_be" (defArgs s_can_be) (defBody s_can_be) (defScope s_can_be) .none kV30 dc30 pm30 an30 cd30 ct30), sl30⟩)
    (c30 : PySem.W.codeIn K cd30 "can_be" = true)
    (k30 : PySem.W.keepIn K (.ref f30) = true)
    (a31 : PySem.W.nsIn K mainGlobals "refused_choice" = some (some (.ref f31)))
    (l31 : K.lookup f31 = some ⟨oc31, od31, .func (PySem.W.fnOf "refused_choice" "refused_choice" (defArgs s_refused_choice) (defBody s_refused_choice) (defScope s_refused_choice) .none kV31 dc31 pm31 an31 cd31 ct31), sl31⟩)
    (c31 : PySem.W.codeIn K cd31 "refused_choice" = true)
    (k31 : PySem.W.keepIn K (.ref f31) = true)
    (a32 : PySem.W.nsIn K mainGlobals "row_back" = some (some (.ref f32)))
    (l32 : K.lookup f32 = some ⟨oc32, od32, .func (PySem.W.fnOf "row_back" "row_back" (defArgs s_row_back) (defBody s_row_back) (defScope s_row_back) .none kV32 dc32 pm32 an32 cd32 ct32), sl32⟩)
    (c32 : PySem.W.codeIn K cd32 "row_back" = true)
    (k32 : PySem.W.keepIn K (.ref f32) = true)
    (a33 : PySem.W.nsIn K mainGlobals "lost_by" = some (some (.ref f33)))
    (l33 : K.lookup f33 = some ⟨oc33, od33, .func (PySem.W.fnOf "lost_by" "lost_by" (defArgs s_lost_by) (defBody s_lost_by) (defScope s_lost_by) .none kV33 dc33 pm33 an33 cd33 ct33), sl33⟩)
    (c33 : PySem.W.codeIn K cd33 "lost_by" = true)
    (k33 : PySem.W.keepIn K (.ref f33) = true)
    (a34 : PySem.W.nsIn K mainGlobals "settled_facts" = some (some (.ref f34)))
    (l34 : K.lookup f34 = some ⟨oc34, od34, .func (PySem.W.fnOf "settled_facts" "settled_facts" (defArgs s_settled_facts) (defBody s_settled_facts) (defScope s_settled_facts) .none kV34 dc34 pm34 an34 cd34 ct34), sl34⟩)
    (c34 : PySem.W.codeIn K cd34 "settled_facts" = true)
    (k34 : PySem.W.keepIn K (.ref f34) = true)
    (a35 : PySem.W.nsIn K mainGlobals "is_ever_met" = some (some (.ref f35)))
    (l35 : K.lookup f35 = some ⟨oc35, od35, .func (PySem.W.fnOf "is_ever_met" "is_ever_met" (defArgs s_is_ever_met) (defBody s_is_ever_met) (defScope s_is_ever_met) .none kV35 dc35 pm35 an35 cd35 ct35), sl35⟩)
    (c35 : PySem.W.codeIn K cd35 "is_ever_met" = true)
    (k35 : PySem.W.keepIn K (.ref f35) = true)
    (a36 : PySem.W.nsIn K mainGlobals "never_done" = some (some (.ref f36)))
    (l36 : K.lookup f36 = some ⟨oc36, od36, .func (PySem.W.fnOf "never_done" "never_done" (defArgs s_never_done) (defBody s_never_done) (defScope s_never_done) .none kV36 dc36 pm36 an36 cd36 ct36), sl36⟩)
    (c36 : PySem.W.codeIn K cd36 "never_done" = true)
    (k36 : PySem.W.keepIn K (.ref f36) = true)
    (a37 : PySem.W.nsIn K mainGlobals "answer_over_rules" = some (some (.ref f37)))
    (l37 : K.lookup f37 = some ⟨oc37, od37, .func (PySem.W.fnOf "answer_over_rules" "answer_over_rules" (defArgs s_answer_over_rules) (defBody s_answer_over_rules) (defScope s_answer_over_rules) .none kV37 dc37 pm37 an37 cd37 ct37), sl37⟩)
    (c37 : PySem.W.codeIn K cd37 "answer_over_rules" = true)
    (k37 : PySem.W.keepIn K (.ref f37) = true)
    (a38 : PySem.W.nsIn K mainGlobals "answer_over_steps" = some (some (.ref f38)))
    (l38 : K.lookup f38 = some ⟨oc38, od38, .func (PySem.W.fnOf "answer_over_steps" "answer_over_steps" (defArgs s_answer_over_steps) (defBody s_answer_over_steps) (defScope s_answer_over_steps) .none kV38 dc38 pm38 an38 cd38 ct38), sl38⟩)
    (c38 : PySem.W.codeIn K cd38 "answer_over_steps" = true)
    (k38 : PySem.W.keepIn K (.ref f38) = true)
    (a39 : PySem.W.nsIn K mainGlobals "answer_over_rows" = some (some (.ref f39)))
    (l39 : K.lookup f39 = some ⟨oc39, od39, .func (PySem.W.fnOf "answer_over_rows" "answer_over_rows" (defArgs s_answer_over_rows) (defBody s_answer_over_rows) (defScope s_answer_over_rows) .none kV39 dc39 pm39 an39 cd39 ct39), sl39⟩)
    (c39 : PySem.W.codeIn K cd39 "answer_over_rows" = true)
    (k39 : PySem.W.keepIn K (.ref f39) = true)
    (a40 : PySem.W.nsIn K mainGlobals "answer_of" = some (some (.ref f40)))
    (l40 : K.lookup f40 = some ⟨oc40, od40, .func (PySem.W.fnOf "answer_of" "answer_of" (defArgs s_answer_of) (defBody s_answer_of) (defScope s_answer_of) .none kV40 dc40 pm40 an40 cd40 ct40), sl40⟩)
    (c40 : PySem.W.codeIn K cd40 "answer_of" = true)
    (k40 : PySem.W.keepIn K (.ref f40) = true)
    (a41 : PySem.W.nsIn K mainGlobals "answers" = some (some (.ref f41)))
    (l41 : K.lookup f41 = some ⟨oc41, od41, .func (PySem.W.fnOf "answers" "answers" (defArgs s_answers) (defBody s_answers) (defScope s_answers) .none kV41 dc41 pm41 an41 cd41 ct41), sl41⟩)
    (c41 : PySem.W.codeIn K cd41 "answers" = true)
    (k41 : PySem.W.keepIn K (.ref f41) = true)
    (pg : PySem.W.plainGet K C Str.empty = true)
    (hd : PySem.W.hasDictIn K C = true)
    (po : PySem.W.plainOver K C = true)
    (sa : PySem.W.findIn K (.ref C) "__setattr__" = some (some (.builtin "object.__setattr__")))
    (mk : PySem.W.makesIn K C = true)
    (kc : PySem.W.keepIn K (.ref C) = true)
    (n_begun : PySem.W.findIn K (.ref C) "begun" = some none)
    (n_all_facts : PySem.W.findIn K (.ref C) "all_facts" = some none)
    (n_state : PySem.W.findIn K (.ref C) "state" = some none)
    (n_deeds : PySem.W.findIn K (.ref C) "deeds" = some none)
    (n_events : PySem.W.findIn K (.ref C) "events" = some none)
    (v0 : PySem.W.nsIn K mainGlobals "LEAST_FACTS" = some (some (.int (2) t0)))
    (v1 : PySem.W.nsIn K mainGlobals "MOST_FACTS" = some (some (.int (5) t1)))
    (v2 : PySem.W.nsIn K mainGlobals "MOST_DEEDS" = some (some (.int (6) t2)))
    (v3 : PySem.W.nsIn K mainGlobals "MOST_EVENTS" = some (some (.int (3) t3)))
    (v4 : PySem.W.nsIn K mainGlobals "MOST_STEPS" = some (some (.int (40) t4)))
    (v5 : PySem.W.nsIn K mainGlobals "NO_SUCH" = some (some (.int (-2) t5)))
    (v6 : PySem.W.nsIn K mainGlobals "NEED_NOT_SO" = some (some (.int (-6) t6)))
    (v7 : PySem.W.nsIn K mainGlobals "NOT_AS_TOLD" = some (some (.int (-22) t7)))
    (v8 : PySem.W.nsIn K mainGlobals "NO_ROOM" = some (some (.int (-28) t8)))
    (v9 : PySem.W.nsIn K mainGlobals "CAN_NOT_COME" = some (some (.int (-33) t9)))
    (v10 : PySem.W.nsIn K mainGlobals "BEGIN" = some (some (.int (0) t10)))
    (v11 : PySem.W.nsIn K mainGlobals "DEED" = some (some (.int (1) t11)))
    (v12 : PySem.W.nsIn K mainGlobals "EVENT" = some (some (.int (2) t12)))
    (v13 : PySem.W.nsIn K mainGlobals "UNDEED" = some (some (.int (3) t13)))
    (v14 : PySem.W.nsIn K mainGlobals "UNEVENT" = some (some (.int (4) t14)))
    (v15 : PySem.W.nsIn K mainGlobals "DEEDIS" = some (some (.int (5) t15)))
    (v16 : PySem.W.nsIn K mainGlobals "EVENTIS" = some (some (.int (6) t16)))
    (v17 : PySem.W.nsIn K mainGlobals "SET_TO" = some (some (.int (7) t17)))
    (v18 : PySem.W.nsIn K mainGlobals "NOW" = some (some (.int (8) t18)))
    (v19 : PySem.W.nsIn K mainGlobals "ABLE" = some (some (.int (9) t19)))
    (v20 : PySem.W.nsIn K mainGlobals "DO" = some (some (.int (10) t20)))
    (v21 : PySem.W.nsIn K mainGlobals "WAIT" = some (some (.int (11) t21)))
    (v22 : PySem.W.nsIn K mainGlobals "REACH" = some (some (.int (12) t22)))
    (v23 : PySem.W.nsIn K mainGlobals "CANBE" = some (some (.int (13) t23)))
    (v24 : PySem.W.nsIn K mainGlobals "FEWEST" = some (some (.int (14) t24)))
    (v25 : PySem.W.nsIn K mainGlobals "ROW" = some (some (.int (15) t25)))
    (v26 : PySem.W.nsIn K mainGlobals "UNDO" = some (some (.int (16) t26)))
    (v27 : PySem.W.nsIn K mainGlobals "LOST" = some (some (.int (17) t27)))
    (v28 : PySem.W.nsIn K mainGlobals "SETTLED" = some (some (.int (18) t28)))
    (v29 : PySem.W.nsIn K mainGlobals "NEVER" = some (some (.int (19) t29)))
    (v30 : PySem.W.nsIn K mainGlobals "BYITSELF" = some (some (.int (20) t30)))
    (v31 : PySem.W.nsIn K mainGlobals "NOT_BEGUN" = some (some (.int (-11) t31)))
    (b_any : PySem.W.nsIn K mainGlobals "any" = some none)
    (b_len : PySem.W.nsIn K mainGlobals "len" = some none)
    (b_list : PySem.W.nsIn K mainGlobals "list" = some none)
    (b_range : PySem.W.nsIn K mainGlobals "range" = some none)
    (b_sorted : PySem.W.nsIn K mainGlobals "sorted" = some none)
    (b_tuple : PySem.W.nsIn K mainGlobals "tuple" = some none)
    : ∃ fd : FuncData, (∀ (s : Shared) (us : List Value), us.length = (["calls"] : List Str).length → BindsTo s fd ⟨us, []⟩ ((["calls"] : List Str).zip us)) ∧ ∀ base : Heap, K.In base → base.Ns mainGlobals mg → FnOk P w K mg base CX0 9 fa fd ["calls"] (sp_fin K) := by
  have e := hfa.symm.trans (PySem.W.mg_of X G a41)
  cases e
  have T : Txt K mg C := ⟨⟨pg, hd, po, sa⟩, n_begun, n_all_facts, n_state, n_deeds, n_events, ⟨_, PySem.W.mg_of X G v0⟩, ⟨_, PySem.W.mg_of X G v1⟩, ⟨_, PySem.W.mg_of X G v2⟩, ⟨_, PySem.W.mg_of X G v3⟩, ⟨_, PySem.W.mg_of X G v4⟩, ⟨_, PySem.W.mg_of X G v5⟩, ⟨_, PySem.W.mg_of X G v6⟩, ⟨_, PySem.W.mg_of X G v7⟩, ⟨_, PySem.W.mg_of X G v8⟩, ⟨_, PySem.W.mg_of X G v9⟩, ⟨_, PySem.W.mg_of X G v10⟩, ⟨_, PySem.W.mg_of X G v11⟩, ⟨_, PySem.W.mg_of X G v12⟩, ⟨_, PySem.W.mg_of X G v13⟩, ⟨_, PySem.W.mg_of X G v14⟩, ⟨_, PySem.W.mg_of X G v15⟩, ⟨_, PySem.W.mg_of X G v16⟩, ⟨_, PySem.W.mg_of X G v17⟩, ⟨_, PySem.W.mg_of X G v18⟩, ⟨_, PySem.W.mg_of X G v19⟩, ⟨_, PySem.W.mg_of X G v20⟩, ⟨_, PySem.W.mg_of X G v21⟩, ⟨_, PySem.W.mg_of X G v22⟩, ⟨_, PySem.W.mg_of X G v23⟩, ⟨_, PySem.W.mg_of X G v24⟩, ⟨_, PySem.W.mg_of X G v25⟩, ⟨_, PySem.W.mg_of X G v26⟩, ⟨_, PySem.W.mg_of X G v27⟩, ⟨_, PySem.W.mg_of X G v28⟩, ⟨_, PySem.W.mg_of X G v29⟩, ⟨_, PySem.W.mg_of X G v30⟩, ⟨_, PySem.W.mg_of X G v31⟩, PySem.W.mg_none_of X G b_any, PySem.W.mg_none_of X G b_len, PySem.W.mg_none_of X G b_list, PySem.W.mg_none_of X G b_range, PySem.W.mg_none_of X G b_sorted, PySem.W.mg_none_of X G b_tuple⟩
  have F0 := fun_mk (st := s_is_within) l0 c0 k0
  have b0 := F0.binds (ps := ["part", "whole"]) fun _ _ _ _ _ _ us hl => match us, hl with | [_, _], _ => rfl
  have F1 := fun_mk (st := s_is_met) l1 c1 k1
  have b1 := F1.binds (ps := ["rule", "state"]) fun _ _ _ _ _ _ us hl => match us, hl with | [_, _], _ => rfl
  have F2 := fun_mk (st := s_made_by) l2 c2 k2
  have b2 := F2.binds (ps := ["rule", "state"]) fun _ _ _ _ _ _ us hl => match us, hl with | [_, _], _ => rfl
  have F3 := fun_mk (st := s_is_rule) l3 c3 k3
  have b3 := F3.binds (ps := ["rule", "all_facts"]) fun _ _ _ _ _ _ us hl => match us, hl with | [_, _], _ => rfl
  have F4 := fun_mk (st := s_take_out) l4 c4 k4
  have b4 := F4.binds (ps := ["rules", "i"]) fun _ _ _ _ _ _ us hl => match us, hl with | [_, _], _ => rfl
  have F5 := fun_mk (st := s_told_rule) l5 c5 k5
  have b5 := F5.binds (ps := ["rules", "i"]) fun _ _ _ _ _ _ us hl => match us, hl with | [_, _], _ => rfl
  have F6 := fun_mk (st := s_clear_for) l6 c6 k6
  have b6 := F6.binds (ps := ["self", "many"]) fun _ _ _ _ _ _ us hl => match us, hl with | [_, _], _ => rfl
  have F7 := fun_mk (st := s___init__) l7 c7 k7
  have b7 := F7.binds (ps := ["self"]) fun _ _ _ _ _ _ us hl => match us, hl with | [_], _ => rfl
  have F8 := fun_mk (st := s_begin) l8 c8 k8
  have b8 := F8.binds (ps := ["self", "many"]) fun _ _ _ _ _ _ us hl => match us, hl with | [_, _], _ => rfl
  have F9 := fun_mk (st := s_add_rule) l9 c9 k9
  have b9 := F9.binds (ps := ["self", "rules", "most", "rule"]) fun _ _ _ _ _ _ us hl => match us, hl with | [_, _, _, _], _ => rfl
  have F10 := fun_mk (st := s_add_deed) l10 c10 k10
  have b10 := F10.binds (ps := ["self", "rule"]) fun _ _ _ _ _ _ us hl => match us, hl with | [_, _], _ => rfl
  have F11 := fun_mk (st := s_add_event) l11 c11 k11
  have b11 := F11.binds (ps := ["self", "rule"]) fun _ _ _ _ _ _ us hl => match us, hl with | [_, _], _ => rfl
  have F12 := fun_mk (st := s_set_to) l12 c12 k12
  have b12 := F12.binds (ps := ["self", "state"]) fun _ _ _ _ _ _ us hl => match us, hl with | [_, _], _ => rfl
  have F13 := fun_mk (st := s_behind_events) l13 c13 k13
  have b13 := F13.binds (ps := ["self", "state"]) fun _ _ _ _ _ _ us hl => match us, hl with | [_, _], _ => rfl
  have F14 := fun_mk (st := s_waiting) l14 c14 k14
  have b14 := F14.binds (ps := ["self"]) fun _ _ _ _ _ _ us hl => match us, hl with | [_], _ => rfl
  have F15 := fun_mk (st := s_is_choice) l15 c15 k15
  have b15 := F15.binds (ps := ["self", "choice"]) fun _ _ _ _ _ _ us hl => match us, hl with | [_, _], _ => rfl
  have F16 := fun_mk (st := s_can_be_done) l16 c16 k16
  have b16 := F16.binds (ps := ["self", "choice", "state"]) fun _ _ _ _ _ _ us hl => match us, hl with | [_, _, _], _ => rfl
  have F17 := fun_mk (st := s_behind_choice) l17 c17 k17
  have b17 := F17.binds (ps := ["self", "choice", "state"]) fun _ _ _ _ _ _ us hl => match us, hl with | [_, _, _], _ => rfl
  have F18 := fun_mk (st := s_behind_waiting) l18 c18 k18
  have b18 := F18.binds (ps := ["self", "steps"]) fun _ _ _ _ _ _ us hl => match us, hl with | [_, _], _ => rfl
  have F19 := fun_mk (st := s_do_deed) l19 c19 k19
  have b19 := F19.binds (ps := ["self", "i"]) fun _ _ _ _ _ _ us hl => match us, hl with | [_, _], _ => rfl
  have F20 := fun_mk (st := s_wait) l20 c20 k20
  have b20 := F20.binds (ps := ["self", "steps"]) fun _ _ _ _ _ _ us hl => match us, hl with | [_, _], _ => rfl
  have F21 := fun_mk (st := s_by_itself) l21 c21 k21
  have b21 := F21.binds (ps := ["self", "steps"]) fun _ _ _ _ _ _ us hl => match us, hl with | [_, _], _ => rfl
  have F22 := fun_mk (st := s_play) l22 c22 k22
  have b22 := F22.binds (ps := ["self", "choices"]) fun _ _ _ _ _ _ us hl => match us, hl with | [_, _], _ => rfl
  have F23 := fun_mk (st := s_able) l23 c23 k23
  have b23 := F23.binds (ps := ["self"]) fun _ _ _ _ _ _ us hl => match us, hl with | [_], _ => rfl
  have F24 := fun_mk (st := s_shortest_rows) l24 c24 k24
  have b24 := F24.binds (ps := ["desk", "start"]) fun _ _ _ _ _ _ us hl => match us, hl with | [_, _], _ => rfl
  have F25 := fun_mk (st := s_counted) l25 c25 k25
  have b25 := F25.binds (ps := ["found"]) fun _ _ _ _ _ _ us hl => match us, hl with | [_], _ => rfl
  have F26 := fun_mk (st := s_reached) l26 c26 k26
  have b26 := F26.binds (ps := ["desk"]) fun _ _ _ _ _ _ us hl => match us, hl with | [_], _ => rfl
  have F27 := fun_mk (st := s_is_aim) l27 c27 k27
  have b27 := F27.binds (ps := ["aim", "all_facts"]) fun _ _ _ _ _ _ us hl => match us, hl with | [_, _], _ => rfl
  have F28 := fun_mk (st := s_row_to_aim) l28 c28 k28
  have b28 := F28.binds (ps := ["desk", "aim"]) fun _ _ _ _ _ _ us hl => match us, hl with | [_, _], _ => rfl
  have F29 := fun_mk (st := s_fewest_steps) l29 c29 k29
  have b29 := F29.binds (ps := ["desk", "aim"]) fun _ _ _ _ _ _ us hl => match us, hl with | [_, _], _ => rfl
  have F30 := fun_mk (st := s_can_be) l30 c30 k30
  have b30 := F30.binds (ps := ["desk", "aim"]) fun _ _ _ _ _ _ us hl => match us, hl with | [_, _], _ => rfl
  have F31 := fun_mk (st := s_refused_choice) l31 c31 k31
  have b31 := F31.binds (ps := ["desk", "choice"]) fun _ _ _ _ _ _ us hl => match us, hl with | [_, _], _ => rfl
  have F32 := fun_mk (st := s_row_back) l32 c32 k32
  have b32 := F32.binds (ps := ["desk", "choice"]) fun _ _ _ _ _ _ us hl => match us, hl with | [_, _], _ => rfl
  have F33 := fun_mk (st := s_lost_by) l33 c33 k33
  have b33 := F33.binds (ps := ["desk", "choice"]) fun _ _ _ _ _ _ us hl => match us, hl with | [_, _], _ => rfl
  have F34 := fun_mk (st := s_settled_facts) l34 c34 k34
  have b34 := F34.binds (ps := ["desk"]) fun _ _ _ _ _ _ us hl => match us, hl with | [_], _ => rfl
  have F35 := fun_mk (st := s_is_ever_met) l35 c35 k35
  have b35 := F35.binds (ps := ["rule", "states"]) fun _ _ _ _ _ _ us hl => match us, hl with | [_, _], _ => rfl
  have F36 := fun_mk (st := s_never_done) l36 c36 k36
  have b36 := F36.binds (ps := ["desk"]) fun _ _ _ _ _ _ us hl => match us, hl with | [_], _ => rfl
  have F37 := fun_mk (st := s_answer_over_rules) l37 c37 k37
  have b37 := F37.binds (ps := ["desk", "call", "given"]) fun _ _ _ _ _ _ us hl => match us, hl with | [_, _, _], _ => rfl
  have F38 := fun_mk (st := s_answer_over_steps) l38 c38 k38
  have b38 := F38.binds (ps := ["desk", "call", "given"]) fun _ _ _ _ _ _ us hl => match us, hl with | [_, _, _], _ => rfl
  have F39 := fun_mk (st := s_answer_over_rows) l39 c39 k39
  have b39 := F39.binds (ps := ["desk", "call", "given"]) fun _ _ _ _ _ _ us hl => match us, hl with | [_, _, _], _ => rfl
  have F40 := fun_mk (st := s_answer_of) l40 c40 k40
  have b40 := F40.binds (ps := ["desk", "call", "given"]) fun _ _ _ _ _ _ us hl => match us, hl with | [_, _, _], _ => rfl
  have F41 := fun_mk (st := s_answers) l41 c41 k41
  refine ⟨PySem.W.fnOf "answers" "answers" (defArgs s_answers) (defBody s_answers) (defScope s_answers) .none kV41 dc41 pm41 an41 cd41 ct41, fun s us hu => match us, hu with | [_], _ => .of_eq rfl, fun base _ _ => ?_⟩
  have q0 : FnOk P w K mg base CX0 1 f0 _ ["part", "whole"] (sp_is_within) := ok_is_within F0 T 
  have r_is_within : Cal P w K mg base 1 "is_within" ["part", "whole"] (sp_is_within) := ⟨f0, _, PySem.W.mg_of X G a0, k0, b0, q0⟩
  have q1 : FnOk P w K mg base CX0 1 f1 _ ["rule", "state"] (sp_is_met) := ok_is_met F1 T 
  have r_is_met : Cal P w K mg base 1 "is_met" ["rule", "state"] (sp_is_met) := ⟨f1, _, PySem.W.mg_of X G a1, k1, b1, q1⟩
  have q2 : FnOk P w K mg base CX0 1 f2 _ ["rule", "state"] (sp_made_by) := ok_made_by F2 T 
  have r_made_by : Cal P w K mg base 1 "made_by" ["rule", "state"] (sp_made_by) := ⟨f2, _, PySem.W.mg_of X G a2, k2, b2, q2⟩
  have q3 : FnOk P w K mg base CX0 2 f3 _ ["rule", "all_facts"] (sp_is_rule) := ok_is_rule F3 T r_is_within
  have r_is_rule : Cal P w K mg base 2 "is_rule" ["rule", "all_facts"] (sp_is_rule) := ⟨f3, _, PySem.W.mg_of X G a3, k3, b3, q3⟩
  have q4 : FnOk P w K mg base CX0 1 f4 _ ["rules", "i"] (sp_take_out) := ok_take_out F4 T 
  have r_take_out : Cal P w K mg base 1 "take_out" ["rules", "i"] (sp_take_out) := ⟨f4, _, PySem.W.mg_of X G a4, k4, b4, q4⟩
  have q5 : FnOk P w K mg base CX0 1 f5 _ ["rules", "i"] (sp_told_rule) := ok_told_rule F5 T 
  have r_told_rule : Cal P w K mg base 1 "told_rule" ["rules", "i"] (sp_told_rule) := ⟨f5, _, PySem.W.mg_of X G a5, k5, b5, q5⟩
  have q6 : FnOk P w K mg base CX0 1 f6 _ ["self", "many"] (sp_clear_for C) := ok_clear_for F6 T 
  have r_clear_for : Met P w K mg base C 1 "clear_for" ["self", "many"] (sp_clear_for C) := ⟨f6, _, ⟨a6, i6, k6⟩, b6, q6⟩
  have q7 : FnOk P w K mg base CX0 2 f7 _ ["self"] (sp_init C) := ok___init__ F7 T r_clear_for
  have r_CDesk : Mak P w K mg base C 2 "Desk" ["self"] (sp_init C) := ⟨f7, _, ⟨mk, a7, i7, kc⟩, PySem.W.mg_of X G aC, b7, q7⟩
  have q8 : FnOk P w K mg base CX0 2 f8 _ ["self", "many"] (sp_op1 C opBegin) := ok_begin F8 T r_clear_for
  have r_begin : Met P w K mg base C 2 "begin" ["self", "many"] (sp_op1 C opBegin) := ⟨f8, _, ⟨a8, i8, k8⟩, b8, q8⟩
  have q9 : FnOk P w K mg base CX0 3 f9 _ ["self", "rules", "most", "rule"] (sp_add_rule C) := ok_add_rule F9 T r_is_rule
  have r_add_rule : Met P w K mg base C 3 "add_rule" ["self", "rules", "most", "rule"] (sp_add_rule C) := ⟨f9, _, ⟨a9, i9, k9⟩, b9, q9⟩
  have q10 : FnOk P w K mg base CX0 4 f10 _ ["self", "rule"] (sp_opR C opDeed) := ok_add_deed F10 T r_add_rule
  have r_add_deed : Met P w K mg base C 4 "add_deed" ["self", "rule"] (sp_opR C opDeed) := ⟨f10, _, ⟨a10, i10, k10⟩, b10, q10⟩
  have q11 : FnOk P w K mg base CX0 4 f11 _ ["self", "rule"] (sp_opR C opEvent) := ok_add_event F11 T r_add_rule
  have r_add_event : Met P w K mg base C 4 "add_event" ["self", "rule"] (sp_opR C opEvent) := ⟨f11, _, ⟨a11, i11, k11⟩, b11, q11⟩
  have q12 : FnOk P w K mg base CX0 2 f12 _ ["self", "state"] (sp_op1 C opSet) := ok_set_to F12 T r_is_within
  have r_set_to : Met P w K mg base C 2 "set_to" ["self", "state"] (sp_op1 C opSet) := ⟨f12, _, ⟨a12, i12, k12⟩, b12, q12⟩
  have q13 : FnOk P w K mg base CX0 2 f13 _ ["self", "state"] (sp_behind_events C) := ok_behind_events F13 T r_is_met r_made_by
  have r_behind_events : Met P w K mg base C 2 "behind_events" ["self", "state"] (sp_behind_events C) := ⟨f13, _, ⟨a13, i13, k13⟩, b13, q13⟩
  have q14 : FnOk P w K mg base CX0 1 f14 _ ["self"] (sp_waiting C) := ok_waiting F14 T 
  have r_waiting : Met P w K mg base C 1 "waiting" ["self"] (sp_waiting C) := ⟨f14, _, ⟨a14, i14, k14⟩, b14, q14⟩
  have q15 : FnOk P w K mg base CX0 2 f15 _ ["self", "choice"] (sp_is_choice C) := ok_is_choice F15 T r_waiting
  have r_is_choice : Met P w K mg base C 2 "is_choice" ["self", "choice"] (sp_is_choice C) := ⟨f15, _, ⟨a15, i15, k15⟩, b15, q15⟩
  have q16 : FnOk P w K mg base CX0 2 f16 _ ["self", "choice", "state"] (sp_can_be_done C) := ok_can_be_done F16 T r_is_met r_waiting
  have r_can_be_done : Met P w K mg base C 2 "can_be_done" ["self", "choice", "state"] (sp_can_be_done C) := ⟨f16, _, ⟨a16, i16, k16⟩, b16, q16⟩
  have q17 : FnOk P w K mg base CX0 3 f17 _ ["self", "choice", "state"] (sp_behind_choice C) := ok_behind_choice F17 T r_behind_events r_waiting r_made_by
  have r_behind_choice : Met P w K mg base C 3 "behind_choice" ["self", "choice", "state"] (sp_behind_choice C) := ⟨f17, _, ⟨a17, i17, k17⟩, b17, q17⟩
  have q18 : FnOk P w K mg base CX0 4 f18 _ ["self", "steps"] (sp_behind_waiting C) := ok_behind_waiting F18 T r_behind_choice r_waiting
  have r_behind_waiting : Met P w K mg base C 4 "behind_waiting" ["self", "steps"] (sp_behind_waiting C) := ⟨f18, _, ⟨a18, i18, k18⟩, b18, q18⟩
  have q19 : FnOk P w K mg base CX0 4 f19 _ ["self", "i"] (sp_op1 C opDo) := ok_do_deed F19 T r_behind_choice r_can_be_done
  have r_do_deed : Met P w K mg base C 4 "do_deed" ["self", "i"] (sp_op1 C opDo) := ⟨f19, _, ⟨a19, i19, k19⟩, b19, q19⟩
  have q20 : FnOk P w K mg base CX0 5 f20 _ ["self", "steps"] (sp_op1 C opWait) := ok_wait F20 T r_behind_waiting
  have r_wait : Met P w K mg base C 5 "wait" ["self", "steps"] (sp_op1 C opWait) := ⟨f20, _, ⟨a20, i20, k20⟩, b20, q20⟩
  have q21 : FnOk P w K mg base CX0 5 f21 _ ["self", "steps"] (sp_op1 C opBy) := ok_by_itself F21 T r_behind_waiting
  have r_by_itself : Met P w K mg base C 5 "by_itself" ["self", "steps"] (sp_op1 C opBy) := ⟨f21, _, ⟨a21, i21, k21⟩, b21, q21⟩
  have q22 : FnOk P w K mg base CX0 4 f22 _ ["self", "choices"] (sp_play C) := ok_play F22 T r_behind_choice r_is_choice r_can_be_done
  have r_play : Met P w K mg base C 4 "play" ["self", "choices"] (sp_play C) := ⟨f22, _, ⟨a22, i22, k22⟩, b22, q22⟩
  have q23 : FnOk P w K mg base CX0 2 f23 _ ["self"] (sp_op0 C opAble) := ok_able F23 T r_is_met
  have r_able : Met P w K mg base C 2 "able" ["self"] (sp_op0 C opAble) := ⟨f23, _, ⟨a23, i23, k23⟩, b23, q23⟩
  have q24 : FnOk P w K mg base CX0 4 f24 _ ["desk", "start"] (sp_shortest_rows C) := ok_shortest_rows F24 T r_can_be_done r_waiting r_behind_choice
  have r_shortest_rows : Cal P w K mg base 4 "shortest_rows" ["desk", "start"] (sp_shortest_rows C) := ⟨f24, _, PySem.W.mg_of X G a24, k24, b24, q24⟩
  have q25 : FnOk P w K mg base CX0 1 f25 _ ["found"] (sp_counted) := ok_counted F25 T 
  have r_counted : Cal P w K mg base 1 "counted" ["found"] (sp_counted) := ⟨f25, _, PySem.W.mg_of X G a25, k25, b25, q25⟩
  have q26 : FnOk P w K mg base CX0 5 f26 _ ["desk"] (sp_read0 C (fun m => (opReach m).2)) := ok_reached F26 T r_counted r_shortest_rows
  have r_reached : Cal P w K mg base 5 "reached" ["desk"] (sp_read0 C (fun m => (opReach m).2)) := ⟨f26, _, PySem.W.mg_of X G a26, k26, b26, q26⟩
  have q27 : FnOk P w K mg base CX0 2 f27 _ ["aim", "all_facts"] (sp_is_aim) := ok_is_aim F27 T r_is_within
  have r_is_aim : Cal P w K mg base 2 "is_aim" ["aim", "all_facts"] (sp_is_aim) := ⟨f27, _, PySem.W.mg_of X G a27, k27, b27, q27⟩
  have q28 : FnOk P w K mg base CX0 5 f28 _ ["desk", "aim"] (sp_aim C (fun m a b => (opRow m a b).2)) := ok_row_to_aim F28 T r_shortest_rows r_is_aim r_is_met r_counted
  have r_row_to_aim : Cal P w K mg base 5 "row_to_aim" ["desk", "aim"] (sp_aim C (fun m a b => (opRow m a b).2)) := ⟨f28, _, PySem.W.mg_of X G a28, k28, b28, q28⟩
  have q29 : FnOk P w K mg base CX0 6 f29 _ ["desk", "aim"] (sp_aim C (fun m a b => (opFewest m a b).2)) := ok_fewest_steps F29 T r_row_to_aim
  have r_fewest_steps : Cal P w K mg base 6 "fewest_steps" ["desk", "aim"] (sp_aim C (fun m a b => (opFewest m a b).2)) := ⟨f29, _, PySem.W.mg_of X G a29, k29, b29, q29⟩
  have q30 : FnOk P w K mg base CX0 6 f30 _ ["desk", "aim"] (sp_aim C (fun m a b => (opCanbe m a b).2)) := ok_can_be F30 T r_row_to_aim
  have r_can_be : Cal P w K mg base 6 "can_be" ["desk", "aim"] (sp_aim C (fun m a b => (opCanbe m a b).2)) := ⟨f30, _, PySem.W.mg_of X G a30, k30, b30, q30⟩
  have q31 : FnOk P w K mg base CX0 3 f31 _ ["desk", "choice"] (sp_read1 C refusal) := ok_refused_choice F31 T r_is_choice r_can_be_done
  have r_refused_choice : Cal P w K mg base 3 "refused_choice" ["desk", "choice"] (sp_read1 C refusal) := ⟨f31, _, PySem.W.mg_of X G a31, k31, b31, q31⟩
  have q32 : FnOk P w K mg base CX0 5 f32 _ ["desk", "choice"] (sp_read1 C (fun m n => (opUndo m n).2)) := ok_row_back F32 T r_refused_choice r_shortest_rows r_counted r_behind_choice
  have r_row_back : Cal P w K mg base 5 "row_back" ["desk", "choice"] (sp_read1 C (fun m n => (opUndo m n).2)) := ⟨f32, _, PySem.W.mg_of X G a32, k32, b32, q32⟩
  have q33 : FnOk P w K mg base CX0 5 f33 _ ["desk", "choice"] (sp_read1 C (fun m n => (opLost m n).2)) := ok_lost_by F33 T r_refused_choice r_shortest_rows r_counted r_behind_choice
  have r_lost_by : Cal P w K mg base 5 "lost_by" ["desk", "choice"] (sp_read1 C (fun m n => (opLost m n).2)) := ⟨f33, _, PySem.W.mg_of X G a33, k33, b33, q33⟩
  have q34 : FnOk P w K mg base CX0 5 f34 _ ["desk"] (sp_read0 C (fun m => (opSettled m).2)) := ok_settled_facts F34 T r_shortest_rows r_counted r_is_within
  have r_settled_facts : Cal P w K mg base 5 "settled_facts" ["desk"] (sp_read0 C (fun m => (opSettled m).2)) := ⟨f34, _, PySem.W.mg_of X G a34, k34, b34, q34⟩
  have q35 : FnOk P w K mg base CX0 2 f35 _ ["rule", "states"] (sp_is_ever_met) := ok_is_ever_met F35 T r_is_met
  have r_is_ever_met : Cal P w K mg base 2 "is_ever_met" ["rule", "states"] (sp_is_ever_met) := ⟨f35, _, PySem.W.mg_of X G a35, k35, b35, q35⟩
  have q36 : FnOk P w K mg base CX0 5 f36 _ ["desk"] (sp_read0 C (fun m => (opNever m).2)) := ok_never_done F36 T r_counted r_shortest_rows r_is_ever_met
  have r_never_done : Cal P w K mg base 5 "never_done" ["desk"] (sp_read0 C (fun m => (opNever m).2)) := ⟨f36, _, PySem.W.mg_of X G a36, k36, b36, q36⟩
  have q37 : FnOk P w K mg base CX0 5 f37 _ ["desk", "call", "given"] (sp_over C (fun p m => 1 ≤ p ∧ p ≤ 6 ∧ m.b = true)) := ok_answer_over_rules F37 T r_told_rule r_add_deed r_add_event r_take_out
  have r_answer_over_rules : Cal P w K mg base 5 "answer_over_rules" ["desk", "call", "given"] (sp_over C (fun p m => 1 ≤ p ∧ p ≤ 6 ∧ m.b = true)) := ⟨f37, _, PySem.W.mg_of X G a37, k37, b37, q37⟩
  have q38 : FnOk P w K mg base CX0 6 f38 _ ["desk", "call", "given"] (sp_over C (fun p m => (7 ≤ p ∧ p ≤ 11 ∨ 20 ≤ p) ∧ m.b = true)) := ok_answer_over_steps F38 T r_play r_set_to r_able r_do_deed r_wait r_by_itself
  have r_answer_over_steps : Cal P w K mg base 6 "answer_over_steps" ["desk", "call", "given"] (sp_over C (fun p m => (7 ≤ p ∧ p ≤ 11 ∨ 20 ≤ p) ∧ m.b = true)) := ⟨f38, _, PySem.W.mg_of X G a38, k38, b38, q38⟩
  have q39 : FnOk P w K mg base CX0 7 f39 _ ["desk", "call", "given"] (sp_over C (fun p m => 12 ≤ p ∧ p ≤ 19 ∧ m.b = true ∧ Ok m)) := ok_answer_over_rows F39 T r_never_done r_reached r_can_be r_fewest_steps r_row_to_aim r_row_back r_lost_by r_settled_facts
  have r_answer_over_rows : Cal P w K mg base 7 "answer_over_rows" ["desk", "call", "given"] (sp_over C (fun p m => 12 ≤ p ∧ p ≤ 19 ∧ m.b = true ∧ Ok m)) := ⟨f39, _, PySem.W.mg_of X G a39, k39, b39, q39⟩
  have q40 : FnOk P w K mg base CX0 8 f40 _ ["desk", "call", "given"] (sp_over C (fun _ m => Ok m)) := ok_answer_of F40 T r_answer_over_steps r_begin r_answer_over_rules r_answer_over_rows
  have r_answer_of : Cal P w K mg base 8 "answer_of" ["desk", "call", "given"] (sp_over C (fun _ m => Ok m)) := ⟨f40, _, PySem.W.mg_of X G a40, k40, b40, q40⟩
  exact (ok_answers F41 T r_CDesk r_answer_of).imp fin_imp
end D
open PySem PySem.W PyProof.Rows
set_option maxRecDepth 100000 in
set_option maxHeartbeats 8000000 in
theorem PySem.Challenge.cw_whatcanbedesk_s01_answers_holds : PySem.Challenge.rw_whatcanbedesk_s01_answers.Holds := by
  w_on; k_headS; (case hw => exact ⟨[.list [.int 0, .int 1, .int 2, .int 0]], by decide +kernel, by decide +kernel⟩)
  k_fillS
  refine L2.walk_specK (r := PySem.Challenge.rw_whatcanbedesk_s01_answers) (k := 9) (CX := L2.CX0) (ps := ["calls"]) (sp := D.sp_fin) (by decide +kernel) rfl rfl ⟨rfl, by decide, by decide⟩ (fun w h Y => PySem.W.kIn_of Y) ?F ?S (fun _ _ _ _ z => z)
  case F =>
    intro w mg fa h Y KX G hmg
    refine' D.all_mk KX G hmg ?aC ?a0 ?l0 ?c0 ?k0 ?a1 ?l1 ?c1 ?k1 ?a2 ?l2 ?c2 ?k2 ?a3 ?l3 ?c3 ?k3 ?a4 ?l4 ?c4 ?k4 ?a5 ?l5 ?c5 ?k5 ?a6 ?i6 ?l6 ?c6 ?k6 ?a7 ?i7 ?l7 ?c7 ?k7 ?a8 ?i8 ?l8 ?c8 ?k8 ?a9 ?i9 ?l9 ?c9 ?k9 ?a10 ?i10 ?l10 ?c10 ?k10 ?a11 ?i11 ?l11 ?c11 ?k11 ?a12 ?i12 ?l12 ?c12 ?k12 ?a13 ?i13 ?l13 ?c13 ?k13 ?a14 ?i14 ?l14 ?c14 ?k14 ?a15 ?i15 ?l15 ?c15 ?k15 ?a16 ?i16 ?l16 ?c16 ?k16 ?a17 ?i17 ?l17 ?c17 ?k17 ?a18 ?i18 ?l18 ?c18 ?k18 ?a19 ?i19 ?l19 ?c19 ?k19 ?a20 ?i20 ?l20 ?c20 ?k20 ?a21 ?i21 ?l21 ?c21 ?k21 ?a22 ?i22 ?l22 ?c22 ?k22 ?a23 ?i23 ?l23 ?c23 ?k23 ?a24 ?l24 ?c24 ?k24 ?a25 ?l25 ?c25 ?k25 ?a26 ?l26 ?c26 ?k26 ?a27 ?l27 ?c27 ?k27 ?a28 ?l28 ?c28 ?k28 ?a29 ?l29 ?c29 ?k29 ?a30 ?l30 ?c30 ?k30 ?a31 ?l31 ?c31 ?k31 ?a32 ?l32 ?c32 ?k32 ?a33 ?l33 ?c33 ?k33 ?a34 ?l34 ?c34 ?k34 ?a35 ?l35 ?c35 ?k35 ?a36 ?l36 ?c36 ?k36 ?a37 ?l37 ?c37 ?k37 ?a38 ?l38 ?c38 ?k38 ?a39 ?l39 ?c39 ?k39 ?a40 ?l40 ?c40 ?k40 ?a41 ?l41 ?c41 ?k41 ?pg ?hd ?po ?sa ?mk ?kc ?n_begun ?n_all_facts ?n_state ?n_deeds ?n_events ?v0 ?v1 ?v2 ?v3 ?v4 ?v5 ?v6 ?v7 ?v8 ?v9 ?v10 ?v11 ?v12 ?v13 ?v14 ?v15 ?v16 ?v17 ?v18 ?v19 ?v20 ?v21 ?v22 ?v23 ?v24 ?v25 ?v26 ?v27 ?v28 ?v29 ?v30 ?v31 ?b_any ?b_len ?b_list ?b_range ?b_sorted ?b_tuple
    (case aC => k_is)
    (case a0 => k_is)
    (case l0 => k_is)
    (case c0 => k_is)
    (case k0 => k_is)
    (case a1 => k_is)
    (case l1 => k_is)
    (case c1 => k_is)
    (case k1 => k_is)
    (case a2 => k_is)
    (case l2 => k_is)
    (case c2 => k_is)
    (case k2 => k_is)
    (case a3 => k_is)
    (case l3 => k_is)
    (case c3 => k_is)
    (case k3 => k_is)
    (case a4 => k_is)
    (case l4 => k_is)
    (case c4 => k_is)
    (case k4 => k_is)
    (case a5 => k_is)
    (case l5 => k_is)
    (case c5 => k_is)
    (case k5 => k_is)
    (case a6 => k_is)
    (case i6 => k_is)
    (case l6 => k_is)
    (case c6 => k_is)
    (case k6 => k_is)
    (case a7 => k_is)
    (case i7 => k_is)
    (case l7 => k_is)
    (case c7 => k_is)
    (case k7 => k_is)
    (case a8 => k_is)
    (case i8 => k_is)
    (case l8 => k_is)
    (case c8 => k_is)
    (case k8 => k_is)
    (case a9 => k_is)
    (case i9 => k_is)
    (case l9 => k_is)
    (case c9 => k_is)
    (case k9 => k_is)
    (case a10 => k_is)
    (case i10 => k_is)
    (case l10 => k_is)
    (case c10 => k_is)
    (case k10 => k_is)
    (case a11 => k_is)
    (case i11 => k_is)
    (case l11 => k_is)
    (case c11 => k_is)
    (case k11 => k_is)
    (case a12 => k_is)
    (case i12 => k_is)
    (case l12 => k_is)
    (case c12 => k_is)
    (case k12 => k_is)
    (case a13 => k_is)
    (case i13 => k_is)
    (case l13 => k_is)
    (case c13 => k_is)
    (case k13 => k_is)
    (case a14 => k_is)
    (case i14 => k_is)
    (case l14 => k_is)
    (case c14 => k_is)
    (case k14 => k_is)
    (case a15 => k_is)
    (case i15 => k_is)
    (case l15 => k_is)
    (case c15 => k_is)
    (case k15 => k_is)
    (case a16 => k_is)
    (case i16 => k_is)
    (case l16 => k_is)
    (case c16 => k_is)
    (case k16 => k_is)
    (case a17 => k_is)
    (case i17 => k_is)
    (case l17 => k_is)
    (case c17 => k_is)
    (case k17 => k_is)
    (case a18 => k_is)
    (case i18 => k_is)
    (case l18 => k_is)
    (case c18 => k_is)
    (case k18 => k_is)
    (case a19 => k_is)
    (case i19 => k_is)
    (case l19 => k_is)
    (case c19 => k_is)
    (case k19 => k_is)
    (case a20 => k_is)
    (case i20 => k_is)
    (case l20 => k_is)
    (case c20 => k_is)
    (case k20 => k_is)
    (case a21 => k_is)
    (case i21 => k_is)
    (case l21 => k_is)
    (case c21 => k_is)
    (case k21 => k_is)
    (case a22 => k_is)
    (case i22 => k_is)
    (case l22 => k_is)
    (case c22 => k_is)
    (case k22 => k_is)
    (case a23 => k_is)
    (case i23 => k_is)
    (case l23 => k_is)
    (case c23 => k_is)
    (case k23 => k_is)
    (case a24 => k_is)
    (case l24 => k_is)
    (case c24 => k_is)
    (case k24 => k_is)
    (case a25 => k_is)
    (case l25 => k_is)
    (case c25 => k_is)
    (case k25 => k_is)
    (case a26 => k_is)
    (case l26 => k_is)
    (case c26 => k_is)
    (case k26 => k_is)
    (case a27 => k_is)
    (case l27 => k_is)
    (case c27 => k_is)
    (case k27 => k_is)
    (case a28 => k_is)
    (case l28 => k_is)
    (case c28 => k_is)
    (case k28 => k_is)
    (case a29 => k_is)
    (case l29 => k_is)
    (case c29 => k_is)
    (case k29 => k_is)
    (case a30 => k_is)
    (case l30 => k_is)
    (case c30 => k_is)
    (case k30 => k_is)
    (case a31 => k_is)
    (case l31 => k_is)
    (case c31 => k_is)
    (case k31 => k_is)
    (case a32 => k_is)
    (case l32 => k_is)
    (case c32 => k_is)
    (case k32 => k_is)
    (case a33 => k_is)
    (case l33 => k_is)
    (case c33 => k_is)
    (case k33 => k_is)
    (case a34 => k_is)
    (case l34 => k_is)
    (case c34 => k_is)
    (case k34 => k_is)
    (case a35 => k_is)
    (case l35 => k_is)
    (case c35 => k_is)
    (case k35 => k_is)
    (case a36 => k_is)
    (case l36 => k_is)
    (case c36 => k_is)
    (case k36 => k_is)
    (case a37 => k_is)
    (case l37 => k_is)
    (case c37 => k_is)
    (case k37 => k_is)
    (case a38 => k_is)
    (case l38 => k_is)
    (case c38 => k_is)
    (case k38 => k_is)
    (case a39 => k_is)
    (case l39 => k_is)
    (case c39 => k_is)
    (case k39 => k_is)
    (case a40 => k_is)
    (case l40 => k_is)
    (case c40 => k_is)
    (case k40 => k_is)
    (case a41 => k_is)
    (case l41 => k_is)
    (case c41 => k_is)
    (case k41 => k_is)
    (case pg => k_is)
    (case hd => k_is)
    (case po => k_is)
    (case sa => k_is)
    (case mk => k_is)
    (case kc => k_is)
    (case n_begun => k_is)
    (case n_all_facts => k_is)
    (case n_state => k_is)
    (case n_deeds => k_is)
    (case n_events => k_is)
    (case v0 => k_is)
    (case v1 => k_is)
    (case v2 => k_is)
    (case v3 => k_is)
    (case v4 => k_is)
    (case v5 => k_is)
    (case v6 => k_is)
    (case v7 => k_is)
    (case v8 => k_is)
    (case v9 => k_is)
    (case v10 => k_is)
    (case v11 => k_is)
    (case v12 => k_is)
    (case v13 => k_is)
    (case v14 => k_is)
    (case v15 => k_is)
    (case v16 => k_is)
    (case v17 => k_is)
    (case v18 => k_is)
    (case v19 => k_is)
    (case v20 => k_is)
    (case v21 => k_is)
    (case v22 => k_is)
    (case v23 => k_is)
    (case v24 => k_is)
    (case v25 => k_is)
    (case v26 => k_is)
    (case v27 => k_is)
    (case v28 => k_is)
    (case v29 => k_is)
    (case v30 => k_is)
    (case v31 => k_is)
    (case b_any => k_is)
    (case b_len => k_is)
    (case b_list => k_is)
    (case b_range => k_is)
    (case b_sorted => k_is)
    (case b_tuple => k_is)
  case S =>
    intro K H xs a hO hwi hask hx
    cases hx with
    | cons h1 h2 =>
      cases h2
      cases h1 with
      | lst hs ha =>
        have e := L2.ints_dw a.1 _ ha
        subst e
        exact ⟨_, a.1, rfl, hs, hask, fun H' p hp => .lst (L2.SqL.of hp) (L2.dw_ints _)⟩
#print axioms PySem.Challenge.cw_whatcanbedesk_s01_answers_holds
