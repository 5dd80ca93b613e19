import PyProof.Rows.All
import Wide.All
import OpenK.AllK
import Wide.FinOn
import PyWideLaws
import Open.SpecLaws
import KE.OsHead
import KE.OsGo
import HandS.Base
import HandS.Call
import HandS.List
import HandS.Comp
import HandS.Ends
import HandS.Iter
import HandS.Words
import HandS.WordsList
import HandS.Exc
import HandS.TryOnly
import HandS.ExcOwn
import HandS.Spec
import HandS.Evl
import HandS.Conv
import HandS.Walk
import PySem.Challenge.RW_boardfence_s01_answers
set_option Elab.async false
/-! The strokes of the specification are the fewest that paint a fence. -/
namespace Bf
open Mu50

/-- a stroke that lies within boards a to b (b not in) above a height -/
def rel (a b m : Nat) : Stroke → Bool
  | .along j p q => decide (m < j) && (decide (a ≤ p) && decide (q < b))
  | .down x => decide (a ≤ x) && decide (x < b)
/-- a stroke along within boards a to b at a height above m up to t -/
def low (a b m t : Nat) : Stroke → Bool
  | .along j p q => (decide (m < j) && decide (j ≤ t)) && (decide (a ≤ p) && decide (q < b))
  | .down _ => false
/-- from left to right -/
def ltr : Stroke → Prop
  | .along _ p q => p ≤ q
  | .down _ => True

theorem countP_two {α : Type} (p q r : α → Bool) : ∀ (S : List α), (∀ s ∈ S, ¬ (p s = true ∧ q s = true)) → (∀ s ∈ S, p s = true → r s = true) → (∀ s ∈ S, q s = true → r s = true) →
    S.countP p + S.countP q ≤ S.countP r
  | [], _, _, _ => by simp
  | x :: S, h, hp, hq => by
    have ih := countP_two p q r S (fun s hs => h s (List.mem_cons_of_mem _ hs)) (fun s hs => hp s (List.mem_cons_of_mem _ hs)) (fun s hs => hq s (List.mem_cons_of_mem _ hs))
    have h0 := h x List.mem_cons_self
    have p0 := hp x List.mem_cons_self
    have q0 := hq x List.mem_cons_self
    rw [List.countP_cons, List.countP_cons, List.countP_cons]
    cases e1 : p x <;> cases e2 : q x <;> cases e3 : r x <;> simp_all <;> omega

/-- as many strokes down as boards -/
theorem count_down (S : List Stroke) (a : Nat) : ∀ (n : Nat), (∀ k, k < n → Stroke.down (a + k) ∈ S) → n ≤ S.countP (fun s => match s with | .down x => decide (a ≤ x) && decide (x < a + n) | _ => false)
  | 0, _ => Nat.zero_le _
  | n + 1, h => by
    have ih := count_down S a n (fun k hk => h k (by omega))
    have one : 1 ≤ S.countP (fun s => match s with | .down x => decide (x = a + n) | _ => false) := by
      refine List.countP_pos_iff.mpr ⟨_, h n (by omega), ?_⟩
      simp
    have two := countP_two (fun s => match s with | .down x => decide (a ≤ x) && decide (x < a + n) | _ => false) (fun s => match s with | .down x => decide (x = a + n) | _ => false)
      (fun s => match s with | .down x => decide (a ≤ x) && decide (x < a + (n + 1)) | _ => false) S
      (by intro s _; cases s <;> simp; omega) (by intro s _; cases s <;> simp; omega) (by intro s _; cases s <;> simp; omega)
    omega

/-- as many strokes along as heights -/
theorem count_low (S : List Stroke) (a b m : Nat) : ∀ (n : Nat), (∀ k, k < n → ∃ p q, Stroke.along (m + k + 1) p q ∈ S ∧ a ≤ p ∧ q < b) → n ≤ S.countP (low a b m (m + n))
  | 0, _ => Nat.zero_le _
  | n + 1, h => by
    have ih := count_low S a b m n (fun k hk => h k (by omega))
    obtain ⟨p, q, hm, hp, hq⟩ := h n (by omega)
    have one : 1 ≤ S.countP (low a b (m + n) (m + n + 1)) := by
      refine List.countP_pos_iff.mpr ⟨_, hm, ?_⟩
      simp [low, hp, hq]
    have two := countP_two (low a b m (m + n)) (low a b (m + n) (m + n + 1)) (low a b m (m + (n + 1))) S
      (by intro s _; cases s <;> simp [low]; omega) (by intro s _; cases s <;> simp [low]; omega) (by intro s _; cases s <;> simp [low]; omega)
    omega

/-- parts side by side share no stroke -/
theorem count_parts (S : List Stroke) (hS : ∀ s ∈ S, ltr s) (m hi : Nat) : ∀ (ps : List (Nat × Nat)) (lo : Nat), (∀ x ∈ ps, lo ≤ x.1 ∧ x.2 ≤ hi) → ps.Pairwise (fun x y => x.2 ≤ y.1) → (∀ x ∈ ps, x.1 ≤ x.2) →
    (ps.map fun x => S.countP (rel x.1 x.2 m)).sum ≤ S.countP (rel lo hi m)
  | [], _, _, _, _ => by simp
  | x :: ps, lo, h, hpw, hle => by
    have hx := h x List.mem_cons_self
    have hxl := hle x List.mem_cons_self
    obtain ⟨h1, h2⟩ := List.pairwise_cons.mp hpw
    have ih := count_parts S hS m hi ps x.2 (fun y hy => ⟨h1 y hy, (h y (List.mem_cons_of_mem _ hy)).2⟩) h2 (fun y hy => hle y (List.mem_cons_of_mem _ hy))
    have two := countP_two (rel x.1 x.2 m) (rel x.2 hi m) (rel lo hi m) S
      (by
        intro s hs
        have l := hS s hs
        cases s <;> simp [rel, ltr] at l ⊢ <;> omega)
      (by
        intro s hs
        have l := hS s hs
        cases s <;> simp [rel, ltr] at l ⊢ <;> omega)
      (by
        intro s hs
        have l := hS s hs
        cases s <;> simp [rel, ltr] at l ⊢ <;> omega)
    rw [List.map_cons, List.sum_cons]
    omega

/-! ### least -/
theorem least_le : ∀ (l : List Nat) (x : Nat), x ∈ l → least l ≤ x
  | [], _, h => by cases h
  | [y], x, h => by
    rw [List.mem_singleton] at h
    subst h
    exact Nat.le_refl _
  | y :: z :: l, x, h => by
    show min y (least (z :: l)) ≤ x
    rcases List.mem_cons.mp h with e | h
    · subst e
      omega
    · have := least_le (z :: l) x h
      omega
theorem least_mem : ∀ (l : List Nat), l ≠ [] → least l ∈ l
  | [], h => absurd rfl h
  | [y], _ => List.mem_singleton.mpr rfl
  | y :: z :: l, _ => by
    show min y (least (z :: l)) ∈ _
    have ih := least_mem (z :: l) (by simp)
    by_cases c : y ≤ least (z :: l)
    · rw [Nat.min_eq_left c]
      exact List.mem_cons_self
    · rw [Nat.min_eq_right (by omega)]
      exact List.mem_cons_of_mem _ ih

/-! ### runs -/
/-- what a run is -/
structure IsRun (m i : Nat) (l : List Nat) (x : Nat × List Nat) : Prop where
  ne : x.2 ≠ []
  lo : i ≤ x.1
  hi : x.1 + x.2.length ≤ i + l.length
  at_ : ∀ k, k < x.2.length → x.2[k]? = l[x.1 - i + k]?
  gt : ∀ y ∈ x.2, m < y
  left : x.1 = i ∨ ∃ y, l[x.1 - i - 1]? = some y ∧ y ≤ m
  right : x.1 + x.2.length = i + l.length ∨ ∃ y, l[x.1 - i + x.2.length]? = some y ∧ y ≤ m

theorem runs_cons (m i x : Nat) (l : List Nat) : runs m i (x :: l) = if x ≤ m then runs m (i + 1) l else (match l, runs m (i + 1) l with
    | y :: _, r :: t => if m < y then (i, x :: r.2) :: t else (i, [x]) :: r :: t
    | _, t => (i, [x]) :: t) := by
  rw [runs.eq_def]
  rfl
theorem runs_low {m i x : Nat} {l : List Nat} (h : x ≤ m) : runs m i (x :: l) = runs m (i + 1) l := by
  rw [runs_cons, if_pos h]
theorem runs_one {m i x : Nat} (h : m < x) : runs m i [x] = [(i, [x])] := by
  rw [runs_cons, if_neg (by omega)]
  rfl
theorem runs_gap {m i x y : Nat} {l : List Nat} (h : m < x) (h2 : y ≤ m) : runs m i (x :: y :: l) = (i, [x]) :: runs m (i + 1) (y :: l) := by
  rw [runs_cons, if_neg (by omega)]
  generalize runs m (i + 1) (y :: l) = q
  cases q with
  | nil => rfl
  | cons r t => exact if_neg (by omega)
theorem runs_on {m i x y : Nat} {l r : List Nat} {t : List (Nat × List Nat)} (h : m < x) (h2 : m < y) (e : runs m (i + 1) (y :: l) = (i + 1, r) :: t) : runs m i (x :: y :: l) = (i, x :: r) :: t := by
  rw [runs_cons, if_neg (by omega), e]
  exact if_pos h2
/-- where boards that are higher begin, the first run begins there -/
theorem runs_head {m : Nat} : ∀ (l : List Nat) (i y : Nat), m < y → ∃ r t, runs m i (y :: l) = (i, y :: r) :: t
  | [], i, y, h => ⟨[], [], runs_one h⟩
  | z :: l, i, y, h => by
    by_cases c : z ≤ m
    · exact ⟨[], _, runs_gap h c⟩
    · obtain ⟨r, t, e⟩ := runs_head (m := m) l (i + 1) z (Nat.lt_of_not_le c)
      exact ⟨z :: r, t, runs_on h (Nat.lt_of_not_le c) e⟩

theorem IsRun.shift {m i x : Nat} {l : List Nat} {r : Nat × List Nat} (R : IsRun m (i + 1) l r) (hx : r.1 = i + 1 → x ≤ m) : IsRun m i (x :: l) r := by
  have h1 := R.lo
  have h2 := R.hi
  refine ⟨R.ne, by omega, by simp only [List.length_cons]; omega, fun k hk => ?_, R.gt, ?_, ?_⟩
  · rw [R.at_ k hk, show r.1 - i + k = (r.1 - (i + 1) + k) + 1 by omega, List.getElem?_cons_succ]
  · refine Or.inr ?_
    rcases R.left with e | ⟨y, e, hy⟩
    · refine ⟨x, ?_, hx e⟩
      rw [e, show i + 1 - i - 1 = 0 by omega]
      rfl
    · by_cases c : r.1 = i + 1
      · refine ⟨x, ?_, hx c⟩
        rw [c, show i + 1 - i - 1 = 0 by omega]
        rfl
      · refine ⟨y, ?_, hy⟩
        rw [show r.1 - i - 1 = (r.1 - (i + 1) - 1) + 1 by omega, List.getElem?_cons_succ]
        exact e
  · rcases R.right with e | ⟨y, e, hy⟩
    · exact Or.inl (by simp only [List.length_cons]; omega)
    · refine Or.inr ⟨y, ?_, hy⟩
      rw [show r.1 - i + r.2.length = (r.1 - (i + 1) + r.2.length) + 1 by omega, List.getElem?_cons_succ]
      exact e

/-- every run is one, and they stand from the left on, with a gap between -/
theorem runs_all (m : Nat) : ∀ (l : List Nat) (i : Nat), (∀ x ∈ runs m i l, IsRun m i l x) ∧ (runs m i l).Pairwise (fun x y => x.1 + x.2.length < y.1)
  | [], i => by
    refine ⟨fun x h => ?_, ?_⟩
    · rw [runs] at h
      cases h
    · rw [runs]
      exact List.Pairwise.nil
  | x :: l, i => by
    obtain ⟨ih1, ih2⟩ := runs_all m l (i + 1)
    by_cases c : x ≤ m
    · rw [runs_low c]
      exact ⟨fun r hr => (ih1 r hr).shift fun _ => c, ih2⟩
    · have c : m < x := by omega
      have one : ∀ l', (l' = [] ∨ ∃ y l2, l' = y :: l2 ∧ y ≤ m) → IsRun m i (x :: l') (i, [x]) := by
        intro l' h
        refine ⟨by simp, Nat.le_refl _, by simp, fun k hk => ?_, fun y hy => ?_, Or.inl rfl, ?_⟩
        · have : k = 0 := by simpa using hk
          subst this
          simp
        · rw [List.mem_singleton.mp hy]
          exact c
        · rcases h with rfl | ⟨y, l2, rfl, hy⟩
          · exact Or.inl rfl
          · refine Or.inr ⟨y, ?_, hy⟩
            simp
      match l, ih1, ih2 with
      | [], _, _ =>
        rw [runs_one c]
        refine ⟨fun r hr => ?_, List.pairwise_singleton _ _⟩
        rw [List.mem_singleton.mp hr]
        exact one [] (Or.inl rfl)
      | y :: l, ih1, ih2 =>
        by_cases d : y ≤ m
        · rw [runs_gap c d]
          refine ⟨fun r hr => ?_, List.pairwise_cons.mpr ⟨fun r hr => ?_, ih2⟩⟩
          · rcases List.mem_cons.mp hr with e | hr
            · rw [e]
              exact one _ (Or.inr ⟨y, l, rfl, d⟩)
            · refine (ih1 r hr).shift fun e => ?_
              have R := ih1 r hr
              have hpos : 0 < r.2.length := List.length_pos_iff.mpr R.ne
              have a0 := R.at_ 0 hpos
              rw [e, show i + 1 - (i + 1) + 0 = 0 by omega, List.getElem?_cons_zero] at a0
              have := R.gt y (List.mem_of_getElem? a0)
              omega
          · show i + 1 < r.1
            rw [runs_low d] at hr
            have := ((runs_all m l (i + 1 + 1)).1 r hr).lo
            omega
        · obtain ⟨r, t, e⟩ := runs_head (m := m) l (i + 1) y (Nat.lt_of_not_le d)
          rw [runs_on c (Nat.lt_of_not_le d) e]
          rw [e] at ih1 ih2
          obtain ⟨p1, p2⟩ := List.pairwise_cons.mp ih2
          have R := ih1 _ List.mem_cons_self
          refine ⟨fun z hz => ?_, List.pairwise_cons.mpr ⟨fun z hz => ?_, p2⟩⟩
          · rcases List.mem_cons.mp hz with e | hz
            · rw [e]
              have h2 := R.hi
              simp only [List.length_cons] at h2
              refine ⟨by simp, Nat.le_refl _, by simp only [List.length_cons]; omega, fun k hk => ?_, fun w hw => ?_, Or.inl rfl, ?_⟩
              · cases k with
                | zero => simp
                | succ k =>
                  have a1 := R.at_ k (by simpa using hk)
                  simp only [Nat.sub_self, Nat.zero_add] at a1 ⊢
                  exact a1
              · rcases List.mem_cons.mp hw with e | hw
                · rw [e]
                  exact c
                · exact R.gt w hw
              · rcases R.right with e | ⟨w, e, hw⟩
                · refine Or.inl ?_
                  simp only [List.length_cons] at e ⊢
                  omega
                · refine Or.inr ⟨w, ?_, hw⟩
                  simp only [Nat.sub_self, Nat.zero_add, List.length_cons] at e ⊢
                  exact e
            · refine (ih1 z (List.mem_cons_of_mem _ hz)).shift fun e => ?_
              have := p1 z hz
              dsimp only at this
              omega
          · have := p1 z hz
            simp only [List.length_cons] at this ⊢
            omega
termination_by l => l.length

/-- how many strokes there are -/
theorem strokes_len (n i base : Nat) (l : List Nat) : (strokes (n + 1) i base l).length = min ((least l - base) + ((runs (least l) i l).map fun x => (strokes n x.1 (least l) x.2).length).sum) l.length := by
  have e : (((List.range (least l - base)).map fun (k : Nat) => Stroke.along (base + k + 1) i (i + l.length - 1)) ++ (runs (least l) i l).flatMap fun (x : Nat × List Nat) => strokes n x.1 (least l) x.2).length = (least l - base) + ((runs (least l) i l).map fun x => (strokes n x.1 (least l) x.2).length).sum := by
    rw [List.length_append, List.length_map, List.length_range, List.length_flatMap]
  rw [strokes]
  by_cases c : (((List.range (least l - base)).map fun (k : Nat) => Stroke.along (base + k + 1) i (i + l.length - 1)) ++ (runs (least l) i l).flatMap fun (x : Nat × List Nat) => strokes n x.1 (least l) x.2).length < l.length
  · rw [if_pos c, e]
    omega
  · rw [if_neg c, List.length_map, List.length_range]
    omega

/-- what strokes must do for boards side by side above a height -/
structure Paint (f : Fence) (S : List Stroke) (i base : Nat) (l : List Nat) : Prop where
  at_ : ∀ k, k < l.length → f[i + k]? = l[k]?
  gt : ∀ x ∈ l, base < x
  left : i = 0 ∨ ∃ y, f[i - 1]? = some y ∧ y ≤ base
  right : i + l.length = f.length ∨ ∃ y, f[i + l.length]? = some y ∧ y ≤ base

def Covers (f : Fence) (S : List Stroke) : Prop := ∀ (x h y : Nat), f[x]? = some y → 1 ≤ h → h ≤ y → ∃ s ∈ S, paints (x, h) s = true

theorem able_along {f : Fence} {j a b : Nat} (h : able f (.along j a b) = true) : 1 ≤ j ∧ a ≤ b ∧ b < f.length ∧ ∀ x y, a ≤ x → x ≤ b → f[x]? = some y → j ≤ y := by
  simp only [able, Bool.and_eq_true, decide_eq_true_eq, List.all_eq_true] at h
  obtain ⟨h1, h2, h3, h4⟩ := h
  refine ⟨h1, h2, h3, fun x y hx hy e => h4 y ?_⟩
  unfold part
  refine List.mem_of_getElem? (i := x - a) ?_
  rw [List.getElem?_take, if_pos (by omega), List.getElem?_drop, show a + (x - a) = x by omega]
  exact e

/-- a stroke along above the height that paints a board of the part lies within the part -/
theorem within_part {f : Fence} {S : List Stroke} {i base : Nat} {l : List Nat} (P : Paint f S i base l) {j a b x : Nat} (ha : able f (.along j a b) = true) (hj : base < j) (hx : i ≤ x) (hx2 : x < i + l.length) (h1 : a ≤ x) (h2 : x ≤ b) : i ≤ a ∧ b < i + l.length := by
  obtain ⟨_, _, hb, hall⟩ := able_along ha
  refine ⟨?_, ?_⟩
  · rcases P.left with e | ⟨y, e, hy⟩
    · omega
    · apply Decidable.byContradiction
      intro c
      have := hall (i - 1) y (by omega) (by omega) e
      omega
  · rcases P.right with e | ⟨y, e, hy⟩
    · omega
    · apply Decidable.byContradiction
      intro c
      have := hall (i + l.length) y (by omega) (by omega) e
      omega

theorem few (f : Fence) (S : List Stroke) (hS : ∀ s ∈ S, able f s = true) (hC : Covers f S) : ∀ (n i base : Nat) (l : List Nat), Paint f S i base l → (strokes n i base l).length ≤ S.countP (rel i (i + l.length) base)
  | 0, i, base, l, _ => by
    rw [strokes]
    exact Nat.zero_le _
  | n + 1, i, base, l, P => by
    have hltr : ∀ s ∈ S, ltr s := by
      intro s hs
      have := hS s hs
      cases s with
      | down => trivial
      | along j a b => exact (able_along this).2.1
    rw [strokes_len]
    by_cases all : ∀ k, k < l.length → Stroke.down (i + k) ∈ S
    · have h1 := count_down S i l.length all
      refine Nat.le_trans (Nat.min_le_right _ _) (Nat.le_trans h1 (List.countP_mono_left fun s _ hs => ?_))
      cases s with
      | down x => exact hs
      | along => cases hs
    · obtain ⟨k, hk, hno⟩ : ∃ k, k < l.length ∧ ¬ Stroke.down (i + k) ∈ S := by
        apply Classical.byContradiction
        intro c
        exact all fun k hk => Classical.byContradiction fun d => c ⟨k, hk, d⟩
      refine Nat.le_trans (Nat.min_le_left _ _) ?_
      have hlk : l[k]? = some l[k] := List.getElem?_eq_getElem hk
      have hmin : least l ≤ l[k] := least_le l _ (List.getElem_mem hk)
      have hbm : base < least l := P.gt _ (least_mem l (by intro e; rw [e] at hk; cases hk))
      have h1 : least l - base ≤ S.countP (low i (i + l.length) base (least l)) := by
        have := count_low S i (i + l.length) base (least l - base) (fun d hd => by
          obtain ⟨s, hs, hp⟩ := hC (i + k) (base + d + 1) l[k] ((P.at_ k hk).trans hlk) (by omega) (by omega)
          cases s with
          | down x =>
            have : i + k = x := by simpa [paints] using hp
            rw [← this] at hs
            exact absurd hs hno
          | along j a b =>
            have hp' : base + d + 1 = j ∧ a ≤ i + k ∧ i + k ≤ b := by simpa [paints] using hp
            obtain ⟨e, e1, e2⟩ := hp'
            have w := within_part P (hS _ hs) (by omega) (by omega) (by omega) e1 e2
            rw [← e] at hs
            exact ⟨a, b, hs, w.1, w.2⟩)
        rw [show base + (least l - base) = least l by omega] at this
        exact this
      obtain ⟨r1, r2⟩ := runs_all (least l) l i
      have h2 : ((runs (least l) i l).map fun x => (strokes n x.1 (least l) x.2).length).sum ≤ S.countP (rel i (i + l.length) (least l)) := by
        have hp := count_parts S hltr (least l) (i + l.length) ((runs (least l) i l).map fun x => (x.1, x.1 + x.2.length)) i
          (by
            intro z hz
            obtain ⟨x, hx, rfl⟩ := List.mem_map.mp hz
            exact ⟨(r1 x hx).lo, (r1 x hx).hi⟩)
          (List.pairwise_map.mpr (r2.imp fun h => Nat.le_of_lt h))
          (by
            intro z hz
            obtain ⟨x, hx, rfl⟩ := List.mem_map.mp hz
            exact Nat.le_add_right _ _)
        rw [List.map_map] at hp
        refine Nat.le_trans ?_ hp
        have step : ∀ x ∈ runs (least l) i l, (strokes n x.1 (least l) x.2).length ≤ S.countP (rel x.1 (x.1 + x.2.length) (least l)) := by
          intro x hx
          have R := r1 x hx
          have q1 := R.lo
          have q2 := R.hi
          refine few f S hS hC n x.1 (least l) x.2 ⟨fun d hd => ?_, R.gt, ?_, ?_⟩
          · rw [R.at_ d hd, ← P.at_ (x.1 - i + d) (by omega), show i + (x.1 - i + d) = x.1 + d by omega]
          · rcases R.left with e | ⟨y, e, hy⟩
            · rw [e]
              rcases P.left with e2 | ⟨y, e2, hy⟩
              · exact Or.inl e2
              · exact Or.inr ⟨y, e2, by omega⟩
            · by_cases c : x.1 = i
              · rw [c]
                rcases P.left with e2 | ⟨y, e2, hy⟩
                · exact Or.inl e2
                · exact Or.inr ⟨y, e2, by omega⟩
              · refine Or.inr ⟨y, ?_, hy⟩
                rw [← P.at_ (x.1 - i - 1) (by omega)] at e
                rw [show x.1 - 1 = i + (x.1 - i - 1) by omega]
                exact e
          · rcases R.right with e | ⟨y, e, hy⟩
            · rw [e]
              rcases P.right with e2 | ⟨y, e2, hy⟩
              · exact Or.inl e2
              · exact Or.inr ⟨y, e2, by omega⟩
            · have hlt : x.1 - i + x.2.length < l.length := (List.getElem?_eq_some_iff.mp e).1
              refine Or.inr ⟨y, ?_, hy⟩
              rw [← P.at_ _ hlt] at e
              rw [show x.1 + x.2.length = i + (x.1 - i + x.2.length) by omega]
              exact e
        clear hp r2
        revert step
        generalize runs (least l) i l = rs
        clear r1
        induction rs with
        | nil => intro _; simp
        | cons z zs ih =>
          intro step
          have a1 := step z List.mem_cons_self
          have a2 := ih fun x hx => step x (List.mem_cons_of_mem _ hx)
          simp only [List.map_cons, List.sum_cons, Function.comp] at a2 ⊢
          omega
      have h3 := countP_two (low i (i + l.length) base (least l)) (rel i (i + l.length) (least l)) (rel i (i + l.length) base) S
        (by intro s _; cases s <;> simp [low, rel]; omega) (by intro s _; cases s <;> simp [low, rel]; omega) (by intro s _; cases s <;> simp [rel] <;> omega)
      omega

/-- **No fewer strokes paint a fence.** -/
theorem fewest (f : Fence) (hpos : ∀ x ∈ f, 1 ≤ x) (S : List Stroke) (hS : ∀ s ∈ S, able f s = true) (hb : bare f S = []) : (painted f).length ≤ S.length := by
  unfold painted
  by_cases c : f.isEmpty = true
  · rw [if_pos c]
    exact Nat.zero_le _
  · rw [if_neg c]
    have hC : Covers f S := by
      intro x h y e h1 h2
      have hx : x < f.length := (List.getElem?_eq_some_iff.mp e).1
      have hm : (x, h) ∈ cells f := by
        unfold cells
        refine List.mem_flatMap.mpr ⟨x, List.mem_range.mpr hx, List.mem_map.mpr ⟨h - 1, List.mem_range.mpr ?_, ?_⟩⟩
        · rw [List.getD_eq_getElem?_getD, e]
          show h - 1 < y
          omega
        · rw [show h - 1 + 1 = h by omega]
      unfold bare at hb
      rw [List.filter_eq_nil_iff] at hb
      have := hb _ hm
      simp only [Bool.not_eq_true', Bool.not_eq_false, List.any_eq_true] at this
      exact this
    have P : Paint f S 0 0 f := ⟨fun k _ => by rw [Nat.zero_add], fun x hx => hpos x hx, Or.inl rfl, Or.inl (Nat.zero_add _)⟩
    exact Nat.le_trans (few f S hS hC _ 0 0 f P) List.countP_le_length
end Bf

set_option Elab.async false
/-! The specification, turn by turn, as loops take it. -/
namespace Bf
open Mu50

/-! ### largest -/
def lg (f : Fence) (b : Nat × Nat × Nat) (x : Nat × Nat) : Nat × Nat × Nat := if b.1 < area f x then (area f x, x) else b
def lgRow (f : Fence) (i j : Nat) (b : Nat × Nat × Nat) : Nat × Nat × Nat := ((List.range j).map fun (w : Nat) => (i, w + 1)).foldl (lg f) b
def lgUp (f : Fence) : Nat → Nat × Nat × Nat
  | 0 => (0, 0, 0)
  | i + 1 => lgRow f i (f.length - i) (lgUp f i)
theorem lgRow_zero (f : Fence) (i : Nat) (b : Nat × Nat × Nat) : lgRow f i 0 b = b := rfl
theorem lgRow_succ (f : Fence) (i j : Nat) (b : Nat × Nat × Nat) : lgRow f i (j + 1) b = lg f (lgRow f i j b) (i, j + 1) := by
  unfold lgRow
  rw [List.range_succ, List.map_append, List.foldl_append]
  rfl
theorem lgUp_eq (f : Fence) : ∀ (i : Nat), lgUp f i = ((List.range i).flatMap fun (i : Nat) => (List.range (f.length - i)).map fun (w : Nat) => (i, w + 1)).foldl (lg f) (0, 0, 0)
  | 0 => rfl
  | i + 1 => by
    rw [List.range_succ, List.flatMap_append, List.foldl_append, ← lgUp_eq f i]
    show lgRow f i (f.length - i) (lgUp f i) = _
    unfold lgRow
    rw [List.flatMap_cons, List.flatMap_nil, List.append_nil]
theorem fold_lg (f : Fence) : ∀ (l : List (Nat × Nat)) (y : Nat × Nat × Nat), l.foldl (fun (m : Option (Nat × Nat × Nat)) (x : Nat × Nat) => match m with
  | none => some (area f x, x)
  | some y => if y.1 < area f x then some (area f x, x) else some y) (some y) = some (l.foldl (lg f) y)
  | [], _ => rfl
  | x :: l, y => by
    rw [List.foldl_cons, List.foldl_cons]
    show List.foldl _ (if y.1 < area f x then some (area f x, x) else some y) l = _
    unfold lg
    by_cases c : y.1 < area f x
    · rw [if_pos c, if_pos c]
      exact fold_lg f l _
    · rw [if_neg c, if_neg c]
      exact fold_lg f l _
theorem largest_eq (f : Fence) (hne : f ≠ []) (hpos : ∀ x ∈ f, 1 ≤ x) : largest f = some (lgUp f f.length) := by
  rw [lgUp_eq]
  show (stretches f).foldl _ none = some ((stretches f).foldl (lg f) (0, 0, 0))
  have hs : ∃ r, stretches f = (0, 1) :: r := by
    unfold stretches
    obtain ⟨x, t, rfl⟩ : ∃ x t, f = x :: t := by
      cases f with
      | nil => exact absurd rfl hne
      | cons x t => exact ⟨x, t, rfl⟩
    rw [List.length_cons, List.range_succ_eq_map, List.flatMap_cons, Nat.sub_zero, List.range_succ_eq_map]
    exact ⟨_, rfl⟩
  obtain ⟨r, e⟩ := hs
  rw [e, List.foldl_cons, List.foldl_cons]
  have ha : 0 < area f (0, 1) := by
    cases f with
    | nil => exact absurd rfl hne
    | cons x t =>
      have := hpos x List.mem_cons_self
      show 0 < 1 * x
      omega
  have e2 : lg f (0, 0, 0) (0, 1) = (area f (0, 1), (0, 1)) := if_pos ha
  rw [e2]
  exact fold_lg f r _

/-! ### the least that boards must be raised -/
def lr (f : Fence) (w t : Nat) (b : Nat × Nat) (i : Nat) : Nat × Nat := if raised f i w t < b.1 then (raised f i w t, i) else b
def lrUp (f : Fence) (w t : Nat) : Nat → Nat × Nat
  | 0 => (raised f 0 w t, 0)
  | k + 1 => lr f w t (lrUp f w t k) (k + 1)
theorem fold_lr (f : Fence) (w t : Nat) : ∀ (k : Nat), (List.range (k + 1)).foldl (fun (m : Option (Nat × Nat)) (i : Nat) => match m with
  | none => some (raised f i w t, i)
  | some y => if raised f i w t < y.1 then some (raised f i w t, i) else some y) none = some (lrUp f w t k)
  | 0 => rfl
  | k + 1 => by
    rw [List.range_succ, List.foldl_append, fold_lr f w t k]
    show (if raised f (k + 1) w t < (lrUp f w t k).1 then some (raised f (k + 1) w t, k + 1) else some (lrUp f w t k)) = some (lr f w t (lrUp f w t k) (k + 1))
    unfold lr
    by_cases c : raised f (k + 1) w t < (lrUp f w t k).1
    · rw [if_pos c, if_pos c]
    · rw [if_neg c, if_neg c]
theorem leastRaised_eq (f : Fence) (w t : Nat) (h1 : 1 ≤ w) (h2 : w ≤ f.length) : leastRaised f w t = some (lrUp f w t (f.length - w)) := by
  unfold leastRaised starts
  rw [if_neg (by omega), show f.length + 1 - w = (f.length - w) + 1 by omega]
  exact fold_lr f w t _
theorem leastRaised_none (f : Fence) (w t : Nat) (h2 : f.length < w) : leastRaised f w t = none := by
  unfold leastRaised starts
  rw [if_neg (by omega), show f.length + 1 - w = 0 by omega]
  rfl

/-! ### places -/
def plRow (_ : Fence) (_ _ i j : Nat) : List (Nat × Nat) := (List.range j).map fun (j : Nat) => (i, j)
def plUp (f : Fence) (w t : Nat) : Nat → List (Nat × Nat)
  | 0 => []
  | i + 1 => plUp f w t i ++ plRow f w t i (least (part f i w) + 1 - t)
theorem plUp_eq (f : Fence) (w t : Nat) : ∀ (i : Nat), plUp f w t i = (List.range i).flatMap fun (i : Nat) => (List.range (least (part f i w) + 1 - t)).map fun (j : Nat) => (i, j)
  | 0 => rfl
  | i + 1 => by
    rw [List.range_succ, List.flatMap_append, ← plUp_eq f w t i, List.flatMap_cons, List.flatMap_nil, List.append_nil]
    rfl
theorem places_eq (f : Fence) (w t : Nat) (h1 : 1 ≤ w) : places f w t = plUp f w t (f.length + 1 - w) := by
  unfold places starts
  rw [if_neg (by omega), plUp_eq]
theorem plRow_succ (f : Fence) (w t i j : Nat) : plRow f w t i (j + 1) = plRow f w t i j ++ [(i, j)] := by
  unfold plRow
  rw [List.range_succ, List.map_append]
  rfl
theorem plRow_len (f : Fence) (w t i j : Nat) : (plRow f w t i j).length = j := by
  unfold plRow
  rw [List.length_map, List.length_range]

/-! ### bare cells -/
def bareRow (S : List Stroke) (i j : Nat) : List (Nat × Nat) := ((List.range j).map fun (j : Nat) => (i, j + 1)).filter fun x => !(S.any (paints x))
def bareUp (f : Fence) (S : List Stroke) : Nat → List (Nat × Nat)
  | 0 => []
  | i + 1 => bareUp f S i ++ bareRow S i (f.getD i 0)
theorem bareUp_eq (f : Fence) (S : List Stroke) : ∀ (i : Nat), bareUp f S i = ((List.range i).flatMap fun (i : Nat) => (List.range (f.getD i 0)).map fun (j : Nat) => (i, j + 1)).filter fun x => !(S.any (paints x))
  | 0 => rfl
  | i + 1 => by
    rw [List.range_succ, List.flatMap_append, List.filter_append, ← bareUp_eq f S i, List.flatMap_cons, List.flatMap_nil, List.append_nil]
    rfl
theorem bare_eq (f : Fence) (S : List Stroke) : bare f S = bareUp f S f.length := (bareUp_eq f S f.length).symm
theorem bareRow_succ (S : List Stroke) (i j : Nat) : bareRow S i (j + 1) = if S.any (paints (i, j + 1)) = true then bareRow S i j else bareRow S i j ++ [(i, j + 1)] := by
  unfold bareRow
  rw [List.range_succ, List.map_append, List.filter_append]
  show _ ++ List.filter _ [(i, j + 1)] = _
  rw [List.filter_cons, List.filter_nil]
  cases S.any (paints (i, j + 1)) with
  | true => simp
  | false => simp

/-! ### the parts that stand out -/
def iv (x : Nat × List Nat) : Nat × Nat := (x.1, x.1 + x.2.length)
def hp (m : Nat) : Nat → Nat → List Nat → List (Nat × Nat)
  | s, b, [] => if s < b then [(s, b)] else []
  | s, b, x :: l => if x ≤ m then (if s < b then [(s, b)] else []) ++ hp m (b + 1) (b + 1) l else hp m s (b + 1) l
theorem hp_nil {m s b : Nat} : hp m s b [] = if s < b then [(s, b)] else [] := rfl
theorem hp_low {m s b x : Nat} {l : List Nat} (h : x ≤ m) : hp m s b (x :: l) = (if s < b then [(s, b)] else []) ++ hp m (b + 1) (b + 1) l := if_pos h
theorem hp_high {m s b x : Nat} {l : List Nat} (h : m < x) : hp m s b (x :: l) = hp m s (b + 1) l := if_neg (by omega)
theorem hp_two (m : Nat) : ∀ (l : List Nat) (b s r : Nat), s < b → r < b → ∃ e t, hp m s b l = (s, e) :: t ∧ hp m r b l = (r, e) :: t
  | [], b, s, r, hs, hr => ⟨b, [], by rw [hp_nil, if_pos hs], by rw [hp_nil, if_pos hr]⟩
  | x :: l, b, s, r, hs, hr => by
    by_cases c : x ≤ m
    · refine ⟨b, hp m (b + 1) (b + 1) l, ?_, ?_⟩
      · rw [hp_low c, if_pos hs]
        rfl
      · rw [hp_low c, if_pos hr]
        rfl
    · obtain ⟨e, t, h1, h2⟩ := hp_two m l (b + 1) s r (by omega) (by omega)
      exact ⟨e, t, by rw [hp_high (Nat.lt_of_not_le c)]; exact h1, by rw [hp_high (Nat.lt_of_not_le c)]; exact h2⟩
theorem hp_runs (m : Nat) : ∀ (l : List Nat) (b : Nat), hp m b b l = (runs m b l).map iv
  | [], b => by
    rw [hp_nil, if_neg (by omega), runs]
    rfl
  | x :: l, b => by
    have ih := hp_runs m l (b + 1)
    by_cases c : x ≤ m
    · rw [hp_low c, if_neg (by omega), runs_low c, ← ih]
      rfl
    · have c : m < x := by omega
      rw [hp_high c]
      match l, ih with
      | [], _ =>
        rw [hp_nil, if_pos (by omega), runs_one c]
        rfl
      | y :: l, ih =>
        by_cases d : y ≤ m
        · rw [hp_low d, if_neg (by omega)] at ih
          rw [hp_low d, if_pos (by omega), runs_gap c d, List.map_cons, ← ih]
          rfl
        · have d : m < y := by omega
          rw [hp_high d] at ih
          obtain ⟨r, t, e⟩ := runs_head (m := m) l (b + 1) y d
          obtain ⟨z, u, h1, h2⟩ := hp_two m l (b + 1 + 1) b (b + 1) (by omega) (by omega)
          rw [h2, e, List.map_cons] at ih
          obtain ⟨i1, i2⟩ := List.cons.inj ih
          have i3 : z = b + 1 + (y :: r).length := (Prod.mk.inj i1).2
          rw [hp_high d, h1, runs_on c d e, List.map_cons, i2, i3]
          congr 1
          show (b, b + 1 + (y :: r).length) = (b, b + (x :: y :: r).length)
          rw [List.length_cons (a := x)]
          congr 1
          omega

theorem runs_length (m : Nat) : ∀ (l : List Nat) (i : Nat), (runs m i l).length ≤ l.length
  | [], i => by
    rw [runs]
    exact Nat.le_refl _
  | x :: l, i => by
    have ih := runs_length m l (i + 1)
    by_cases c : x ≤ m
    · rw [runs_low c, List.length_cons]
      omega
    · have c : m < x := by omega
      match l, ih with
      | [], _ =>
        rw [runs_one c]
        exact Nat.le_refl _
      | y :: l, ih =>
        by_cases d : y ≤ m
        · rw [runs_gap c d, List.length_cons, List.length_cons (a := x)]
          omega
        · obtain ⟨r, t, e⟩ := runs_head (m := m) l (i + 1) y (Nat.lt_of_not_le d)
          rw [e, List.length_cons] at ih
          rw [runs_on c (Nat.lt_of_not_le d) e, List.length_cons, List.length_cons]
          omega

/-! ### strokes -/
theorem part_len (f : Fence) (i w : Nat) : (part f i w).length = min w (f.length - i) := by
  unfold part
  rw [List.length_take, List.length_drop]
theorem part_get (f : Fence) (i w k : Nat) (h : k < w) : (part f i w)[k]? = f[i + k]? := by
  unfold part
  rw [List.getElem?_take, if_pos h, List.getElem?_drop]
/-- a run is a part of the fence -/
theorem run_part {f : Fence} {m i w : Nat} {x : Nat × List Nat} (R : IsRun m i (part f i w) x) : x.2 = part f x.1 x.2.length := by
  have h1 := R.lo
  have h2 := R.hi
  rw [part_len] at h2
  refine List.ext_getElem? fun k => ?_
  by_cases c : k < x.2.length
  · rw [R.at_ k c, part_get f x.1 _ k c, part_get f i w _ (by omega), show i + (x.1 - i + k) = x.1 + k by omega]
  · rw [List.getElem?_eq_none (by omega), List.getElem?_eq_none (by rw [part_len]; omega)]
theorem run_lt {m i : Nat} {l : List Nat} {x : Nat × List Nat} (R : IsRun m i l x) (hm : least l ≤ m) (hl : l ≠ []) : x.2.length < l.length := by
  have h1 := R.lo
  have h2 := R.hi
  apply Decidable.byContradiction
  intro c
  have h3 := least_mem l hl
  obtain ⟨k, hk, e⟩ := List.mem_iff_getElem.mp h3
  have h4 := R.at_ k (by omega)
  rw [show x.1 - i + k = k by omega, List.getElem?_eq_getElem hk, e] at h4
  have := R.gt _ (List.mem_of_getElem? h4)
  omega
/-- enough is enough -/
theorem strokes_fuel : ∀ (n k i b : Nat) (l : List Nat), l.length ≤ n → l.length ≤ k → strokes n i b l = strokes k i b l := by
  intro n
  induction n with
  | zero =>
    intro k i b l h1 h2
    have e : l = [] := List.length_eq_zero_iff.mp (by omega)
    subst e
    cases k with
    | zero => rfl
    | succ k =>
      rw [strokes, strokes]
      simp [runs, least]
  | succ n ih =>
    intro k i b l h1 h2
    cases k with
    | zero =>
      have e : l = [] := List.length_eq_zero_iff.mp (by omega)
      subst e
      rw [strokes, strokes]
      simp [runs, least]
    | succ k =>
      rw [strokes, strokes]
      have e : ((runs (least l) i l).flatMap fun (x : Nat × List Nat) => strokes n x.1 (least l) x.2) = ((runs (least l) i l).flatMap fun (x : Nat × List Nat) => strokes k x.1 (least l) x.2) := by
        have hr := (runs_all (least l) l i).1
        by_cases c : l = []
        · subst c
          rw [runs]
          rfl
        · have hall : ∀ x ∈ runs (least l) i l, strokes n x.1 (least l) x.2 = strokes k x.1 (least l) x.2 := fun x hx => by
            have := run_lt (hr x hx) (Nat.le_refl _) c
            exact ih k x.1 (least l) x.2 (by omega) (by omega)
          clear hr ih
          revert hall
          generalize runs (least l) i l = rs
          induction rs with
          | nil => intro _; rfl
          | cons z zs jh =>
            intro hall
            rw [List.flatMap_cons, List.flatMap_cons, hall z List.mem_cons_self, jh fun x hx => hall x (List.mem_cons_of_mem _ hx)]
      rw [e]
theorem painted_eq (f : Fence) (n : Nat) (h : f.length ≤ n) : painted f = strokes n 0 0 f := by
  unfold painted
  by_cases c : f.isEmpty = true
  · rw [if_pos c]
    have e : f = [] := List.isEmpty_iff.mp c
    subst e
    cases n with
    | zero => rfl
    | succ n =>
      rw [strokes]
      simp [runs, least]
  · rw [if_neg c]
    exact strokes_fuel _ _ _ _ _ (by omega) h
theorem strokes_le : ∀ (n i b : Nat) (l : List Nat), (strokes n i b l).length ≤ l.length
  | 0, i, b, l => by
    rw [strokes]
    exact Nat.zero_le _
  | n + 1, i, b, l => by
    rw [strokes_len]
    exact Nat.min_le_right _ _

/-! ### what is handed to judge -/
theorem mapM_none : ∀ (l : List (List Nat)), l.all (fun r => (strokeOf r).isSome) = false → l.mapM strokeOf = none
  | [], h => by cases h
  | r :: l, h => by
    rw [List.mapM_cons]
    cases e : strokeOf r with
    | none => rfl
    | some s =>
      rw [List.all_cons, e] at h
      have h' : l.all (fun r => (strokeOf r).isSome) = false := h
      rw [mapM_none l h']
      rfl
theorem mapM_some : ∀ (l : List (List Nat)), l.all (fun r => (strokeOf r).isSome) = true → ∃ S, l.mapM strokeOf = some S ∧ l.map strokeOf = S.map some
  | [], _ => ⟨[], rfl, rfl⟩
  | r :: l, h => by
    rw [List.all_cons, Bool.and_eq_true] at h
    obtain ⟨S, h1, h2⟩ := mapM_some l h.2
    obtain ⟨s, e⟩ := Option.isSome_iff_exists.mp h.1
    refine ⟨s :: S, ?_, ?_⟩
    · rw [List.mapM_cons, e, h1]
      rfl
    · rw [List.map_cons, List.map_cons, e, h2]
theorem map_at {l : List (List Nat)} {S : List Stroke} (h : l.map strokeOf = S.map some) {i : Nat} {r : List Nat} (e : l[i]? = some r) : ∃ s, S[i]? = some s ∧ strokeOf r = some s := by
  have h1 : (l.map strokeOf)[i]? = some (strokeOf r) := by rw [List.getElem?_map, e]; rfl
  rw [h, List.getElem?_map] at h1
  cases q : S[i]? with
  | none => rw [q] at h1; cases h1
  | some s =>
    rw [q] at h1
    exact ⟨s, rfl, (Option.some.inj h1).symm⟩
theorem map_len {l : List (List Nat)} {S : List Stroke} (h : l.map strokeOf = S.map some) : l.length = S.length := by
  have := congrArg List.length h
  rw [List.length_map, List.length_map] at this
  exact this
end Bf

set_option Elab.async false
/-! The specification over a line of calls. -/
namespace Bf
open Mu50
def flat : Call → List (List Int)
  | .begin_ f => [[0], nums f]
  | .largest => [[1]]
  | .places w t => [[2, (w : Int), (t : Int)]]
  | .raise w t => [[3, (w : Int), (t : Int)]]
  | .strokes => [[4]]
  | .judge l => [5] :: l.map nums
  | .seen s => [[6, (s : Int)]]
  | .board i x => [[7, (i : Int), (x : Int)]]
  | .swap i j => [[8, (i : Int), (j : Int)]]
  | .hang w t => [[9, (w : Int), (t : Int)]]
  | .look => [[10]]
/-- as large as what is handed in may be -/
def small : Call → Prop
  | .begin_ f => f.length ≤ 10 ∧ ∀ x ∈ f, x ≤ 20
  | .places w t => w ≤ 20 ∧ t ≤ 20
  | .raise w t => w ≤ 20 ∧ t ≤ 20
  | .judge l => l.length ≤ 20 ∧ ∀ r ∈ l, r.length ≤ 5 ∧ ∀ x ∈ r, x ≤ 20
  | .seen s => s ≤ 9
  | .board i x => i ≤ 9 ∧ x ≤ 20
  | .swap i j => i ≤ 9 ∧ j ≤ 9
  | .hang w t => w ≤ 20 ∧ t ≤ 20
  | _ => True
theorem nats_nums : ∀ (l : List Nat), Mu50Neutral.nats (nums l) = l
  | [] => rfl
  | x :: l => by
    show ((x : Int).toNat) :: Mu50Neutral.nats (nums l) = x :: l
    rw [nats_nums l]
    rfl
theorem callOf_flat (d : Call) : Mu50Neutral.callOf (flat d) = some d := by
  cases d with
  | begin_ f =>
    show some (Call.begin_ (Mu50Neutral.nats (nums f))) = _
    rw [nats_nums]
  | judge l =>
    have e : (l.map nums).map Mu50Neutral.nats = l := by
      rw [List.map_map]
      have : (Mu50Neutral.nats ∘ nums) = id := by
        funext r
        exact nats_nums r
      rw [this, List.map_id]
    show some (Call.judge ((l.map nums).map Mu50Neutral.nats)) = _
    rw [e]
  | _ => rfl
theorem twenty_nat {z : Int} (h : Mu50Neutral.twenty z = true) : ∃ n : Nat, z = (n : Int) ∧ n ≤ 20 := by
  unfold Mu50Neutral.twenty NeutralIO.within at h
  rw [Bool.and_eq_true, decide_eq_true_eq, decide_eq_true_eq] at h
  exact ⟨z.toNat, by omega, by omega⟩
theorem nine_nat {z : Int} (h : Mu50Neutral.nine z = true) : ∃ n : Nat, z = (n : Int) ∧ n ≤ 9 := by
  unfold Mu50Neutral.nine NeutralIO.within at h
  rw [Bool.and_eq_true, decide_eq_true_eq, decide_eq_true_eq] at h
  exact ⟨z.toNat, by omega, by omega⟩
theorem nums_of : ∀ (l : List Int), l.all Mu50Neutral.twenty = true → ∃ f : List Nat, l = nums f ∧ ∀ x ∈ f, x ≤ 20
  | [], _ => ⟨[], rfl, fun _ h => by cases h⟩
  | z :: l, h => by
    rw [List.all_cons, Bool.and_eq_true] at h
    obtain ⟨n, rfl, hn⟩ := twenty_nat h.1
    obtain ⟨f, rfl, hf⟩ := nums_of l h.2
    refine ⟨n :: f, rfl, fun x hx => ?_⟩
    rcases List.mem_cons.mp hx with e | e
    · rw [e]
      exact hn
    · exact hf x e
theorem rows_of : ∀ (l : List (List Int)), (l.all fun (x : List Int) => decide (x.length ≤ 5) && x.all Mu50Neutral.twenty) = true → ∃ f : List (List Nat), l = f.map nums ∧ ∀ r ∈ f, r.length ≤ 5 ∧ ∀ x ∈ r, x ≤ 20
  | [], _ => ⟨[], rfl, fun _ h => by cases h⟩
  | z :: l, h => by
    rw [List.all_cons, Bool.and_eq_true, Bool.and_eq_true, decide_eq_true_eq] at h
    obtain ⟨g, rfl, hg⟩ := nums_of z h.1.2
    obtain ⟨f, rfl, hf⟩ := rows_of l h.2
    refine ⟨g :: f, rfl, fun x hx => ?_⟩
    rcases List.mem_cons.mp hx with e | e
    · rw [e]
      refine ⟨?_, hg⟩
      have := h.1.1
      unfold nums at this
      rw [List.length_map] at this
      exact this
    · exact hf x e
theorem asked1_is {c : List (List Int)} (h : Mu50Neutral.asked1 c = true) : ∃ d : Call, c = flat d ∧ small d := by
  unfold Mu50Neutral.asked1 at h
  split at h
  · rename_i f
    rw [Bool.and_eq_true, decide_eq_true_eq] at h
    obtain ⟨g, rfl, hg⟩ := nums_of f h.2
    refine ⟨.begin_ g, rfl, ?_, hg⟩
    have := h.1
    unfold nums at this
    rw [List.length_map] at this
    exact this
  · exact ⟨.largest, rfl, trivial⟩
  · rw [Bool.and_eq_true] at h
    obtain ⟨n, rfl, hn⟩ := twenty_nat h.1
    obtain ⟨m, rfl, hm⟩ := twenty_nat h.2
    exact ⟨.places n m, rfl, hn, hm⟩
  · rw [Bool.and_eq_true] at h
    obtain ⟨n, rfl, hn⟩ := twenty_nat h.1
    obtain ⟨m, rfl, hm⟩ := twenty_nat h.2
    exact ⟨.raise n m, rfl, hn, hm⟩
  · exact ⟨.strokes, rfl, trivial⟩
  · rename_i l
    rw [Bool.and_eq_true, decide_eq_true_eq] at h
    obtain ⟨f, rfl, hf⟩ := rows_of l h.2
    refine ⟨.judge f, rfl, ?_, hf⟩
    have := h.1
    rw [List.length_map] at this
    exact this
  · obtain ⟨n, rfl, hn⟩ := nine_nat h
    exact ⟨.seen n, rfl, hn⟩
  · rw [Bool.and_eq_true] at h
    obtain ⟨n, rfl, hn⟩ := nine_nat h.1
    obtain ⟨m, rfl, hm⟩ := twenty_nat h.2
    exact ⟨.board n m, rfl, hn, hm⟩
  · rw [Bool.and_eq_true] at h
    obtain ⟨n, rfl, hn⟩ := nine_nat h.1
    obtain ⟨m, rfl, hm⟩ := nine_nat h.2
    exact ⟨.swap n m, rfl, hn, hm⟩
  · rw [Bool.and_eq_true] at h
    obtain ⟨n, rfl, hn⟩ := twenty_nat h.1
    obtain ⟨m, rfl, hm⟩ := twenty_nat h.2
    exact ⟨.hang n m, rfl, hn, hm⟩
  · exact ⟨.look, rfl, trivial⟩
  · cases h
/-! ### the fence stays one -/
structure GoodF (f : List Nat) : Prop where
  ne : f ≠ []
  len : f.length ≤ 8
  pos : ∀ x ∈ f, 1 ≤ x
  top : ∀ x ∈ f, x ≤ 8
def Good (s : Abs) : Prop := ∀ f, s = some f → GoodF f
theorem good_begin {f : List Nat} (h : ¬ (f.isEmpty = true ∨ BOARDS < f.length ∨ f.any (fun (x : Nat) => x == 0 || decide (HIGH < x)) = true)) : GoodF f := by
  have h1 : f ≠ [] := fun c => h (.inl (by rw [c]; rfl))
  have h2 : f.length ≤ 8 := by
    apply Decidable.byContradiction
    intro c
    exact h (.inr (.inl (by show 8 < f.length; omega)))
  have h3 : ∀ x ∈ f, x ≠ 0 ∧ x ≤ 8 := fun x hx => by
    apply Decidable.byContradiction
    intro c
    refine h (.inr (.inr ?_))
    rw [List.any_eq_true]
    refine ⟨x, hx, ?_⟩
    rw [Bool.or_eq_true]
    by_cases z : x = 0
    · exact .inl (by rw [z]; rfl)
    · exact .inr (decide_eq_true (by show 8 < x; omega))
  exact ⟨h1, h2, fun x hx => by have := h3 x hx; omega, fun x hx => (h3 x hx).2⟩
theorem good_set {f : List Nat} {i x : Nat} (h : GoodF f) (h1 : 1 ≤ x) (h8 : x ≤ 8) : GoodF (f.set i x) := by
  refine ⟨fun c => h.ne ?_, by rw [List.length_set]; exact h.len, fun y hy => ?_, fun y hy => ?_⟩
  · have := congrArg List.length c
    rw [List.length_set] at this
    exact List.length_eq_zero_iff.mp this
  · rcases List.mem_or_eq_of_mem_set hy with e | e
    · exact h.pos y e
    · omega
  · rcases List.mem_or_eq_of_mem_set hy with e | e
    · exact h.top y e
    · omega
theorem getD_mem {f : List Nat} {i : Nat} (h : i < f.length) : f.getD i 0 ∈ f := by
  rw [List.getD_eq_getElem?_getD, List.getElem?_eq_getElem h]
  exact List.getElem_mem h
theorem good_lifted {f : List Nat} {i w t : Nat} (h : GoodF f) (h8 : t ≤ 8) : GoodF (lifted f i w t) := by
  unfold lifted
  refine ⟨fun c => h.ne ?_, by rw [List.length_map, List.length_range]; exact h.len, fun y hy => ?_, fun y hy => ?_⟩
  · have := congrArg List.length c
    rw [List.length_map, List.length_range] at this
    exact List.length_eq_zero_iff.mp this
  · obtain ⟨k, hk, rfl⟩ := List.mem_map.mp hy
    have := h.pos _ (getD_mem (List.mem_range.mp hk))
    split <;> omega
  · obtain ⟨k, hk, rfl⟩ := List.mem_map.mp hy
    have := h.top _ (getD_mem (List.mem_range.mp hk))
    split <;> omega
theorem good_step {s : Abs} (d : Call) (h : Good s) : Good (step s d).1 := by
  intro g hg
  cases d with
  | begin_ f =>
    unfold step at hg
    by_cases c : f.isEmpty = true ∨ BOARDS < f.length ∨ f.any (fun (x : Nat) => x == 0 || decide (HIGH < x)) = true
    · dsimp only at hg
      rw [if_pos c] at hg
      exact h g hg
    · dsimp only at hg
      rw [if_neg c] at hg
      have e : f = g := Option.some.inj hg
      subst e
      exact good_begin c
  | board i x =>
    cases s with
    | none => cases hg
    | some f =>
      have hf := h f rfl
      unfold step at hg
      dsimp only at hg
      by_cases c : f.length ≤ i
      · rw [if_pos c] at hg
        exact h g hg
      · rw [if_neg c] at hg
        by_cases z : x = 0 ∨ HIGH < x
        · rw [if_pos z] at hg
          exact h g hg
        · rw [if_neg z] at hg
          have e : f.set i x = g := Option.some.inj hg
          subst e
          have z' : ¬ (x = 0 ∨ 8 < x) := z
          exact good_set hf (by omega) (by omega)
  | swap i j =>
    cases s with
    | none => cases hg
    | some f =>
      have hf := h f rfl
      unfold step at hg
      dsimp only at hg
      by_cases c : f.length ≤ i ∨ f.length ≤ j
      · rw [if_pos c] at hg
        exact h g hg
      · rw [if_neg c] at hg
        have e : (f.set i (f.getD j 0)).set j (f.getD i 0) = g := Option.some.inj hg
        subst e
        have hi := getD_mem (f := f) (i := i) (by omega)
        have hj := getD_mem (f := f) (i := j) (by omega)
        exact good_set (good_set hf (hf.pos _ hj) (hf.top _ hj)) (hf.pos _ hi) (hf.top _ hi)
  | hang w t =>
    cases s with
    | none => cases hg
    | some f =>
      have hf := h f rfl
      unfold step at hg
      dsimp only at hg
      by_cases c : isSize w t = false
      · rw [if_pos c] at hg
        exact h g hg
      · rw [if_neg c] at hg
        have ht : t ≤ 8 := by
          unfold isSize BOARDS HIGH at c
          simp only [Bool.not_eq_false, Bool.and_eq_true, decide_eq_true_eq] at c
          omega
        cases q : leastRaised f w t with
        | none =>
          rw [q] at hg
          exact h g hg
        | some x =>
          rw [q] at hg
          have e : lifted f x.2 w t = g := Option.some.inj hg
          subst e
          exact good_lifted hf ht
  | _ =>
    cases s with
    | none => cases hg
    | some f => exact h g hg
/-! ### a line -/
def after (cs : List (List (List Int))) : Abs := cs.foldl (fun s c => (Mu50Neutral.step s c).1) none
theorem after_snoc (cs : List (List (List Int))) (c : List (List Int)) : after (cs ++ [c]) = (Mu50Neutral.step (after cs) c).1 := by
  unfold after
  rw [List.foldl_append]
  rfl
theorem played_snoc : ∀ (cs : List (List (List Int))) (s : Abs) (c : List (List Int)), PyFlat.played Mu50Neutral.step s (cs ++ [c]) = PyFlat.played Mu50Neutral.step s cs ++ [(Mu50Neutral.step (cs.foldl (fun s c => (Mu50Neutral.step s c).1) s) c).2]
  | [], s, c => rfl
  | d :: cs, s, c => by
    show (Mu50Neutral.step s d).2 :: PyFlat.played Mu50Neutral.step (Mu50Neutral.step s d).1 (cs ++ [c]) = _
    rw [played_snoc cs]
    rfl
def line (cs : List (List (List Int))) : List Int := PyFlat.told (PyFlat.played Mu50Neutral.step none cs)
theorem told_append (l m : List (List Int)) : PyFlat.told (l ++ m) = PyFlat.told l ++ PyFlat.told m := List.flatMap_append
theorem line_snoc (cs : List (List (List Int))) (c : List (List Int)) : line (cs ++ [c]) = line cs ++ (((Mu50Neutral.step (after cs) c).2.length : Int) :: (Mu50Neutral.step (after cs) c).2) := by
  unfold line after
  rw [played_snoc, told_append]
  show _ ++ ((_ :: _) ++ []) = _
  rw [List.append_nil]
theorem line_le (cs ds : List (List (List Int))) : (line cs).length ≤ (line (cs ++ ds)).length := by
  induction ds generalizing cs with
  | nil =>
    rw [List.append_nil]
    exact Nat.le_refl _
  | cons d ds ih =>
    have h1 := ih (cs ++ [d])
    rw [List.append_assoc] at h1
    have h2 : (line cs).length ≤ (line (cs ++ [d])).length := by
      rw [line_snoc, List.length_append]
      omega
    exact Nat.le_trans h2 h1
theorem good_after : ∀ (n : Nat) (cs : List (List (List Int))), cs.length = n → (∀ c ∈ cs, Mu50Neutral.asked1 c = true) → Good (after cs)
  | 0, cs, h, _ => by
    have e := List.length_eq_zero_iff.mp h
    subst e
    intro f hf
    cases hf
  | n + 1, cs, h, ha => by
    obtain ⟨ds, d, rfl⟩ : ∃ ds d, cs = ds ++ [d] := ⟨cs.dropLast, cs.getLast (by intro c; rw [c] at h; cases h), (List.dropLast_concat_getLast _).symm⟩
    rw [after_snoc]
    obtain ⟨x, rfl, _⟩ := asked1_is (ha d (List.mem_append_right _ List.mem_cons_self))
    have ih := good_after n ds (by rw [List.length_append, List.length_singleton] at h; omega) fun c hc => ha c (List.mem_append_left _ hc)
    unfold Mu50Neutral.step
    rw [callOf_flat]
    exact good_step x ih
/-- what is asked of a list of numbers -/
theorem asked_is {l : List Int} (h : PyMu50.answers_asked l = true) : ∃ cs : List (List (List Int)), l = PyWide.put cs ∧ (∀ c ∈ cs, PyWide.okCall c) ∧ (∀ c ∈ cs, Mu50Neutral.asked1 c = true) ∧ cs.length ≤ 60 ∧ (line cs).length ≤ 10000000 ∧ PyMu50.answers l = line cs := by
  unfold PyMu50.answers_asked at h
  cases c : PyMu50.calls l with
  | none =>
    rw [c] at h
    cases h
  | some cs =>
    rw [c] at h
    dsimp only at h
    simp only [Bool.and_eq_true] at h
    obtain ⟨⟨_, h1⟩, h2⟩ := h
    have e : PyMu50.answers l = line cs := by
      unfold PyMu50.answers
      rw [c]
      rfl
    obtain ⟨p1, p2⟩ := PyWide.put_calls _ _ _ c
    unfold Mu50Neutral.asked at h1
    simp only [Bool.and_eq_true, decide_eq_true_eq, List.all_eq_true] at h1
    unfold PyFlat.short at h2
    rw [e, decide_eq_true_eq] at h2
    exact ⟨cs, p1, p2, h1.2.2, h1.2.1, h2, e⟩
end Bf

set_option Elab.async false
/-! Boards seen from an end, boards raised: as loops and slices take them. -/
namespace Bf
open Mu50
/-- the boards in the order in which they are passed from an end -/
def order (n e : Nat) : List Nat := if e = 0 then List.range n else (List.range n).map fun (k : Nat) => n - 1 - k
/-- one board further: what is seen so far, how high it goes -/
def look1 (f : List Nat) (s : List Nat × Nat) (b : Nat) : List Nat × Nat := if s.2 < f.getD b 0 then (s.1 ++ [b], f.getD b 0) else s
def looked (f : List Nat) (bs : List Nat) : List Nat × Nat := bs.foldl (look1 f) ([], 0)
theorem looked_succ (f bs : List Nat) {i b : Nat} (h : bs[i]? = some b) : looked f (bs.take (i + 1)) = look1 f (looked f (bs.take i)) b := by
  unfold looked
  rw [List.take_add_one, h, List.foldl_append]
  rfl
theorem look1_len (f : List Nat) (s : List Nat × Nat) (b : Nat) : (look1 f s b).1.length ≤ s.1.length + 1 := by
  unfold look1
  split
  · rw [List.length_append]
    exact Nat.le_refl _
  · exact Nat.le_succ _
theorem looked_len (f : List Nat) : ∀ (bs : List Nat) (s : List Nat × Nat), (bs.foldl (look1 f) s).1.length ≤ s.1.length + bs.length
  | [], _ => Nat.le_refl _
  | b :: bs, s => by
    have h1 := looked_len f bs (look1 f s b)
    have h2 := look1_len f s b
    rw [List.foldl_cons, List.length_cons]
    omega
theorem looked_seen (f : List Nat) (g : Nat → Nat) : ∀ (l : List Nat) (i m : Nat) (acc : List Nat), (∀ k x : Nat, l[k]? = some x → f.getD (g (i + k)) 0 = x) → (((List.range' i l.length).map g).foldl (look1 f) (acc, m)).1 = acc ++ (seen i m l).map g
  | [], i, m, acc, _ => by
    show acc = acc ++ []
    rw [List.append_nil]
  | x :: l, i, m, acc, h => by
    have hx : f.getD (g i) 0 = x := h 0 x rfl
    have ht : ∀ k y : Nat, l[k]? = some y → f.getD (g (i + 1 + k)) 0 = y := fun k y hy => by
      have := h (k + 1) y hy
      rw [show i + (k + 1) = i + 1 + k by omega] at this
      exact this
    rw [List.length_cons, List.range'_succ, List.map_cons, List.foldl_cons]
    unfold look1
    dsimp only
    rw [hx]
    unfold seen
    by_cases c : m < x
    · rw [if_pos c, if_pos c, List.map_cons]
      have := looked_seen f g l (i + 1) x (acc ++ [g i]) ht
      unfold look1 at this
      rw [this, List.append_assoc]
      rfl
    · rw [if_neg c, if_neg c]
      have := looked_seen f g l (i + 1) m acc ht
      unfold look1 at this
      exact this
def seenFrom (f : List Nat) (e : Nat) : List Nat := if e = 0 then fromLeft f else fromRight f
theorem looked_all (f : List Nat) (e : Nat) : (looked f (order f.length e)).1 = seenFrom f e := by
  unfold looked order seenFrom
  by_cases c : e = 0
  · rw [if_pos c, if_pos c]
    have := looked_seen f (fun k => k) f 0 0 [] (fun k x hx => by
      rw [Nat.zero_add, List.getD_eq_getElem?_getD, hx]
      rfl)
    rw [List.map_id', List.map_id', List.nil_append, ← List.range_eq_range'] at this
    exact this
  · rw [if_neg c, if_neg c]
    have := looked_seen f (fun k => f.length - 1 - k) f.reverse 0 0 [] (fun k x hx => by
      have hk := (List.getElem?_eq_some_iff.mp hx).1
      rw [List.length_reverse] at hk
      rw [List.getElem?_reverse hk] at hx
      rw [Nat.zero_add, List.getD_eq_getElem?_getD, hx]
      rfl)
    rw [List.length_reverse, List.nil_append, ← List.range_eq_range'] at this
    exact this
theorem order_len (n e : Nat) : (order n e).length = n := by
  unfold order
  split
  · rw [List.length_range]
  · rw [List.length_map, List.length_range]
theorem order_lt {n e i b : Nat} (h : (order n e)[i]? = some b) : b < n := by
  have hi := (List.getElem?_eq_some_iff.mp h).1
  rw [order_len] at hi
  unfold order at h
  split at h
  · rw [List.getElem?_range hi] at h
    have := Option.some.inj h
    omega
  · rw [List.getElem?_map, List.getElem?_range hi] at h
    have : n - 1 - i = b := Option.some.inj h
    omega
/-! ### boards raised -/
theorem lifted_eq (f : List Nat) (i w t : Nat) : lifted f i w t = f.take i ++ ((part f i w).map fun (x : Nat) => max x t) ++ f.drop (i + w) := by
  unfold lifted part
  refine List.ext_getElem? fun k => ?_
  rw [List.getElem?_map]
  by_cases hk : k < f.length
  · have hg : f.getD k 0 = f[k] := by
      rw [List.getD_eq_getElem?_getD, List.getElem?_eq_getElem hk]
      rfl
    rw [List.getElem?_range hk]
    show some (if i ≤ k ∧ k < i + w then max (f.getD k 0) t else f.getD k 0) = _
    rw [hg]
    by_cases h1 : k < i
    · rw [if_neg (by omega), List.append_assoc, List.getElem?_append_left (by rw [List.length_take]; omega), List.getElem?_take, if_pos h1, List.getElem?_eq_getElem hk]
    · by_cases h2 : k < i + w
      · rw [if_pos ⟨by omega, h2⟩, List.getElem?_append_left (by rw [List.length_append, List.length_map, List.length_take, List.length_take, List.length_drop]; omega), List.getElem?_append_right (by rw [List.length_take]; omega)]
        rw [List.getElem?_map, List.getElem?_take, if_pos (by rw [List.length_take]; omega), List.getElem?_drop, List.length_take, show i + (k - min i f.length) = k by omega, List.getElem?_eq_getElem hk]
        rfl
      · rw [if_neg (by omega), List.getElem?_append_right (by rw [List.length_append, List.length_map, List.length_take, List.length_take, List.length_drop]; omega), List.getElem?_drop]
        rw [List.length_append, List.length_map, List.length_take, List.length_take, List.length_drop]
        rw [show i + w + (k - (min i f.length + min w (f.length - i))) = k by omega, List.getElem?_eq_getElem hk]
  · rw [List.getElem?_eq_none (by rw [List.length_range]; omega), List.getElem?_eq_none]
    · rfl
    · rw [List.length_append, List.length_append, List.length_map, List.length_take, List.length_take, List.length_drop, List.length_drop]
      omega
end Bf

set_option Elab.async false
set_option maxRecDepth 100000
set_option maxHeartbeats 2000000
namespace Bf
open PySem PySem.Spec PyProof.Rows L2 Evl
/-! ### the text by places -/
def top (i : Nat) : Stmt := PySem.Challenge.pw_boardfence_s01_answers.main.body.getD i (.Pass ⟨0, 0, 0, 0⟩)
abbrev sLargest : Stmt := top 5
abbrev sFitting : Stmt := top 6
abbrev sMissing : Stmt := top 7
abbrev sLeast : Stmt := top 8
abbrev sRaised : Stmt := top 9
abbrev sHigher : Stmt := top 10
abbrev sPart : Stmt := top 11
abbrev sFence : Stmt := top 12
abbrev sFrom : Stmt := top 13
abbrev sSeenB : Stmt := top 14
abbrev sHas : Stmt := top 15
abbrev sIsStroke : Stmt := top 16
abbrev sCan : Stmt := top 17
abbrev sPaints : Stmt := top 18
abbrev sBare : Stmt := top 19
abbrev sSize : Stmt := top 36
abbrev sPlaces : Stmt := top 37
abbrev sRaising : Stmt := top 38
abbrev sStrokes : Stmt := top 39
abbrev sJudge : Stmt := top 40
abbrev sSeen : Stmt := top 41
abbrev sLine : Stmt := top 42
abbrev sCounted : Stmt := top 43
abbrev sRead : Stmt := top 44
abbrev sAnswers : Stmt := top 45
/-! ### lists of numbers in the heap -/
abbrev nv (l : List Nat) : List V := (Mu50.nums l).map V.int
theorem nv_len (l : List Nat) : (nv l).length = l.length := by
  unfold nv Mu50.nums
  rw [List.length_map, List.length_map]
theorem nv_get {l : List Nat} {k x : Nat} (h : l[k]? = some x) : (nv l)[k]? = some (.int (x : Int)) := by
  unfold nv Mu50.nums
  rw [List.getElem?_map, List.getElem?_map, h]
  rfl
theorem nv_at {l : List Nat} {k x : Nat} {z : Int} (e : z = (k : Int)) (h : l[k]? = some x) : atI (nv l) z = some (.int (x : Int)) := at_of e (nv_get h)
theorem cut_nat (xs : List V) {i j : Nat} {a b : Int} (ha : a = (i : Int)) (hb : b = (j : Int)) : cutV xs (some a) (some b) = (xs.drop i).take (j - i) := by
  subst ha hb
  unfold cutV
  rw [HT.sIx_nat, HT.sIx_nat]
  refine List.ext_getElem? fun k => ?_
  rw [List.getElem?_take, List.getElem?_take, List.getElem?_drop, List.getElem?_drop]
  by_cases c : i ≤ xs.length
  · rw [Nat.min_eq_left c]
    by_cases d : k < j - i
    · rw [if_pos d]
      by_cases e : k < min j xs.length - i
      · rw [if_pos e]
      · rw [if_neg e, List.getElem?_eq_none (by omega)]
    · rw [if_neg d, if_neg (by omega)]
  · rw [List.getElem?_eq_none (by omega : xs.length ≤ i + k)]
    by_cases e : k < min j xs.length - min i xs.length
    · omega
    · rw [if_neg e]
      by_cases d : k < j - i
      · rw [if_pos d]
      · rw [if_neg d]
theorem cut_nv (l : List Nat) {i j : Nat} {a b : Int} (ha : a = (i : Int)) (hb : b = (j : Int)) : cutV (nv l) (some a) (some b) = nv (Mu50.part l i (j - i)) := by
  rw [cut_nat _ ha hb]
  unfold nv Mu50.nums Mu50.part
  rw [List.map_take, List.map_drop, List.map_take, List.map_drop]
theorem min_is {l : List Nat} {m : Int} (hl : l ≠ []) (h1 : m ∈ Mu50.nums l) (h2 : ∀ y ∈ Mu50.nums l, m ≤ y) : m = (Mu50.least l : Int) := by
  unfold Mu50.nums at h1 h2
  obtain ⟨x, hx, rfl⟩ := List.mem_map.mp h1
  have a := least_le l x hx
  have b := h2 _ (List.mem_map.mpr ⟨_, least_mem l hl, rfl⟩)
  omega
section
variable {K : PySem.W.Frag} {σ : L2.St} {H : Hp} {te : TE}
theorem ev_minL {l : List Nat} (h : EvL te σ H (nv l)) (hl : l ≠ []) : Ev (tCB (rMin K) (tCons te tNil)) σ H (.int (Mu50.least l : Int)) := fun H1 e Q q =>
  h H1 e _ fun p H2 _ e2 h2 => ⟨p, Mu50.nums l, rfl, sq_of h2, by
    unfold Mu50.nums
    rw [List.length_map]
    exact List.length_pos_iff.mpr hl, fun m h3 h4 => by
    rw [min_is hl h3 h4]
    exact q H2 e2⟩
end
/-- what is at a: heights of boards, 8 of them at most, 8 high at most -/
structure Hts (K : PySem.W.Frag) (H : Hp) (a : Addr) (hs : List Nat) : Prop where
  sq : SqL K H a (nv hs)
  len : hs.length ≤ 8
  ne : hs ≠ []
  pos : ∀ x ∈ hs, 1 ≤ x
  top : ∀ x ∈ hs, x ≤ 8
theorem Hts.ex {K : PySem.W.Frag} {H H' : Hp} {a : Addr} {hs : List Nat} (e : Ex H H') (h : Hts K H a hs) : Hts K H' a hs := ⟨ex_l e h.sq, h.len, h.ne, h.pos, h.top⟩
/-! ### lists of things -/
/-- the heap without p -/
def less (H : Hp) (p : Addr) : Hp := fun b => if b = p then none else H b
theorem less_some {H : Hp} {p b : Addr} {o : HO} (h : less H p b = some o) : b ≠ p ∧ H b = some o := by
  unfold less at h
  by_cases c : b = p
  · rw [if_pos c] at h
    cases h
  · rw [if_neg c] at h
    exact ⟨c, h⟩
theorem less_of {H : Hp} {p b : Addr} {o : HO} (h : H b = some o) (c : b ≠ p) : less H p b = some o := by
  unfold less
  rw [if_neg c]
  exact h
theorem less_ex {H H' : Hp} {p : Addr} (e : Ex H H') : Ex (less H p) (less H' p) := fun _ _ h => less_of (e _ _ (less_some h).2) (less_some h).1
theorem less_upd {H : Hp} {p : Addr} {o : HO} : less (upd H p o) p = less H p := by
  funext b
  unfold less
  by_cases c : b = p
  · rw [if_pos c, if_pos c]
  · rw [if_neg c, if_neg c, upd_ne c]
theorem less_back {H : Hp} {p : Addr} : Ex (less H p) H := fun _ _ h => (less_some h).2
/-- at p a list of things, each as R tells; p itself is none of what they are made of -/
structure LG {α : Type} (R : Hp → Addr → α → Prop) (H : Hp) (p : Addr) (as : List Addr) (xs : List α) : Prop where
  lst : H p = some (.lst (as.map V.ref))
  len : as.length = xs.length
  at_ : ∀ (j : Nat) (a : Addr) (x : α), as[j]? = some a → xs[j]? = some x → R (less H p) a x
section
variable {α : Type} {R : Hp → Addr → α → Prop} {H H1 : Hp} {p q : Addr} {as bs : List Addr} {xs ys : List α} {x : α}
theorem LG.ex (mono : ∀ {H H' : Hp} {a : Addr} {x : α}, Ex H H' → R H a x → R H' a x) (e : Ex H H1) (h : LG R H p as xs) : LG R H1 p as xs :=
  ⟨e _ _ h.lst, h.len, fun j a x ha hx => mono (less_ex e) (h.at_ j a x ha hx)⟩
theorem LG.nil (h : H p = some (.lst [])) : LG R H p [] ([] : List α) := ⟨h, rfl, fun j a x ha _ => by simp at ha⟩
theorem LG.get (h : LG R H p as xs) {j : Nat} (hx : xs[j]? = some x) : ∃ a, (as.map V.ref)[j]? = some (.ref a) ∧ R (less H p) a x := by
  have hj : j < as.length := by
    rw [h.len]
    exact (List.getElem?_eq_some_iff.mp hx).1
  refine ⟨as[j], ?_, h.at_ j _ x (List.getElem?_eq_getElem hj) hx⟩
  rw [List.getElem?_map, List.getElem?_eq_getElem hj]
  rfl
/-- more things behind -/
theorem LG.add (h : LG R H p as xs) (hl : bs.length = ys.length) (hb : ∀ (j : Nat) (a : Addr) (x : α), bs[j]? = some a → ys[j]? = some x → R (less H p) a x) : LG R (upd H p (.lst (as.map V.ref ++ bs.map V.ref))) p (as ++ bs) (xs ++ ys) := by
  refine ⟨?_, ?_, fun j a x ha hx => ?_⟩
  · rw [upd_same, List.map_append]
  · rw [List.length_append, List.length_append, h.len, hl]
  · rw [less_upd]
    by_cases hj : j < as.length
    · rw [List.getElem?_append_left hj] at ha
      rw [List.getElem?_append_left (by rw [← h.len]; exact hj)] at hx
      exact h.at_ j a x ha hx
    · rw [List.getElem?_append_right (by omega)] at ha
      rw [List.getElem?_append_right (by rw [← h.len]; omega), ← h.len] at hx
      exact hb _ a x ha hx
theorem LG.snoc (h : LG R H p as xs) (hb : R (less H p) q x) : LG R (upd H p (.lst (as.map V.ref ++ [.ref q]))) p (as ++ [q]) (xs ++ [x]) := by
  refine LG.add (bs := [q]) (ys := [x]) h rfl fun j a y ha hy => ?_
  cases j with
  | zero =>
    have e1 : q = a := Option.some.inj ha
    have e2 : x = y := Option.some.inj hy
    subst e1 e2
    exact hb
  | succ j => simp at ha
end
/-- a row of numbers -/
def RowAt (H : Hp) (a : Addr) (r : List Int) : Prop := H a = some (.lst (r.map V.int))
theorem RowAt.mono {H H' : Hp} {a : Addr} {r : List Int} (e : Ex H H') (h : RowAt H a r) : RowAt H' a r := e _ _ h
theorem RowAt.new {H H1 : Hp} {p q : Addr} {r : List Int} {o : HO} (hp : H p = some o) (hq : H q = none) (h : H1 q = some (.lst (r.map V.int))) : RowAt (less H1 p) q r := less_of h fun c => by
  rw [c, hp] at hq
  cases hq
def LL (H : Hp) (p : Addr) (rows : List (List Int)) : Prop := ∃ as : List Addr, LG RowAt H p as rows
theorem LG.exRow {H H1 : Hp} {p : Addr} {as : List Addr} {xs : List (List Int)} (h : LG RowAt H p as xs) (e : Ex H H1) : LG RowAt H1 p as xs := LG.ex (R := RowAt) RowAt.mono e h
theorem LL.ex {H H' : Hp} {p : Addr} {rows : List (List Int)} (e : Ex H H') (h : LL H p rows) : LL H' p rows := by
  obtain ⟨as, h⟩ := h
  exact ⟨as, h.exRow e⟩
/-- a pair of numbers -/
def PairAt (H : Hp) (a : Addr) (r : Nat × Nat) : Prop := H a = some (.tup [.int (r.1 : Int), .int (r.2 : Int)])
theorem PairAt.mono {H H' : Hp} {a : Addr} {r : Nat × Nat} (e : Ex H H') (h : PairAt H a r) : PairAt H' a r := e _ _ h
theorem PairAt.new {H H1 : Hp} {p q : Addr} {r : Nat × Nat} {o : HO} (hp : H p = some o) (hq : H q = none) (h : H1 q = some (.tup [.int (r.1 : Int), .int (r.2 : Int)])) : PairAt (less H1 p) q r := less_of h fun c => by
  rw [c, hp] at hq
  cases hq
def LP (H : Hp) (p : Addr) (rows : List (Nat × Nat)) : Prop := ∃ as : List Addr, LG PairAt H p as rows
theorem LG.exPair {H H1 : Hp} {p : Addr} {as : List Addr} {xs : List (Nat × Nat)} (h : LG PairAt H p as xs) (e : Ex H H1) : LG PairAt H1 p as xs := LG.ex (R := PairAt) PairAt.mono e h
theorem LP.ex {H H' : Hp} {p : Addr} {rows : List (Nat × Nat)} (e : Ex H H') (h : LP H p rows) : LP H' p rows := by
  obtain ⟨as, h⟩ := h
  exact ⟨as, h.exPair e⟩
/-- something new, of which T holds -/
def EvN (T : Hp → Addr → Prop) (te : TE) (σ : L2.St) (H : Hp) : Prop := ∀ H1, Ex H H1 → ∀ Q : VK, (∀ p H2, H1 p = none → Ex H1 H2 → T H2 p → Q (.ref p) H2) → te σ H1 Q
def RetN (T : Hp → Addr → Prop) (H : Hp) (Q : VK) : Prop := ∀ p H2, H p = none → Ex H H2 → T H2 p → Q (.ref p) H2
theorem RetN.go {T : Hp → Addr → Prop} {H H' : Hp} {Q : VK} (k : RetN T H Q) (e : Ex H H') : RetN T H' Q := fun p H2 hp e2 h => k p H2 (fresh_back e hp) (e.trans e2) h
theorem RetL.up {xs : List V} {H H' : Hp} {Q : VK} (k : RetL xs H Q) (e : Ex H H') : RetL xs H' Q := fun p H2 hp e2 h => k p H2 (fresh_back e hp) (e.trans e2) h
theorem RetV.up {v : V} {H H' : Hp} {Q : VK} (k : RetV v H Q) (e : Ex H H') : RetV v H' Q := fun H2 e2 => k H2 (e.trans e2)
section
variable {σ : L2.St} {H : Hp} {D : Ends} {tu tz : TS} {te : TE} {T : Hp → Addr → Prop}
theorem q_asgN {i : Nat} (h : EvN T te σ H) (k : ∀ p H1, H p = none → Ex H H1 → T H1 p → tz D (σ.set i (some (.ref p))) H1) : tSeq (tAsg te (gName i)) tz D σ H := h H (Ex.refl H) _ fun p H1 hp e h1 => k p H1 hp e h1
theorem s_retN (h : EvN T te σ H) (k : ∀ p H1, H p = none → Ex H H1 → T H1 p → D.rt (.ref p) H1) : tRet te D σ H := h H (Ex.refl H) _ k
theorem en_call {sp : Sp} {dvs vs : List V} {E : XK} {ta : TA} (h : EvA ta σ H vs) (hs : ∀ H1, Ex H H1 → ∀ Q : VK, RetN T H1 Q → sp (vs ++ dvs) H1 Q E) : EvN T (tCall sp dvs E ta) σ H := fun H1 e Q q =>
  h H1 e _ fun H2 e2 => hs H2 (e.trans e2) Q fun p H3 hp e3 h3 => q p H3 (fresh_back e2 hp) (e2.trans e3) h3
theorem ev_callV {sp : Sp} {dvs vs : List V} {E : XK} {ta : TA} {z : V} (h : EvA ta σ H vs) (hs : ∀ H1, Ex H H1 → ∀ Q : VK, RetV z H1 Q → sp (vs ++ dvs) H1 Q E) : Ev (tCall sp dvs E ta) σ H z := fun H1 e Q q =>
  h H1 e _ fun H2 e2 => hs H2 (e.trans e2) Q fun H3 e3 => q H3 (e2.trans e3)
theorem el_callL {sp : Sp} {dvs vs xs : List V} {E : XK} {ta : TA} (h : EvA ta σ H vs) (hs : ∀ H1, Ex H H1 → ∀ Q : VK, RetL xs H1 Q → sp (vs ++ dvs) H1 Q E) : EvL (tCall sp dvs E ta) σ H xs := fun H1 e Q q =>
  h H1 e _ fun H2 e2 => hs H2 (e.trans e2) Q fun p H3 hp e3 h3 => q p H3 (fresh_back e2 hp) (e2.trans e3) h3
/-- for c in range(z), z below 0 too -/
theorem s_forR1N {ta : TA} {j : Nat} {n : Int} (ev : EvA ta σ H [.int n]) (hn : -100000 ≤ n ∧ n ≤ 100000) (W : Nat → L2.St → Hp → Prop) (first : ∀ Hs, Ex H Hs → W 0 σ Hs)
    (turn : ∀ (c : Nat) (σc : L2.St) (Hc : Hp), (c : Int) < n → W c σc Hc → tu { D with nx := W (c + 1), ct := W (c + 1), bk := D.nx } (σc.set j (some (.int (c : Int)))) Hc)
    (fin : ∀ σc Hc, W n.toNat σc Hc → D.nx σc Hc) : tFor (iRng1 ta) (gName j) tu D σ H := by
  refine ev H (Ex.refl H) _ fun Hs es => ⟨n, rfl, by omega, by omega, for_range (lo := 0) W (first Hs es) (fun c σc Hc hc w => ?_) fin⟩
  have one := turn c σc Hc (by omega) w
  rw [← Int.zero_add (c : Int)] at one
  exact one
theorem q_forR1N {ta : TA} {j : Nat} {n : Int} (ev : EvA ta σ H [.int n]) (hn : -100000 ≤ n ∧ n ≤ 100000) (W : Nat → L2.St → Hp → Prop) (first : ∀ Hs, Ex H Hs → W 0 σ Hs)
    (turn : ∀ (c : Nat) (σc : L2.St) (Hc : Hp), (c : Int) < n → W c σc Hc → tu { D with nx := W (c + 1), ct := W (c + 1), bk := tz D } (σc.set j (some (.int (c : Int)))) Hc)
    (fin : ∀ σc Hc, W n.toNat σc Hc → tz D σc Hc) : tSeq (tFor (iRng1 ta) (gName j) tu) tz D σ H :=
  s_forR1N (D := { D with nx := tz D }) ev hn W first turn fin
end
/-- heights[i : i + w], w boards from the i-th on, the least of them -/
theorem ev_minS {K : PySem.W.Frag} {σ : L2.St} {H : Hp} {te : TE} {tl th : TO} {a : Addr} {hs : List Nat} {i j : Nat} {x y : Int} (h : Ev te σ H (.ref a)) (h1 : EvO tl σ H (some x)) (h2 : EvO th σ H (some y)) (hS : SqL K H a (nv hs)) (hx : x = (i : Int)) (hy : y = (j : Int)) (hij : i < j) (hj : i < hs.length) :
    Ev (tCB (rMin K) (tCons (tSl (rSlL K) te tl th) tNil)) σ H (.int (Mu50.least (Mu50.part hs i (j - i)) : Int)) := by
  refine ev_minL ?_ fun c => ?_
  · have := el_sl (K := K) h h1 h2 hS
    rw [cut_nv hs hx hy] at this
    exact this
  · have := congrArg List.length c
    rw [part_len, List.length_nil] at this
    omega
theorem part_mem {f : List Nat} {i w x : Nat} (h : x ∈ Mu50.part f i w) : x ∈ f := List.mem_of_mem_drop (List.mem_of_mem_take h)
theorem least_top {f : List Nat} {i w : Nat} (h : ∀ x ∈ f, x ≤ 8) : Mu50.least (Mu50.part f i w) ≤ 8 := by
  by_cases c : Mu50.part f i w = []
  · rw [c]
    decide
  · exact h _ (part_mem (least_mem _ c))
end Bf

set_option Elab.async false
set_option maxRecDepth 100000
set_option maxHeartbeats 2000000
namespace Bf
open PySem PySem.Spec PyProof.Rows L2 Evl
section
variable {P : Program} {w : World} {K : PySem.W.Frag} {mg : Str → Option Value} {base : Heap}
theorem scSz : FnScope ["number"] ["number"] (defScope sSize) := ⟨rfl, rfl, rfl, by decide +kernel, rfl, by decide +kernel, by decide +kernel⟩
def okSize (n : Int) : Bool := decide (1 ≤ n) && decide (n ≤ 8)
def spSize : Sp := fun vs H Q _ => ∃ n : Int, vs = [.int n] ∧ RetV (.bl (okSize n)) H Q
theorem ok_size {f : Addr} {fd : FuncData} {k : Nat} {t8 : Tok} (F : Fun K "is_size" "is_size" sSize f fd) (m8 : mg "MOST" = some (.int 8 t8)) : FnOk P w K mg base CX0 (k + 1) f fd ["number"] spSize := by
  refine F.ok scSz (fun vs H Q E h => ?_) (fun cdv A outer s H vs Q E hr h => ?_)
  · obtain ⟨n, rfl, _⟩ := h
    rfl
  obtain ⟨n, rfl, k⟩ := h
  refine ⟨_, pss_one (ps_ret (pe_and (pe_cmpR op_le pe_int (pv 0) (nomark _)) (pe_one (pe_cmpR op_le (pv 0) (pe_glob (v := .int 8) rfl m8 ⟨_, rfl⟩) (nomark _))))), ?_⟩
  exact s_ret (ev_andV (ev_op ev_c (ev_var rfl) rv_I0) (fun _ => ev_op (ev_var rfl) ev_c rv_I0)) (fun H1 e => k H1 e)
theorem lt_is {i n : Nat} : decide ((i : Int) < (n : Int)) = decide (i < n) := by
  by_cases c : i < n
  · rw [decide_eq_true c, decide_eq_true (by omega)]
  · rw [decide_eq_false c, decide_eq_false (by omega)]
theorem scHb : FnScope ["heights", "board"] ["heights", "board"] (defScope sHas) := ⟨rfl, rfl, rfl, by decide +kernel, rfl, by decide +kernel, by decide +kernel⟩
def spHas (K : PySem.W.Frag) : Sp := fun vs H Q _ => ∃ (a : Addr) (hs : List Nat) (i : Nat), vs = [.ref a, .int (i : Int)] ∧ SqL K H a (nv hs) ∧ RetV (.bl (decide (i < hs.length))) H Q
theorem ok_has {f : Addr} {fd : FuncData} {k : Nat} (F : Fun K "has_board" "has_board" sHas f fd) (ml : mg "len" = none) : FnOk P w K mg base CX0 (k + 1) f fd ["heights", "board"] (spHas K) := by
  refine F.ok scHb (fun vs H Q E h => ?_) (fun cdv A outer s H vs Q E hr h => ?_)
  · obtain ⟨a, hs, i, rfl, _⟩ := h
    rfl
  obtain ⟨a, hs, i, rfl, hS, k⟩ := h
  refine ⟨_, pss_one (ps_ret (pe_cmpR op_lt (pv 1) (pe_callB call_len_seq rfl ml PySem.boot_len (pa_cons (pv 0) pa_nil)) (nomark _))), ?_⟩
  refine s_ret (ev_is (ev_op (ev_var rfl) (ev_len (K := K) (ev_var rfl) hS) rv_I0) (w := .bl (decide (i < hs.length))) ?_) fun H1 e => k H1 e
  rw [nv_len]
  exact congrArg V.bl lt_is
end
end Bf

set_option Elab.async false
set_option maxRecDepth 100000
set_option maxHeartbeats 2000000
namespace Bf
open PySem PySem.Spec PyProof.Rows L2 Evl
section
variable {P : Program} {w : World} {K : PySem.W.Frag} {mg : Str → Option Value} {base : Heap}
theorem scLg : FnScope ["heights", "best", "board", "width", "cells"] ["heights"] (defScope sLargest) := ⟨rfl, rfl, rfl, by decide +kernel, rfl, by decide +kernel, by decide +kernel⟩
abbrev trip (t : Nat × Nat × Nat) : List V := [.int (t.1 : Int), .int (t.2.1 : Int), .int (t.2.2 : Int)]
def spLargest (K : PySem.W.Frag) : Sp := fun vs H Q _ => ∃ (a : Addr) (hs : List Nat), vs = [.ref a] ∧ Hts K H a hs ∧ RetL (trip (lgUp hs hs.length)) H Q
theorem ok_largest {f : Addr} {fd : FuncData} {k : Nat} (F : Fun K "largest_poster" "largest_poster" sLargest f fd) (ml : mg "len" = none) (mr : mg "range" = none) (mm : mg "min" = none) : FnOk P w K mg base CX0 (k + 1) f fd ["heights"] (spLargest K) := by
  refine F.ok scLg (fun vs H Q E h => ?_) (fun cdv A outer s H vs Q E hr h => ?_)
  · obtain ⟨a, hs, rfl, _⟩ := h
    rfl
  obtain ⟨a, hs, rfl, hS, k⟩ := h
  refine ⟨_, pss_cons (ps_set (i := 1) scLg.nd rfl (.inl rfl) (pe_lst (pa_cons pe_int (pa_cons pe_int (pa_cons pe_int pa_nil)))))
    (pss_cons (ps_for PassesOwn.never rfl (pi_range1 rfl mr (pa_cons (pe_callB call_len_seq rfl ml PySem.boot_len (pa_cons (pv 0) pa_nil)) pa_nil)) (pg_name (i := 2) scLg.nd rfl (.inl rfl))
      (pss_one (ps_for PassesOwn.never rfl (pi_range2 rfl mr (pa_cons pe_int (pa_cons (pe_op op_add (pe_op op_sub (pe_callB call_len_seq rfl ml PySem.boot_len (pa_cons (pv 0) pa_nil)) (pv 2)) pe_int) pa_nil))) (pg_name (i := 3) scLg.nd rfl (.inl rfl))
        (pss_cons (ps_set (i := 4) scLg.nd rfl (.inl rfl) (pe_op op_mul (pv 3) (pe_callB (cr_min rfl) rfl mm (by decide +kernel) (pa_cons (pe_slice sl_list (pv 0) (po_some (pv 2)) (po_some (pe_op op_add (pv 2) (pv 3)))) pa_nil))))
        (pss_one (ps_if (pt_cmpR op_gt (pv 4) (pe_ix ix_list (pv 1) pe_int (fun _ _ => rfl)) (nomark _)) (pss_one (ps_set (i := 1) scLg.nd rfl (.inl rfl) (pe_lst (pa_cons (pv 4) (pa_cons (pv 2) (pa_cons (pv 3) pa_nil)))))) pss_nil))))))
    (pss_one (ps_ret (pv 1)))), ?_⟩
  have h8 := hS.len
  have hnl := nv_len hs
  refine q_asgL (el_lst (ea_cons ev_c (ea_cons ev_c (ea_cons ev_c ea_nil))) (by decide)) fun p H1 hp e1 h1 => ?_
  refine q_forR1 (n := ((nv hs).length : Int)) (ea_cons (ev_len (K := K) (ev_var rfl) (ex_l e1 hS.sq)) ea_nil) ⟨by omega, by omega⟩ (fun i σ' H' => ∃ (b : Addr) (y2 y3 y4 : Option V), σ' = [some (.ref a), some (.ref b), y2, y3, y4] ∧ H b = none ∧ Ex H H' ∧ H' b = some (.lst (trip (lgUp hs i))))
    (fun H2 e2 => ⟨p, none, none, none, rfl, hp, e1.trans e2, e2 _ _ h1⟩) ?_ ?_
  · rintro i σ' H' hi ⟨b, y2, y3, y4, rfl, hb, e, eb⟩
    have hi' : i < hs.length := by omega
    refine s_forR2 (lo := 1) (n := ((nv hs).length : Int) - (i : Int) + 1) (ea_cons ev_c (ea_cons (ev_op (ev_op (ev_len (K := K) (ev_var rfl) (ex_l e hS.sq)) (ev_var rfl) rv_I0) ev_c rv_I0) ea_nil)) ⟨by omega, by omega, by omega, by omega⟩
      (fun j σ' H' => ∃ (b : Addr) (y3 y4 : Option V), σ' = [some (.ref a), some (.ref b), some (.int (i : Int)), y3, y4] ∧ H b = none ∧ Ex H H' ∧ H' b = some (.lst (trip (lgRow hs i j (lgUp hs i)))))
      (fun H2 e2 => ⟨b, y3, y4, rfl, hb, e.trans e2, e2 _ _ eb⟩) ?_ ?_
    · rintro j σ' H' hj ⟨b, y3, y4, rfl, hb, e, eb⟩
      have hne : Mu50.part hs i (j + 1) ≠ [] := by
        intro c
        have := congrArg List.length c
        rw [part_len, List.length_nil] at this
        omega
      have hmin : Ev (tCB (rMin K) (tCons (tSl (rSlL K) (tVar 0) (tPart (tVar 2)) (tPart (tOp (rI0 fun i j => .int (i + j)) (tVar 2) (tVar 3)))) tNil)) [some (.ref a), some (.ref b), some (.int (i : Int)), some (.int (1 + (j : Int))), y4] H' (.int (Mu50.least (Mu50.part hs i (j + 1)) : Int)) := by
        refine ev_minL ?_ hne
        have := el_sl (K := K) (te := tVar 0) (tl := tPart (tVar 2)) (th := tPart (tOp (rI0 fun i j => .int (i + j)) (tVar 2) (tVar 3))) (σ := [some (.ref a), some (.ref b), some (.int (i : Int)), some (.int (1 + (j : Int))), y4]) (ev_var rfl) (eo_some (ev_var rfl)) (eo_some (ev_op (ev_var rfl) (ev_var rfl) rv_I0)) (ex_l e hS.sq)
        rw [cut_nv hs (i := i) (j := i + (j + 1)) rfl (by omega), show i + (j + 1) - i = j + 1 by omega] at this
        exact this
      refine q_asg (ev_is (ev_op (ev_var rfl) hmin (rv_I (Or.inl ⟨by omega, by omega⟩))) (w := .int ((Mu50.area hs (i, j + 1) : Nat) : Int)) ?_) fun H2 e2 => ?_
      · show V.int ((1 + (j : Int)) * (Mu50.least (Mu50.part hs i (j + 1)) : Int)) = V.int (((j + 1) * Mu50.least (Mu50.part hs i (j + 1)) : Nat) : Int)
        rw [Int.natCast_mul, Int.natCast_add, Int.add_comm]
        rfl
      · have eb2 := e2 _ _ eb
        refine s_when (et_test (ev_op (ev_var rfl) (ev_op (ev_var rfl) ev_c (rv_ixL (K := K) (sq_of eb2) (atI_nat (j := 0) rfl))) rv_I0)) (fun hc H3 e3 => ?_) (fun hc H3 e3 => ?_)
        · have hc' : (lgRow hs i j (lgUp hs i)).1 < Mu50.area hs (i, j + 1) := by
            have := of_decide_eq_true hc
            omega
          refine s_asgL (el_lst (ea_cons (ev_var rfl) (ea_cons (ev_var rfl) (ea_cons (ev_var rfl) ea_nil))) (by show 3 ≤ 100000; decide)) fun p H4 hp4 e4 h4 => ?_
          refine ⟨p, _, _, rfl, fresh_back ((e.trans e2).trans e3) hp4, ((e.trans e2).trans e3).trans e4, ?_⟩
          rw [h4, lgRow_succ, lg, if_pos hc']
          show some (HO.lst [V.int _, V.int _, V.int (1 + (j : Int))]) = some (HO.lst [V.int _, V.int _, V.int ((j + 1 : Nat) : Int)])
          rw [Int.natCast_add, Int.add_comm]
          rfl
        · have hc' : ¬ (lgRow hs i j (lgUp hs i)).1 < Mu50.area hs (i, j + 1) := by
            have := of_decide_eq_false hc
            omega
          refine ⟨b, _, _, rfl, hb, (e.trans e2).trans e3, ?_⟩
          rw [lgRow_succ, lg, if_neg hc']
          exact e3 _ _ eb2
    · rintro σ' H' ⟨b, y3, y4, rfl, hb, e, eb⟩
      refine ⟨b, _, _, _, rfl, hb, e, ?_⟩
      rw [show ((((nv hs).length : Int) - (i : Int) + 1) - 1).toNat = hs.length - i by omega] at eb
      exact eb
  · rintro σ' H' ⟨b, y2, y3, y4, rfl, hb, e, eb⟩
    refine s_ret (ev_var rfl) fun H2 e2 => k b H2 hb (e.trans e2) ?_
    rw [show ((nv hs).length : Int).toNat = hs.length by omega] at eb
    exact e2 _ _ eb
end
end Bf

set_option Elab.async false
set_option maxRecDepth 100000
set_option maxHeartbeats 2000000
namespace Bf
open PySem PySem.Spec PyProof.Rows L2 Evl
theorem plUp_le {f : List Nat} {w t : Nat} (h : ∀ x ∈ f, x ≤ 8) : ∀ i : Nat, (plUp f w t i).length ≤ 9 * i
  | 0 => Nat.le_refl _
  | i + 1 => by
    have ih := plUp_le (w := w) (t := t) h i
    have := least_top (i := i) (w := w) h
    show (plUp f w t i ++ plRow f w t i _).length ≤ _
    rw [List.length_append, plRow_len]
    omega
def rw2 (x : Nat × Nat) : List Int := [(x.1 : Int), (x.2 : Int)]
section
variable {P : Program} {w : World} {K : PySem.W.Frag} {mg : Str → Option Value} {base : Heap}
theorem scFt : FnScope ["heights", "width", "height", "places", "board", "lowest", "below"] ["heights", "width", "height"] (defScope sFitting) := ⟨rfl, rfl, rfl, by decide +kernel, rfl, by decide +kernel, by decide +kernel⟩
def spFitting (K : PySem.W.Frag) : Sp := fun vs H Q _ => ∃ (a : Addr) (hs : List Nat) (w t : Nat), vs = [.ref a, .int (w : Int), .int (t : Int)] ∧ Hts K H a hs ∧ 1 ≤ w ∧ w ≤ 8 ∧ 1 ≤ t ∧ t ≤ 8 ∧ RetN (fun H p => LL H p ((plUp hs w t (hs.length + 1 - w)).map rw2)) H Q
theorem ok_fitting {f : Addr} {fd : FuncData} {k : Nat} (F : Fun K "fitting_places" "fitting_places" sFitting f fd) (ml : mg "len" = none) (mr : mg "range" = none) (mm : mg "min" = none) : FnOk P w K mg base CX0 (k + 1) f fd ["heights", "width", "height"] (spFitting K) := by
  refine F.ok scFt (fun vs H Q E h => ?_) (fun cdv A outer s H vs Q E hr h => ?_)
  · obtain ⟨a, hs, w, t, rfl, _⟩ := h
    rfl
  obtain ⟨a, hs, w, t, rfl, hS, w1, w8, t1, t8, k⟩ := h
  refine ⟨_, pss_cons (ps_set (i := 3) scFt.nd rfl (.inl rfl) (pe_lst pa_nil))
    (pss_cons (ps_for PassesOwn.never rfl (pi_range1 rfl mr (pa_cons (pe_op op_add (pe_op op_sub (pe_callB call_len_seq rfl ml PySem.boot_len (pa_cons (pv 0) pa_nil)) (pv 1)) pe_int) pa_nil)) (pg_name (i := 4) scFt.nd rfl (.inl rfl))
      (pss_cons (ps_set (i := 5) scFt.nd rfl (.inl rfl) (pe_callB (cr_min rfl) rfl mm (by decide +kernel) (pa_cons (pe_slice sl_list (pv 0) (po_some (pv 4)) (po_some (pe_op op_add (pv 4) (pv 1)))) pa_nil)))
      (pss_one (ps_for PassesOwn.never rfl (pi_range1 rfl mr (pa_cons (pe_op op_add (pe_op op_sub (pv 5) (pv 2)) pe_int) pa_nil)) (pg_name (i := 6) scFt.nd rfl (.inl rfl))
        (pss_one (ps_expr (pe_bm PySem.F.plainAttrs_list PySem.F.slot_list_append PySem.F.type_list_append mt_append (pv 3) (pa_cons (pe_lst (pa_cons (pv 4) (pa_cons (pv 6) pa_nil))) pa_nil))))))))
    (pss_one (ps_ret (pv 3)))), ?_⟩
  have h8 := hS.len
  have hnl := nv_len hs
  refine q_asgL (el_lst ea_nil (by decide)) fun p H1 hp e1 h1 => ?_
  refine q_forR1N (n := ((nv hs).length : Int) - (w : Int) + 1) (ea_cons (ev_op (ev_op (ev_len (K := K) (ev_var rfl) (ex_l e1 hS.sq)) (ev_var rfl) rv_I0) ev_c rv_I0) ea_nil) ⟨by omega, by omega⟩
    (fun i σ' H' => ∃ (y4 y5 y6 : Option V), σ' = [some (.ref a), some (.int (w : Int)), some (.int (t : Int)), some (.ref p), y4, y5, y6] ∧ Ex H H' ∧ LL H' p ((plUp hs w t i).map rw2))
    (fun H2 e2 => ⟨none, none, none, rfl, e1.trans e2, [], LG.nil (e2 _ _ h1)⟩) ?_ ?_
  · rintro i σ' H' hi ⟨y4, y5, y6, rfl, e, el⟩
    have hi' : i + w ≤ hs.length := by omega
    refine q_asg (ev_minS (K := K) (hs := hs) (i := i) (j := i + w) (ev_var rfl) (eo_some (ev_var rfl)) (eo_some (ev_op (ev_var rfl) (ev_var rfl) rv_I0)) (ex_l e hS.sq) rfl (by omega) (by omega) (by omega)) fun H2 e2 => ?_
    rw [show i + w - i = w by omega]
    have ht8 := least_top (i := i) (w := w) hS.top
    refine s_forR1N (n := (Mu50.least (Mu50.part hs i w) : Int) - (t : Int) + 1) (ea_cons (ev_op (ev_op (ev_var rfl) (ev_var rfl) rv_I0) ev_c rv_I0) ea_nil) ⟨by omega, by omega⟩
      (fun j σ' H' => ∃ (y6 : Option V), σ' = [some (.ref a), some (.int (w : Int)), some (.int (t : Int)), some (.ref p), some (.int (i : Int)), some (.int (Mu50.least (Mu50.part hs i w) : Int)), y6] ∧ Ex H H' ∧ LL H' p ((plUp hs w t i ++ plRow hs w t i j).map rw2))
      (fun H3 e3 => ⟨y6, rfl, (e.trans e2).trans e3, ?_⟩) ?_ ?_
    · rw [show plRow hs w t i 0 = [] from rfl, List.append_nil]
      exact (el.ex e2).ex e3
    · rintro j σ' H' hj ⟨y6, rfl, e, as, el⟩
      refine s_appL (K := K) el.lst (ev_var rfl) (el_lst (ea_cons (ev_var rfl) (ea_cons (ev_var rfl) ea_nil)) (by show 2 ≤ 100000; decide)) ?_ fun q H3 hq e3 h3 => ?_
      · have := plUp_le (w := w) (t := t) hS.top i
        rw [List.length_map, el.len, List.length_map, List.length_append, plRow_len]
        omega
      · refine ⟨_, rfl, Ex.mut (e.trans e3) hp, as ++ [q], ?_⟩
        rw [plRow_succ, ← List.append_assoc, List.map_append]
        exact (el.exRow e3).snoc (x := rw2 (i, j)) (RowAt.new (r := rw2 (i, j)) el.lst hq h3)
    · rintro σ' H' ⟨y6, rfl, e, el⟩
      refine ⟨_, _, _, rfl, e, ?_⟩
      rw [show ((Mu50.least (Mu50.part hs i w) : Int) - (t : Int) + 1).toNat = Mu50.least (Mu50.part hs i w) + 1 - t by omega] at el
      exact el
  · rintro σ' H' ⟨y4, y5, y6, rfl, e, el⟩
    refine s_ret (ev_var rfl) fun H2 e2 => k p H2 hp (e.trans e2) ?_
    rw [show (((nv hs).length : Int) - (w : Int) + 1).toNat = hs.length + 1 - w by omega] at el
    exact el.ex e2
end
end Bf

set_option Elab.async false
set_option maxRecDepth 100000
set_option maxHeartbeats 2000000
namespace Bf
open PySem PySem.Spec PyProof.Rows L2 Evl
theorem total_acc : ∀ (l : List Nat) (a : Nat), l.foldl (fun (a b : Nat) => a + b) a = a + Mu50.total l
  | [], a => rfl
  | x :: l, a => by
    unfold Mu50.total
    rw [List.foldl_cons, List.foldl_cons, total_acc l, total_acc l]
    omega
theorem total_cons (x : Nat) (l : List Nat) : Mu50.total (x :: l) = x + Mu50.total l := by
  show l.foldl (fun (a b : Nat) => a + b) (0 + x) = _
  rw [total_acc]
  omega
theorem total_nums : ∀ (l : List Nat), (Mu50.nums l).sum = (Mu50.total l : Int)
  | [] => rfl
  | x :: l => by
    rw [total_cons]
    show ((x : Int) :: Mu50.nums l).sum = _
    rw [List.sum_cons, total_nums l]
    omega
theorem et_yes {σ : L2.St} {H : Hp} : EvT tYes σ H true := fun H1 _ _ q => q H1 (Ex.refl H1)
/-- what a comprehension gives, each turn one -/
theorem given_all {l : List Nat} {v : Nat → V} (h : ∀ (i x : Nat), l[i]? = some x → v i = .int (x : Int)) : given l.length (fun _ => true) v = nv l := by
  unfold given
  rw [List.filter_eq_self.mpr (fun _ _ => rfl)]
  refine List.ext_getElem? fun i => ?_
  by_cases c : i < l.length
  · rw [List.getElem?_map, List.getElem?_range c, nv_get (List.getElem?_eq_getElem c)]
    show some (v i) = _
    rw [h i _ (List.getElem?_eq_getElem c)]
  · rw [List.getElem?_eq_none (by rw [List.length_map, List.length_range]; omega), List.getElem?_eq_none (by rw [nv_len]; omega)]
theorem ev_sumL {K : PySem.W.Frag} {σ : L2.St} {H : Hp} {te : TE} {l : List Nat} (h : EvL te σ H (nv l)) : Ev (tCB (rSum K) (tCons te tNil)) σ H (.int (Mu50.total l : Int)) := fun H1 e Q q =>
  h H1 e _ fun p H2 _ e2 h2 => ⟨p, Mu50.nums l, rfl, sq_of h2, by
    rw [total_nums]
    exact q H2 e2⟩
section
variable {P : Program} {w : World} {K : PySem.W.Frag} {mg : Str → Option Value} {base : Heap}
theorem scMs : FnScope ["heights", "board", "width", "height", "own"] ["heights", "board", "width", "height"] (defScope sMissing) := ⟨rfl, rfl, rfl, by decide +kernel, rfl, by decide +kernel, by decide +kernel⟩
def spMissing (K : PySem.W.Frag) : Sp := fun vs H Q _ => ∃ (a : Addr) (hs : List Nat) (i w t : Nat), vs = [.ref a, .int (i : Int), .int (w : Int), .int (t : Int)] ∧ SqL K H a (nv hs) ∧ hs.length ≤ 8 ∧ RetV (.int (Mu50.raised hs i w t : Int)) H Q
theorem ok_missing {f : Addr} {fd : FuncData} {k : Nat} (F : Fun K "missing_cells" "missing_cells" sMissing f fd) (ms : mg "sum" = none) (mx : mg "max" = none) : FnOk P w K mg base CX0 (k + 1) f fd ["heights", "board", "width", "height"] (spMissing K) := by
  refine F.ok scMs (fun vs H Q E h => ?_) (fun cdv A outer s H vs Q E hr h => ?_)
  · obtain ⟨a, hs, i, w, t, rfl, _⟩ := h
    rfl
  obtain ⟨a, hs, i, w, t, rfl, hS, h8, k⟩ := h
  refine ⟨_, pss_one (ps_ret (pe_callB (cr_sum rfl) rfl ms (by decide +kernel) (pa_cons (pe_lc (own := [("own", 4)]) (g := gName 4) (tt := tYes) rfl scMs.nd (pi_list (pe_slice sl_list (pv 0) (po_some (pv 1)) (po_some (pe_op op_add (pv 1) (pv 2)))))
    (blkOk_by (N := ["heights", "board", "width", "height", "own"]) (sc := defScope sMissing) (by decide +kernel)) (fun _ _ _ _ _ => pg_name (i := 4) scMs.nd rfl (Or.inl rfl)) (fun _ _ _ _ _ => pts_nil)
    (fun _ _ _ _ _ => pe_callB (call_max2 rfl) rfl mx (by decide +kernel) (pa_cons (pe_op op_sub (pv 3) (pv 4)) (pa_cons pe_int pa_nil)))) pa_nil))), ?_⟩
  have hcut : EvL (tSl (rSlL K) (tVar 0) (tPart (tVar 1)) (tPart (tOp (rI0 fun i j => .int (i + j)) (tVar 1) (tVar 2)))) [some (.ref a), some (.int (i : Int)), some (.int (w : Int)), some (.int (t : Int)), none] H (nv (Mu50.part hs i w)) := by
    have := el_sl (K := K) (te := tVar 0) (tl := tPart (tVar 1)) (th := tPart (tOp (rI0 fun i j => .int (i + j)) (tVar 1) (tVar 2))) (σ := [some (.ref a), some (.int (i : Int)), some (.int (w : Int)), some (.int (t : Int)), none]) (ev_var rfl) (eo_some (ev_var rfl)) (eo_some (ev_op (ev_var rfl) (ev_var rfl) rv_I0)) hS
    rw [cut_nv hs (i := i) (j := i + w) rfl (by omega), show i + w - i = w by omega] at this
    exact this
  have hz : (nv (Mu50.part hs i w)).length ≤ 40000 := by
    rw [nv_len, part_len]
    omega
  have hval : ∀ (j x : Nat), (nv (Mu50.part hs i w))[j]? = some (.int (x : Int)) → (((Mu50.part hs i w).map fun (x : Nat) => t - x)[j]? = some (t - x)) := by
    intro j x hx
    unfold nv Mu50.nums at hx
    rw [List.map_map, List.getElem?_map] at hx
    rw [List.getElem?_map]
    cases c : (Mu50.part hs i w)[j]? with
    | none => rw [c] at hx; cases hx
    | some y =>
      rw [c] at hx
      have e1 : V.int (y : Int) = V.int (x : Int) := Option.some.inj hx
      have e2 : (y : Int) = (x : Int) := V.int.inj e1
      have e3 : y = x := by omega
      rw [e3]
      rfl
  refine s_ret (ev_sumL (K := K) (l := (Mu50.part hs i w).map fun (x : Nat) => t - x) ?_) fun H1 e => k H1 e
  have hl := el_lcNL (K := K) (j := 4) (vs := [4]) (t := tYes) (te := tCB rMax2 (tCons (tOp (rI0 fun i j => .int (i - j)) (tVar 3) (tVar 4)) (tCons (tC (.int 0)) tNil))) (fun _ => true) (fun j => .int (((((Mu50.part hs i w).map fun (x : Nat) => t - x).getD j 0 : Nat)) : Int)) hcut hz (fun x => rfl)
    (fun _ _ _ _ _ => et_yes) (fun j x H1 e hx _ => by
      obtain ⟨y, rfl⟩ : ∃ y : Nat, x = .int (y : Int) := by
        unfold nv Mu50.nums at hx
        rw [List.map_map, List.getElem?_map] at hx
        cases c : (Mu50.part hs i w)[j]? with
        | none => rw [c] at hx; cases hx
        | some y =>
          rw [c] at hx
          exact ⟨y, (Option.some.inj hx).symm⟩
      refine ev_is (ev_max2 (ev_op (ev_var rfl) (ev_var rfl) rv_I0) ev_c) ?_
      rw [List.getD_eq_getElem?_getD, hval j y hx]
      show V.int (if (0 : Int) > (t : Int) - (y : Int) then 0 else (t : Int) - (y : Int)) = V.int ((t - y : Nat) : Int)
      congr 1
      split <;> omega)
  have he : given (nv (Mu50.part hs i w)).length (fun _ => true) (fun j => V.int (((((Mu50.part hs i w).map fun (x : Nat) => t - x).getD j 0 : Nat)) : Int)) = nv ((Mu50.part hs i w).map fun (x : Nat) => t - x) := by
    have := given_all (l := (Mu50.part hs i w).map fun (x : Nat) => t - x) (v := fun j => V.int (((((Mu50.part hs i w).map fun (x : Nat) => t - x).getD j 0 : Nat)) : Int)) (fun j x hx => by
      rw [List.getD_eq_getElem?_getD, hx]
      rfl)
    rw [List.length_map] at this
    rw [nv_len]
    exact this
  rw [he] at hl
  exact hl
theorem scLr : FnScope ["heights", "width", "height", "best", "board", "cells"] ["heights", "width", "height"] (defScope sLeast) := ⟨rfl, rfl, rfl, by decide +kernel, rfl, by decide +kernel, by decide +kernel⟩
abbrev duo (t : Nat × Nat) : List V := [.int (t.1 : Int), .int (t.2 : Int)]
def spLeast (K : PySem.W.Frag) : Sp := fun vs H Q _ => ∃ (a : Addr) (hs : List Nat) (w t : Nat), vs = [.ref a, .int (w : Int), .int (t : Int)] ∧ Hts K H a hs ∧ 1 ≤ w ∧ w ≤ hs.length ∧ RetL (duo (lrUp hs w t (hs.length - w))) H Q
theorem ok_least {f g : Addr} {fd gd : FuncData} {k : Nat} (F : Fun K "least_raise" "least_raise" sLeast f fd) (G : FnOk P w K mg base CX0 k g gd ["heights", "board", "width", "height"] (spMissing K)) (bG : Binds K gd ["heights", "board", "width", "height"] []) (kG : PySem.W.keepIn K (.ref g) = true) (mG : mg "missing_cells" = some (.ref g))
    (ml : mg "len" = none) (mr : mg "range" = none) : FnOk P w K mg base CX0 (k + 1) f fd ["heights", "width", "height"] (spLeast K) := by
  refine F.ok scLr (fun vs H Q E h => ?_) (fun cdv A outer s H vs Q E hr h => ?_)
  · obtain ⟨a, hs, w, t, rfl, _⟩ := h
    rfl
  obtain ⟨a, hs, w, t, rfl, hS, w1, w2, k⟩ := h
  refine ⟨_, pss_cons (ps_set (i := 3) scLr.nd rfl (.inl rfl) (pe_lst (pa_cons (pe_call G hr rfl mG kG bG .nil pass0 (pa_cons (pv 0) (pa_cons pe_int (pa_cons (pv 1) (pa_cons (pv 2) pa_nil))))) (pa_cons pe_int pa_nil))))
    (pss_cons (ps_for PassesOwn.never rfl (pi_range2 rfl mr (pa_cons pe_int (pa_cons (pe_op op_add (pe_op op_sub (pe_callB call_len_seq rfl ml PySem.boot_len (pa_cons (pv 0) pa_nil)) (pv 1)) pe_int) pa_nil))) (pg_name (i := 4) scLr.nd rfl (.inl rfl))
      (pss_cons (ps_set (i := 5) scLr.nd rfl (.inl rfl) (pe_call G hr rfl mG kG bG .nil pass0 (pa_cons (pv 0) (pa_cons (pv 4) (pa_cons (pv 1) (pa_cons (pv 2) pa_nil))))))
      (pss_one (ps_if (pt_cmpR op_lt (pv 5) (pe_ix ix_list (pv 3) pe_int (fun _ _ => rfl)) (nomark _)) (pss_one (ps_set (i := 3) scLr.nd rfl (.inl rfl) (pe_lst (pa_cons (pv 5) (pa_cons (pv 4) pa_nil))))) pss_nil))))
    (pss_one (ps_ret (pv 3)))), ?_⟩
  have h8 := hS.len
  have hnl := nv_len hs
  have hmiss : ∀ (i : Nat) (H1 : Hp), Ex H H1 → ∀ Q : VK, RetV (.int (Mu50.raised hs i w t : Int)) H1 Q → spMissing K [.ref a, .int (i : Int), .int (w : Int), .int (t : Int)] H1 Q E0 := fun i H1 e Q q => ⟨a, hs, i, w, t, rfl, ex_l e hS.sq, h8, q⟩
  refine q_asgL (el_lst (ea_cons (ev_callV (z := .int (Mu50.raised hs 0 w t : Int)) (ea_cons (ev_var rfl) (ea_cons ev_c (ea_cons (ev_var rfl) (ea_cons (ev_var rfl) ea_nil)))) (fun H1 e Q q => hmiss 0 H1 e Q q)) (ea_cons ev_c ea_nil)) (by show 2 ≤ 100000; decide)) fun p H1 hp e1 h1 => ?_
  refine q_forR2 (lo := 1) (n := ((nv hs).length : Int) - (w : Int) + 1) (ea_cons ev_c (ea_cons (ev_op (ev_op (ev_len (K := K) (ev_var rfl) (ex_l e1 hS.sq)) (ev_var rfl) rv_I0) ev_c rv_I0) ea_nil)) ⟨by omega, by omega, by omega, by omega⟩
    (fun i σ' H' => ∃ (b : Addr) (y4 y5 : Option V), σ' = [some (.ref a), some (.int (w : Int)), some (.int (t : Int)), some (.ref b), y4, y5] ∧ H b = none ∧ Ex H H' ∧ H' b = some (.lst (duo (lrUp hs w t i))))
    (fun H2 e2 => ⟨p, none, none, rfl, hp, e1.trans e2, e2 _ _ h1⟩) ?_ ?_
  · rintro i σ' H' hi ⟨b, y4, y5, rfl, hb, e, eb⟩
    have ei : (1 + (i : Int)) = ((i + 1 : Nat) : Int) := by omega
    rw [ei]
    refine q_asg (ev_callV (z := .int (Mu50.raised hs (i + 1) w t : Int)) (ea_cons (ev_var rfl) (ea_cons (ev_var rfl) (ea_cons (ev_var rfl) (ea_cons (ev_var rfl) ea_nil)))) (fun H1 e1 Q q => hmiss (i + 1) H1 (e.trans e1) Q q)) fun H2 e2 => ?_
    have eb2 := e2 _ _ eb
    refine s_when (et_test (ev_op (ev_var rfl) (ev_op (ev_var rfl) ev_c (rv_ixL (K := K) (sq_of eb2) (atI_nat (j := 0) rfl))) rv_I0)) (fun hc H3 e3 => ?_) (fun hc H3 e3 => ?_)
    · have hc' : Mu50.raised hs (i + 1) w t < (lrUp hs w t i).1 := by
        have := of_decide_eq_true hc
        omega
      refine s_asgL (el_lst (ea_cons (ev_var rfl) (ea_cons (ev_var rfl) ea_nil)) (by show 2 ≤ 100000; decide)) fun p H4 hp4 e4 h4 => ?_
      refine ⟨p, _, _, rfl, fresh_back ((e.trans e2).trans e3) hp4, ((e.trans e2).trans e3).trans e4, ?_⟩
      rw [h4, lrUp, lr, if_pos hc']
    · have hc' : ¬ Mu50.raised hs (i + 1) w t < (lrUp hs w t i).1 := by
        have := of_decide_eq_false hc
        omega
      refine ⟨b, _, _, rfl, hb, (e.trans e2).trans e3, ?_⟩
      rw [lrUp, lr, if_neg hc']
      exact e3 _ _ eb2
  · rintro σ' H' ⟨b, y4, y5, rfl, hb, e, eb⟩
    refine s_ret (ev_var rfl) fun H2 e2 => k b H2 hb (e.trans e2) ?_
    rw [show ((((nv hs).length : Int) - (w : Int) + 1) - 1).toNat = hs.length - w by omega] at eb
    exact e2 _ _ eb
end
end Bf

set_option Elab.async false
set_option maxRecDepth 100000
set_option maxHeartbeats 2000000
namespace Bf
open PySem PySem.Spec PyProof.Rows L2 Evl
section
variable {P : Program} {w : World} {K : PySem.W.Frag} {mg : Str → Option Value} {base : Heap}
theorem scHp : FnScope ["heights", "first", "past", "level", "parts", "start", "board"] ["heights", "first", "past", "level"] (defScope sHigher) := ⟨rfl, rfl, rfl, by decide +kernel, rfl, by decide +kernel, by decide +kernel⟩
def spHigher (K : PySem.W.Frag) : Sp := fun vs H Q _ => ∃ (a : Addr) (hs : List Nat) (i j m : Nat), vs = [.ref a, .int (i : Int), .int (j : Int), .int (m : Int)] ∧ Hts K H a hs ∧ i ≤ j ∧ j ≤ hs.length ∧ RetN (fun H p => LP H p (hp m i i (Mu50.part hs i (j - i)))) H Q
theorem ok_higher {f : Addr} {fd : FuncData} {k : Nat} (F : Fun K "higher_parts" "higher_parts" sHigher f fd) (mr : mg "range" = none) : FnOk P w K mg base CX0 (k + 1) f fd ["heights", "first", "past", "level"] (spHigher K) := by
  refine F.ok scHp (fun vs H Q E h => ?_) (fun cdv A outer s H vs Q E hr h => ?_)
  · obtain ⟨a, hs, i, j, m, rfl, _⟩ := h
    rfl
  obtain ⟨a, hs, i, j, m, rfl, hS, hij, hj, k⟩ := h
  refine ⟨_, pss_cons (ps_set (i := 4) scHp.nd rfl (.inl rfl) (pe_lst pa_nil))
    (pss_cons (ps_set (i := 5) scHp.nd rfl (.inl rfl) (pv 1))
    (pss_cons (ps_for PassesOwn.never rfl (pi_range2 rfl mr (pa_cons (pv 1) (pa_cons (pe_op op_add (pv 2) pe_int) pa_nil))) (pg_name (i := 6) scHp.nd rfl (.inl rfl))
      (pss_one (ps_if (PW.pt (pw_or (pt_cmpR op_eq (pv 6) (pv 2) (nomark _)) (pw_or1 (pt_cmpR op_le (pe_ix ix_list (pv 0) (pv 6) (fun _ _ => rfl)) (pv 3) (nomark _)))))
        (pss_cons (ps_if (pt_cmpR op_lt (pv 5) (pv 6) (nomark _)) (pss_one (ps_expr (pe_bm PySem.F.plainAttrs_list PySem.F.slot_list_append PySem.F.type_list_append mt_append (pv 4) (pa_cons (pe_tup (pa_cons (pv 5) (pa_cons (pv 6) pa_nil))) pa_nil)))) pss_nil)
        (pss_one (ps_set (i := 5) scHp.nd rfl (.inl rfl) (pe_op op_add (pv 6) pe_int)))) pss_nil)))
    (pss_one (ps_ret (pv 4))))), ?_⟩
  have h8 := hS.len
  have hnl := nv_len hs
  have hlen : (Mu50.part hs i (j - i)).length = j - i := by
    rw [part_len]
    omega
  refine q_asgL (el_lst ea_nil (by decide)) fun p H1 hp e1 h1 => ?_
  refine q_asg (ev_var rfl) fun H2 e2 => ?_
  refine q_forR2 (lo := (i : Int)) (n := (j : Int) + 1) (ea_cons (ev_var rfl) (ea_cons (ev_op (ev_var rfl) ev_c rv_I0) ea_nil)) ⟨by omega, by omega, by omega, by omega⟩
    (fun c σ' H' => ∃ (s : Nat) (ps : List (Nat × Nat)) (y6 : Option V), σ' = [some (.ref a), some (.int (i : Int)), some (.int (j : Int)), some (.int (m : Int)), some (.ref p), some (.int (s : Int)), y6] ∧ Ex H H' ∧ LP H' p ps ∧ ps.length ≤ c ∧
      ((c ≤ j - i ∧ Bf.hp m i i (Mu50.part hs i (j - i)) = ps ++ Bf.hp m s (i + c) ((Mu50.part hs i (j - i)).drop c)) ∨ (c = j - i + 1 ∧ Bf.hp m i i (Mu50.part hs i (j - i)) = ps)))
    (fun H3 e3 => ⟨i, [], none, rfl, (e1.trans e2).trans e3, ⟨[], LG.nil (e3 _ _ (e2 _ _ h1))⟩, Nat.le_refl _, .inl ⟨Nat.zero_le _, rfl⟩⟩) ?_ ?_
  · rintro c σ' H' hc ⟨s, ps, y6, rfl, e, el, hps, hq⟩
    have ec : ((i : Int) + (c : Int)) = ((i + c : Nat) : Int) := by omega
    rw [ec]
    have hq : c ≤ j - i ∧ Bf.hp m i i (Mu50.part hs i (j - i)) = ps ++ Bf.hp m s (i + c) ((Mu50.part hs i (j - i)).drop c) := by
      rcases hq with q | q
      · exact q
      · omega
    obtain ⟨hcj, hq⟩ := hq
    -- what the turn does where a part ends
    have hend : ∀ (rest : List (Nat × Nat)) (H2 : Hp) (D : Ends), Ex H' H2 → Bf.hp m s (i + c) ((Mu50.part hs i (j - i)).drop c) = (if s < i + c then [(s, i + c)] else []) ++ rest →
        (∀ (ps' : List (Nat × Nat)) (σ'' : L2.St) (H'' : Hp), σ'' = [some (.ref a), some (.int (i : Int)), some (.int (j : Int)), some (.int (m : Int)), some (.ref p), some (.int ((i + c + 1 : Nat) : Int)), some (.int ((i + c : Nat) : Int))] → Ex H H'' → LP H'' p ps' → ps'.length ≤ c + 1 → Bf.hp m i i (Mu50.part hs i (j - i)) = ps' ++ rest → D.nx σ'' H'') →
        tSeq (tIfS (tTest (tOp (rI0 fun i j => .bl (decide (i < j))) (tVar 5) (tVar 6))) (tDrop (tBM K "list" rAppend (tVar 4) (tCons (tTup (tCons (tVar 5) (tCons (tVar 6) tNil))) tNil))) tNext) (tAsg (tOp (rI0 fun i j => .int (i + j)) (tVar 6) (tC (.int 1))) (gName 5)) D [some (.ref a), some (.int (i : Int)), some (.int (j : Int)), some (.int (m : Int)), some (.ref p), some (.int (s : Int)), some (.int ((i + c : Nat) : Int))] H2 := by
      intro rest H2 D e2 hr hD
      refine q_when (et_test (ev_op (ev_var rfl) (ev_var rfl) rv_I0)) (fun hc2 H3 e3 => ?_) (fun hc2 H3 e3 => ?_)
      · have hc' : s < i + c := by
          have := of_decide_eq_true hc2
          omega
        rw [if_pos hc'] at hr
        obtain ⟨as, el⟩ := (el.ex e2).ex e3
        refine s_appU (K := K) el.lst (ev_var rfl) (eu_tup (ea_cons (ev_var rfl) (ea_cons (ev_var rfl) ea_nil)) (by show 2 ≤ 100000; decide)) (by rw [List.length_map, el.len]; omega) fun q H4 hq4 e4 h4 => ?_
        refine s_asg (ev_op (ev_var rfl) ev_c rv_I0) fun H5 e5 => ?_
        refine hD (ps ++ [(s, i + c)]) _ H5 rfl ((Ex.mut (((e.trans e2).trans e3).trans e4) hp).trans e5) (LP.ex e5 ⟨as ++ [q], (el.exPair e4).snoc (PairAt.new (r := (s, i + c)) el.lst hq4 h4)⟩) (by rw [List.length_append, List.length_singleton]; omega) ?_
        rw [hq, hr, List.append_assoc]
      · have hc' : ¬ s < i + c := by
          have := of_decide_eq_false hc2
          omega
        rw [if_neg hc'] at hr
        refine s_asg (ev_op (ev_var rfl) ev_c rv_I0) fun H5 e5 => ?_
        refine hD ps _ H5 rfl (((e.trans e2).trans e3).trans e5) (((el.ex e2).ex e3).ex e5) (by omega) ?_
        rw [hq, hr]
        rfl
    by_cases hlast : c = j - i
    · refine s_when (et_or (a := true) (b := true) (et_is (et_test (ev_op (ev_var rfl) (ev_var rfl) (rv_eq rfl))) (decide_eq_true (by congr 1; omega))) (fun h => by cases h)) (fun _ H3 e3 => ?_) (fun h => by cases h)
      refine hend [] H3 _ e3 ?_ fun ps' σ'' H'' e1 e2 e3 e4 e5 => ?_
      · rw [hlast, List.drop_eq_nil_of_le (by omega), hp_nil, List.append_nil]
      · rw [List.append_nil] at e5
        exact ⟨i + c + 1, ps', _, e1, e2, e3, e4, .inr ⟨by omega, e5⟩⟩
    · have hcl : c < (Mu50.part hs i (j - i)).length := by omega
      obtain ⟨x, hx⟩ : ∃ x, (Mu50.part hs i (j - i))[c]? = some x := ⟨_, List.getElem?_eq_getElem hcl⟩
      have hx2 : hs[i + c]? = some x := by
        rw [part_get hs i (j - i) c (by omega)] at hx
        exact hx
      have hdrop : (Mu50.part hs i (j - i)).drop c = x :: (Mu50.part hs i (j - i)).drop (c + 1) := by
        rw [List.drop_eq_getElem_cons hcl]
        congr 1
        exact Option.some.inj ((List.getElem?_eq_getElem hcl).symm.trans hx)
      refine s_when (b := (false || decide ((x : Int) ≤ (m : Int)))) (et_or (a := false) (et_is (et_test (ev_op (ev_var rfl) (ev_var rfl) (rv_eq rfl))) (decide_eq_false (by intro h; have := V.int.inj h; omega))) (fun _ => et_test (ev_op (ev_op (ev_var rfl) (ev_var rfl) (rv_ixL (K := K) (ex_l e hS.sq) (nv_at rfl hx2))) (ev_var rfl) rv_I0))) (fun hb H3 e3 => ?_) (fun hb H3 e3 => ?_)
      · have hb' : x ≤ m := by
          rw [Bool.false_or] at hb
          have := of_decide_eq_true hb
          omega
        refine hend (Bf.hp m (i + c + 1) (i + c + 1) ((Mu50.part hs i (j - i)).drop (c + 1))) H3 _ e3 ?_ fun ps' σ'' H'' e1 e2 e3 e4 e5 => ?_
        · rw [hdrop, hp_low hb']
        · exact ⟨i + c + 1, ps', _, e1, e2, e3, e4, .inl ⟨by omega, e5⟩⟩
      · have hb' : m < x := by
          rw [Bool.false_or] at hb
          have := of_decide_eq_false hb
          omega
        refine ⟨s, ps, _, rfl, e.trans e3, el.ex e3, by omega, .inl ⟨by omega, ?_⟩⟩
        rw [hq, hdrop, hp_high hb']
        rfl
  · rintro σ' H' ⟨s, ps, y6, rfl, e, el, _, hq⟩
    have hn : ((j : Int) + 1 - (i : Int)).toNat = j - i + 1 := by omega
    rw [hn] at hq
    refine s_ret (ev_var rfl) fun H2 e2 => k p H2 hp (e.trans e2) ?_
    rcases hq with q | q
    · omega
    · rw [q.2]
      exact el.ex e2
end
end Bf

set_option Elab.async false
set_option maxRecDepth 100000
set_option maxHeartbeats 2000000
namespace Bf
open PySem PySem.Spec PyProof.Rows L2 Evl
/-! ### more words for lists of lists -/
section
variable {K : PySem.W.Frag} {σ : L2.St} {H : Hp} {D : Ends} {tu tz : TS} {te : TE} {ta : TE}
/-- [new list for j in range(lo, n)] -/
theorem en_lcR2 {tr : TA} {j : Nat} {vs : List Nat} {lo n : Int} (rows : Nat → List Int) (h : EvA tr σ H [.int lo, .int n]) (hn : 0 ≤ lo ∧ lo ≤ 1000 ∧ -1000 ≤ n ∧ n ≤ 1000) (hw : ∀ x, wipe ((wipe σ vs).set j (some x)) vs = wipe σ vs)
    (he : ∀ (i : Nat) H1, Ex H H1 → lo + (i : Int) < n → EvL te ((wipe σ vs).set j (some (.int (lo + (i : Int))))) H1 ((rows i).map V.int)) :
    EvN (fun H p => LL H p ((List.range (n - lo).toNat).map rows)) (tLc (iRng2 tr) (gName j) tYes te vs) σ H := fun H0 e Q q => h H0 e _ fun H1 e1 => ⟨lo, n, rfl, ⟨by omega, by omega, by omega, by omega⟩, fun Dl hD =>
  lc_range (lo := lo) (n := (n - lo).toNat) (fun i H' => Ex H1 H' ∧ LL H' Dl ((List.range i).map rows)) ⟨Ex.new hD, [], LG.nil upd_same⟩ (fun i H' hi ⟨p1, as, p2⟩ => ⟨hw _, by
    simp only [tYes, if_true]
    exact he i H' ((e.trans e1).trans p1) (by omega) H' (Ex.refl H') _ fun r H4 hr e4 h4 =>
      ⟨as.map V.ref, e4 _ _ p2.lst, sz_lt (by rw [List.length_map, p2.len, List.length_map, List.length_range]; omega), Ex.mut (p1.trans e4) hD, as ++ [r], by
        rw [List.range_succ, List.map_append]
        exact (p2.exRow e4).snoc (x := rows i) (RowAt.new p2.lst hr h4)⟩⟩) (fun H' p => q Dl H' (fresh_back e1 hD) (e1.trans p.1) p.2)⟩
theorem row_ne {H : Hp} {a l : Addr} {as : List Addr} {r : List Int} (h : H a = some (.lst (r.map V.int))) (hl : H l = some (.lst (as.map V.ref))) (hr : r ≠ []) : a ≠ l := by
  intro c
  rw [c, hl] at h
  have e := HO.lst.inj (Option.some.inj h)
  cases r with
  | nil => exact hr rfl
  | cons z r =>
    cases as with
    | nil => cases e
    | cons b as => cases e
/-- xs.extend(new list of lists) -/
theorem s_extN {l : Addr} {as : List Addr} {xs ys : List (List Int)} (hl : LG RowAt H l as xs) (ha : Ev ta σ H (.ref l)) (h : EvN (fun H p => LL H p ys) te σ H) (hne : ∀ r ∈ ys, r ≠ []) (hz : xs.length + ys.length ≤ 100000) (k : ∀ H1 o, Ex H H1 → LL (upd H1 l o) l (xs ++ ys) → D.nx σ (upd H1 l o)) :
    tDrop (tBM K "list" rExtend ta (tCons te tNil)) D σ H := ha H (Ex.refl H) _ fun H1 e1 =>
  ⟨Or.inl ⟨rfl, _, sq_of (e1 _ _ hl.lst)⟩, h H1 e1 _ fun q H2 _ e2 ⟨bs, hb⟩ => ⟨l, q, as.map V.ref, bs.map V.ref, rfl, rfl, e2 _ _ (e1 _ _ hl.lst), hb.lst, sz_of (by rw [List.length_map, List.length_map, hl.len, hb.len]; exact hz),
    k H2 _ (e1.trans e2) ⟨as ++ bs, (hl.exRow (e1.trans e2)).add hb.len fun j a x haj hx => by
      have h1 : H2 a = some (.lst (x.map V.int)) := (less_some (hb.at_ j a x haj hx)).2
      exact less_of h1 (row_ne h1 (e2 _ _ (e1 _ _ hl.lst)) (hne x (List.mem_of_getElem? hx)))⟩⟩⟩
end
def told (s : Mu50.Stroke) : List Int := Mu50.nums (Mu50.toldStroke s)
theorem told_ne (s : Mu50.Stroke) : told s ≠ [] := by
  cases s <;> simp [told, Mu50.toldStroke, Mu50.nums]
section
variable {P : Program} {w : World} {K : PySem.W.Frag} {mg : Str → Option Value} {base : Heap}
abbrev nPart : List Str := ["heights", "first", "past", "painted", "lowest", "strokes", "part", "height", "board"]
theorem scPt : FnScope nPart ["heights", "first", "past", "painted"] (defScope sPart) := ⟨rfl, rfl, rfl, by decide +kernel, rfl, by decide +kernel, by decide +kernel⟩
def spPart (K : PySem.W.Frag) (N : Nat) : Sp := fun vs H Q _ => ∃ (a : Addr) (hs : List Nat) (i j b : Nat), vs = [.ref a, .int (i : Int), .int (j : Int), .int (b : Int)] ∧ Hts K H a hs ∧ i < j ∧ j ≤ hs.length ∧ j - i ≤ N ∧ b ≤ 8 ∧ RetN (fun H p => LL H p ((Mu50.strokes N i b (Mu50.part hs i (j - i))).map told)) H Q
theorem part_none {f : Addr} {fd : FuncData} {k : Nat} : FnOk P w K mg base CX0 k f fd ["heights", "first", "past", "painted"] (spPart K 0) := by
  have no : ∀ vs H Q E, ¬ spPart K 0 vs H Q E := fun vs H Q E h => by
    obtain ⟨a, hs, i, j, b, _, _, h1, h2, h3, _⟩ := h
    omega
  exact ⟨fun vs H Q E h => absurd h (no vs H Q E), fun A outer s H args us vs Q E _ _ _ _ h => absurd h (no vs H Q E)⟩
theorem ok_part {N k : Nat} {f g : Addr} {fd gd : FuncData} {t0 t1 : Tok} (F : Fun K "part_strokes" "part_strokes" sPart f fd) (bF : Binds K fd ["heights", "first", "past", "painted"] []) (mF : mg "part_strokes" = some (.ref f))
    (R : FnOk P w K mg base CX0 k f fd ["heights", "first", "past", "painted"] (spPart K N))
    (G : FnOk P w K mg base CX0 k g gd ["heights", "first", "past", "level"] (spHigher K)) (bG : Binds K gd ["heights", "first", "past", "level"] []) (kG : PySem.W.keepIn K (.ref g) = true) (mG : mg "higher_parts" = some (.ref g))
    (m0 : mg "ALONG" = some (.int 0 t0)) (m1 : mg "DOWN" = some (.int 1 t1)) (ml : mg "len" = none) (mr : mg "range" = none) (mm : mg "min" = none) : FnOk P w K mg base CX0 (k + 1) f fd ["heights", "first", "past", "painted"] (spPart K (N + 1)) := by
  refine F.ok scPt (fun vs H Q E h => ?_) (fun cdv A outer s H vs Q E hr h => ?_)
  · obtain ⟨a, hs, i, j, b, rfl, _⟩ := h
    rfl
  obtain ⟨a, hs, i, j, b, rfl, hS, hij, hj, hN, hb8, k⟩ := h
  refine ⟨_, pss_cons (ps_set (i := 4) scPt.nd rfl (.inl rfl) (pe_callB (cr_min rfl) rfl mm (by decide +kernel) (pa_cons (pe_slice sl_list (pv 0) (po_some (pv 1)) (po_some (pv 2))) pa_nil)))
    (pss_cons (ps_setLc (i := 5) (own := [("height", 7)]) (g := gName 7) (tt := tYes) rfl scPt.nd rfl rfl (sw_true rfl rfl rfl (by decide +kernel)) (pi_range2 rfl mr (pa_cons (pe_op op_add (pv 3) pe_int) (pa_cons (pe_op op_add (pv 4) pe_int) pa_nil)))
      (blkOk_by (N := nPart) (sc := defScope sPart) (by decide +kernel)) (fun _ _ _ _ _ => pg_name (i := 7) scPt.nd rfl (Or.inl rfl)) (fun _ _ _ _ _ => pts_nil)
      (fun _ _ _ _ _ => pe_lst (pa_cons (pe_glob (v := .int 0) rfl m0 ⟨_, rfl⟩) (pa_cons (pv 7) (pa_cons (pv 1) (pa_cons (pe_op op_sub (pv 2) pe_int) pa_nil))))))
    (pss_cons (ps_for PassesOwn.never rfl (pi_list (pe_call G hr rfl mG kG bG .nil pass0 (pa_cons (pv 0) (pa_cons (pv 1) (pa_cons (pv 2) (pa_cons (pv 4) pa_nil)))))) (pg_name (i := 6) scPt.nd rfl (.inl rfl))
      (pss_one (ps_expr (pe_bm PySem.F.plainAttrs_list PySem.F.slot_list_extend PySem.F.type_list_extend mt_extend (pv 5) (pa_cons (pe_call R hr rfl mF F.kp bF .nil pass0 (pa_cons (pv 0) (pa_cons (pe_ix ix_tup (pv 6) pe_int (fun _ _ => rfl)) (pa_cons (pe_ix ix_tup (pv 6) pe_int (fun _ _ => rfl)) (pa_cons (pv 4) pa_nil))))) pa_nil)))))
    (pss_cons (ps_if (pt_cmpR op_lt (pe_callB call_len_seq rfl ml PySem.boot_len (pa_cons (pv 5) pa_nil)) (pe_op op_sub (pv 2) (pv 1)) (nomark _)) (pss_one (ps_ret (pv 5))) pss_nil)
    (pss_one (ps_ret (pe_lc (own := [("board", 8)]) (g := gName 8) (tt := tYes) rfl scPt.nd (pi_range2 rfl mr (pa_cons (pv 1) (pa_cons (pv 2) pa_nil)))
      (blkOk_by (N := nPart) (sc := defScope sPart) (by decide +kernel)) (fun _ _ _ _ _ => pg_name (i := 8) scPt.nd rfl (Or.inl rfl)) (fun _ _ _ _ _ => pts_nil)
      (fun _ _ _ _ _ => pe_lst (pa_cons (pe_glob (v := .int 1) rfl m1 ⟨_, rfl⟩) (pa_cons (pv 8) pa_nil))))))))), ?_⟩
  have h8 := hS.len
  have hnl := nv_len hs
  generalize hl : Mu50.part hs i (j - i) = l at k
  have hlen : l.length = j - i := by
    rw [← hl, part_len]
    omega
  have hlne : l ≠ [] := fun c => by
    rw [c, List.length_nil] at hlen
    omega
  have hm8 : Mu50.least l ≤ 8 := by
    rw [← hl]
    exact least_top hS.top
  -- lowest = min(..)
  refine q_asg (ev_minS (K := K) (hs := hs) (i := i) (j := j) (ev_var rfl) (eo_some (ev_var rfl)) (eo_some (ev_var rfl)) hS.sq rfl rfl hij (by omega)) fun H1 e1 => ?_
  rw [hl]
  -- strokes = [..]
  refine q_asgN (en_lcR2 (lo := (b : Int) + 1) (n := (Mu50.least l : Int) + 1) (fun c => [0, (((b + c + 1 : Nat)) : Int), (i : Int), ((i + l.length - 1 : Nat) : Int)]) (ea_cons (ev_op (ev_var rfl) ev_c rv_I0) (ea_cons (ev_op (ev_var rfl) ev_c rv_I0) ea_nil)) ⟨by omega, by omega, by omega, by omega⟩ (fun x => rfl) (fun c H2 e2 hc => ?_)) fun st H2 hst e2 h2 => ?_
  · have q1 : ((b : Int) + 1 + (c : Int)) = ((b + c + 1 : Nat) : Int) := by omega
    have q2 : ((j : Int) - 1) = ((i + l.length - 1 : Nat) : Int) := by omega
    have := el_lst (σ := [some (.ref a), some (.int (i : Int)), some (.int (j : Int)), some (.int (b : Int)), some (.int (Mu50.least l : Int)), none, none, some (.int ((b : Int) + 1 + (c : Int))), none]) (H := H2) (ea_cons (ta := tC (.int 0)) ev_c (ea_cons (ta := tVar 7) (ev_var rfl) (ea_cons (ta := tVar 1) (ev_var rfl) (ea_cons (ta := tOp (rI0 fun i j => .int (i - j)) (tVar 2) (tC (.int 1))) (ev_op (ev_var rfl) ev_c rv_I0) ea_nil)))) (by show 4 ≤ 100000; decide)
    rw [q1, q2] at this
    rw [q1]
    exact this
  rw [show ((Mu50.least l : Int) + 1 - ((b : Int) + 1)).toNat = Mu50.least l - b by omega] at h2
  have hst0 : H st = none := fresh_back e1 hst
  -- for part in higher_parts(..)
  have hparts : hp (Mu50.least l) i i l = (Mu50.runs (Mu50.least l) i l).map iv := hp_runs _ _ _
  have hruns := (runs_all (Mu50.least l) l i).1
  have hcall : EvN (fun H p => LP H p ((Mu50.runs (Mu50.least l) i l).map iv)) (tCall (spHigher K) [] E0 (tCons (tVar 0) (tCons (tVar 1) (tCons (tVar 2) (tCons (tVar 4) tNil))))) [some (.ref a), some (.int (i : Int)), some (.int (j : Int)), some (.int (b : Int)), some (.int (Mu50.least l : Int)), some (.ref st), none, none, none] H2 :=
    en_call (ea_cons (ev_var rfl) (ea_cons (ev_var rfl) (ea_cons (ev_var rfl) (ea_cons (ev_var rfl) ea_nil)))) fun H3 e3 Q q => ⟨a, hs, i, j, Mu50.least l, rfl, hS.ex ((e1.trans e2).trans e3), by omega, hj, by rw [hl, hparts]; exact q⟩
  refine hcall H2 (Ex.refl H2) _ fun p H3 hp3 e3 ⟨as, hP⟩ => ?_
  have hps : p ≠ st := fun c => by
    obtain ⟨bs, hb⟩ := h2
    rw [c, hb.lst] at hp3
    cases hp3
  -- what stays while strokes grows
  have eB : Ex H (less H3 st) := fun x o hx => less_of (((e1.trans e2).trans e3) _ _ hx) fun c => by
    rw [c, hst0] at hx
    cases hx
  have hPB : LG PairAt (less H3 st) p as ((Mu50.runs (Mu50.least l) i l).map iv) := by
    obtain ⟨bs, hb⟩ := h2.ex e3
    refine ⟨less_of hP.lst hps, hP.len, fun c x y hx hy => ?_⟩
    have h4 := hP.at_ c x y hx hy
    have h5 : H3 x = some (.tup [.int (y.1 : Int), .int (y.2 : Int)]) := (less_some h4).2
    exact less_of (less_of h5 (ne_of h5 hb.lst (by intro z; cases z))) (less_some h4).1
  have hBst : less H3 st st = none := if_pos rfl
  refine ⟨p, rfl, ⟨_, sq_of hP.lst⟩, for_list (K := K) (a := p) (xs := as.map V.ref) (fun c σ' H' => ∃ (y6 : Option V), σ' = [some (.ref a), some (.int (i : Int)), some (.int (j : Int)), some (.int (b : Int)), some (.int (Mu50.least l : Int)), some (.ref st), y6, none, none] ∧ Ex (less H3 st) H' ∧
      LL H' st (((((List.range (Mu50.least l - b)).map fun (k : Nat) => Mu50.Stroke.along (b + k + 1) i (i + l.length - 1)) ++ ((Mu50.runs (Mu50.least l) i l).take c).flatMap fun (x : Nat × List Nat) => Mu50.strokes N x.1 (Mu50.least l) x.2)).map told))
    ⟨none, rfl, less_back, ?_⟩ (fun c σ' H' _ ⟨_, _, e, _⟩ => sq_of (e _ _ hPB.lst)) ?_ ?_⟩
  · rw [List.take_zero, List.flatMap_nil, List.append_nil, List.map_map]
    have h3 := h2.ex e3
    have eq : (fun c => [0, (((b + c + 1 : Nat)) : Int), (i : Int), ((i + l.length - 1 : Nat) : Int)]) = (told ∘ fun (k : Nat) => Mu50.Stroke.along (b + k + 1) i (i + l.length - 1)) := by
      funext c
      rfl
    rw [eq] at h3
    exact h3
  · rintro c y σ' H' hc ⟨y6, rfl, e, hL⟩
    obtain ⟨q, hq, rfl⟩ : ∃ q, as[c]? = some q ∧ y = V.ref q := by
      rw [List.getElem?_map] at hc
      cases z : as[c]? with
      | none => rw [z] at hc; cases hc
      | some q =>
        rw [z] at hc
        exact ⟨q, rfl, (Option.some.inj hc).symm⟩
    have hcl : c < (Mu50.runs (Mu50.least l) i l).length := by
      have := (List.getElem?_eq_some_iff.mp hq).1
      rw [hPB.len, List.length_map] at this
      exact this
    obtain ⟨x, hx⟩ : ∃ x, (Mu50.runs (Mu50.least l) i l)[c]? = some x := ⟨_, List.getElem?_eq_getElem hcl⟩
    have hRun := hruns x (List.mem_of_getElem? hx)
    have hpair : H' q = some (.tup [.int (x.1 : Int), .int ((x.1 + x.2.length : Nat) : Int)]) := e _ _ (less_some (hPB.at_ c q (iv x) hq (by rw [List.getElem?_map, hx]; rfl))).2
    have hr1 := hRun.lo
    have hr2 := hRun.hi
    have hr3 : 0 < x.2.length := List.length_pos_iff.mpr hRun.ne
    have hr4 := run_lt hRun (Nat.le_refl _) hlne
    have hpart : Mu50.part hs x.1 (x.1 + x.2.length - x.1) = x.2 := by
      rw [show x.1 + x.2.length - x.1 = x.2.length by omega]
      rw [← hl] at hRun
      exact (run_part hRun).symm
    obtain ⟨bs, hLG⟩ := hL
    refine s_extN (K := K) (ys := (Mu50.strokes N x.1 (Mu50.least l) x.2).map told) hLG (ev_var rfl) (en_call (ea_cons (ev_var rfl) (ea_cons (ev_op (ev_var rfl) ev_c (rv_ixT (K := K) (st_of hpair) (atI_nat (j := 0) rfl))) (ea_cons (ev_op (ev_var rfl) ev_c (rv_ixT (K := K) (st_of hpair) (atI_nat (j := 1) rfl))) (ea_cons (ev_var rfl) ea_nil)))) fun H4 e4 Q q => ?_) ?_ ?_ ?_
    · exact ⟨a, hs, x.1, x.1 + x.2.length, Mu50.least l, rfl, hS.ex (eB.trans (e.trans e4)), by omega, by omega, by omega, by omega, by rw [hpart]; exact q⟩
    · intro r hr
      obtain ⟨s, _, rfl⟩ := List.mem_map.mp hr
      exact told_ne s
    · have hS1 := strokes_le N x.1 (Mu50.least l) x.2
      have hS2 : (((Mu50.runs (Mu50.least l) i l).take c).flatMap fun (x : Nat × List Nat) => Mu50.strokes N x.1 (Mu50.least l) x.2).length ≤ 8 * c := by
        have hb : ∀ x ∈ (Mu50.runs (Mu50.least l) i l).take c, (Mu50.strokes N x.1 (Mu50.least l) x.2).length ≤ 8 := fun z hz => by
          have := strokes_le N z.1 (Mu50.least l) z.2
          have R2 := hruns z (List.mem_of_mem_take hz)
          have := R2.hi
          omega
        have hc2 : ((Mu50.runs (Mu50.least l) i l).take c).length ≤ c := by
          rw [List.length_take]
          exact Nat.min_le_left _ _
        revert hb hc2
        generalize (Mu50.runs (Mu50.least l) i l).take c = rs
        intro hb hc2
        have : (rs.flatMap fun (x : Nat × List Nat) => Mu50.strokes N x.1 (Mu50.least l) x.2).length ≤ 8 * rs.length := by
          clear hc2
          induction rs with
          | nil => simp
          | cons z zs ih =>
            have a1 := hb z List.mem_cons_self
            have a2 := ih fun y hy => hb y (List.mem_cons_of_mem _ hy)
            rw [List.flatMap_cons, List.length_append, List.length_cons]
            omega
        omega
      have hc8 := runs_length (Mu50.least l) l i
      rw [List.length_map, List.length_append, List.length_map, List.length_range, List.length_map]
      omega
    · intro H4 o e4 hL4
      refine ⟨_, rfl, Ex.mut (e.trans e4) hBst, ?_⟩
      rw [List.take_add_one, hx, List.flatMap_append, ← List.append_assoc, List.map_append]
      rw [show ((some x).toList.flatMap fun (x : Nat × List Nat) => Mu50.strokes N x.1 (Mu50.least l) x.2) = Mu50.strokes N x.1 (Mu50.least l) x.2 by simp]
      exact hL4
  · rintro σ' H' ⟨y6, rfl, e, hL⟩
    have htake : (Mu50.runs (Mu50.least l) i l).take (as.map V.ref).length = Mu50.runs (Mu50.least l) i l := List.take_of_length_le (by rw [List.length_map, hPB.len, List.length_map]; exact Nat.le_refl _)
    rw [htake] at hL
    generalize hup : (((List.range (Mu50.least l - b)).map fun (k : Nat) => Mu50.Stroke.along (b + k + 1) i (i + l.length - 1)) ++ (Mu50.runs (Mu50.least l) i l).flatMap fun (x : Nat × List Nat) => Mu50.strokes N x.1 (Mu50.least l) x.2) = up at hL
    have hstr : Mu50.strokes (N + 1) i b l = if up.length < l.length then up else (List.range l.length).map fun (k : Nat) => Mu50.Stroke.down (i + k) := by
      rw [← hup, Mu50.strokes]
    obtain ⟨bs, hLG⟩ := hL
    refine q_when (et_test (ev_op (ev_len (K := K) (ev_var rfl) (sq_of hLG.lst)) (ev_op (ev_var rfl) (ev_var rfl) rv_I0) rv_I0)) (fun hc H4 e4 => ?_) (fun hc H4 e4 => ?_)
    · have hc' : up.length < l.length := by
        have := of_decide_eq_true hc
        rw [List.length_map, hLG.len, List.length_map] at this
        omega
      refine s_ret (ev_var rfl) fun H5 e5 => k st H5 hst0 ((eB.trans e).trans (e4.trans e5)) ?_
      rw [hstr, if_pos hc']
      exact ⟨bs, hLG.exRow (e4.trans e5)⟩
    · have hc' : ¬ up.length < l.length := by
        have := of_decide_eq_false hc
        rw [List.length_map, hLG.len, List.length_map] at this
        omega
      refine s_retN (en_lcR2 (lo := (i : Int)) (n := (j : Int)) (fun c => [1, ((i + c : Nat) : Int)]) (ea_cons (ev_var rfl) (ea_cons (ev_var rfl) ea_nil)) ⟨by omega, by omega, by omega, by omega⟩ (fun x => rfl) (fun c H5 e5 hc => ?_)) fun r H5 hr e5 h5 => k r H5 (fresh_back ((eB.trans e).trans e4) hr) (((eB.trans e).trans e4).trans e5) ?_
      · exact el_lst (ea_cons ev_c (ea_cons (ev_var rfl) ea_nil)) (by show 2 ≤ 100000; decide)
      · rw [hstr, if_neg hc', List.map_map, hlen]
        rw [show ((j : Int) - (i : Int)).toNat = j - i by omega] at h5
        exact h5
theorem all_part {f g : Addr} {fd gd : FuncData} {t0 t1 : Tok} (F : Fun K "part_strokes" "part_strokes" sPart f fd) (bF : Binds K fd ["heights", "first", "past", "painted"] []) (mF : mg "part_strokes" = some (.ref f))
    (G : Fun K "higher_parts" "higher_parts" sHigher g gd) (bG : Binds K gd ["heights", "first", "past", "level"] []) (mG : mg "higher_parts" = some (.ref g))
    (m0 : mg "ALONG" = some (.int 0 t0)) (m1 : mg "DOWN" = some (.int 1 t1)) (ml : mg "len" = none) (mr : mg "range" = none) (mm : mg "min" = none) : ∀ N : Nat, FnOk P w K mg base CX0 (N + 1) f fd ["heights", "first", "past", "painted"] (spPart K N)
  | 0 => part_none
  | N + 1 => ok_part F bF mF (all_part F bF mF G bG mG m0 m1 ml mr mm N) (ok_higher G mr) bG G.kp mG m0 m1 ml mr mm
theorem scFs : FnScope ["heights"] ["heights"] (defScope sFence) := ⟨rfl, rfl, rfl, by decide +kernel, rfl, by decide +kernel, by decide +kernel⟩
def spFence (K : PySem.W.Frag) : Sp := fun vs H Q _ => ∃ (a : Addr) (hs : List Nat), vs = [.ref a] ∧ Hts K H a hs ∧ RetN (fun H p => LL H p ((Mu50.painted hs).map told)) H Q
theorem ok_fence {f g : Addr} {fd gd : FuncData} (F : Fun K "fence_strokes" "fence_strokes" sFence f fd) (G : FnOk P w K mg base CX0 9 g gd ["heights", "first", "past", "painted"] (spPart K 8)) (bG : Binds K gd ["heights", "first", "past", "painted"] []) (kG : PySem.W.keepIn K (.ref g) = true) (mG : mg "part_strokes" = some (.ref g))
    (ml : mg "len" = none) : FnOk P w K mg base CX0 10 f fd ["heights"] (spFence K) := by
  refine F.ok scFs (fun vs H Q E h => ?_) (fun cdv A outer s H vs Q E hr h => ?_)
  · obtain ⟨a, hs, rfl, _⟩ := h
    rfl
  obtain ⟨a, hs, rfl, hS, k⟩ := h
  refine ⟨_, pss_one (ps_ret (pe_call G hr rfl mG kG bG .nil pass0 (pa_cons (pv 0) (pa_cons pe_int (pa_cons (pe_callB call_len_seq rfl ml PySem.boot_len (pa_cons (pv 0) pa_nil)) (pa_cons pe_int pa_nil)))))), ?_⟩
  have h8 := hS.len
  refine s_retN (en_call (ea_cons (ev_var rfl) (ea_cons ev_c (ea_cons (ev_len (K := K) (ev_var rfl) hS.sq) (ea_cons ev_c ea_nil)))) fun H1 e1 Q q => ?_) fun p H1 hp e1 h1 => k p H1 hp e1 h1
  refine ⟨a, hs, 0, hs.length, 0, by rw [nv_len]; rfl, hS.ex e1, List.length_pos_iff.mpr hS.ne, Nat.le_refl _, by omega, by omega, ?_⟩
  have e2 : Mu50.part hs 0 (hs.length - 0) = hs := by
    unfold Mu50.part
    rw [List.drop_zero, Nat.sub_zero, List.take_length]
  rw [e2, ← painted_eq hs 8 h8]
  exact q
end
end Bf

set_option Elab.async false
set_option maxRecDepth 100000
set_option maxHeartbeats 2000000
namespace Bf
open PySem PySem.Spec PyProof.Rows L2 Evl
theorem strokeOf_inv {r : List Nat} {s : Mu50.Stroke} (h : Mu50.strokeOf r = some s) : r = Mu50.toldStroke s := by
  unfold Mu50.strokeOf at h
  split at h
  · cases h
    rfl
  · cases h
    rfl
  · cases h
theorem is4 (x y z u : Nat) : (Mu50.strokeOf [x, y, z, u]).isSome = decide (x = 0) := by
  cases x with
  | zero => rfl
  | succ x =>
    cases x <;> rfl
theorem is2 (x y : Nat) : (Mu50.strokeOf [x, y]).isSome = decide (x = 1) := by
  cases x with
  | zero => rfl
  | succ x =>
    cases x with
    | zero => rfl
    | succ x => rfl
theorem is_no {r : List Nat} (h4 : r.length ≠ 4) (h2 : r.length ≠ 2) : (Mu50.strokeOf r).isSome = false := by
  cases h : Mu50.strokeOf r with
  | none => rfl
  | some s =>
    have e := strokeOf_inv h
    subst e
    cases s with
    | along => exact absurd rfl h4
    | down => exact absurd rfl h2
theorem int_dec {x y : Nat} : decide (V.int (x : Int) = V.int (y : Int)) = decide (x = y) := by
  by_cases c : x = y
  · subst c
    simp
  · rw [decide_eq_false c, decide_eq_false]
    intro h
    have := V.int.inj h
    omega
theorem all_least {l : List Nat} {j : Nat} (h : l ≠ []) : (l.all fun x => decide (j ≤ x)) = decide ((j : Int) ≤ (Mu50.least l : Int)) := by
  by_cases c : j ≤ Mu50.least l
  · rw [decide_eq_true (by omega), List.all_eq_true]
    intro x hx
    have := least_le l x hx
    exact decide_eq_true (by omega)
  · rw [decide_eq_false (by omega)]
    rw [Bool.eq_false_iff]
    intro hc
    rw [List.all_eq_true] at hc
    have := of_decide_eq_true (hc _ (least_mem l h))
    omega
section
variable {P : Program} {w : World} {K : PySem.W.Frag} {mg : Str → Option Value} {base : Heap}
theorem scIs : FnScope ["stroke"] ["stroke"] (defScope sIsStroke) := ⟨rfl, rfl, rfl, by decide +kernel, rfl, by decide +kernel, by decide +kernel⟩
def spIs (K : PySem.W.Frag) : Sp := fun vs H Q _ => ∃ (a : Addr) (r : List Nat), vs = [.ref a] ∧ SqL K H a (nv r) ∧ RetV (.bl (Mu50.strokeOf r).isSome) H Q
theorem ok_is {f : Addr} {fd : FuncData} {k : Nat} {t0 t1 : Tok} (F : Fun K "is_stroke" "is_stroke" sIsStroke f fd) (m0 : mg "ALONG" = some (.int 0 t0)) (m1 : mg "DOWN" = some (.int 1 t1)) (ml : mg "len" = none) : FnOk P w K mg base CX0 (k + 1) f fd ["stroke"] (spIs K) := by
  refine F.ok scIs (fun vs H Q E h => ?_) (fun cdv A outer s H vs Q E hr h => ?_)
  · obtain ⟨a, r, rfl, _⟩ := h
    rfl
  obtain ⟨a, r, rfl, hS, k⟩ := h
  refine ⟨_, pss_cons (ps_if (pt_cmpR op_eq (pe_callB call_len_seq rfl ml PySem.boot_len (pa_cons (pv 0) pa_nil)) pe_int (nomark _)) (pss_one (ps_ret (pe_cmpR op_eq (pe_ix ix_list (pv 0) pe_int (fun _ _ => rfl)) (pe_glob (v := .int 0) rfl m0 ⟨_, rfl⟩) (nomark _)))) pss_nil)
    (pss_cons (ps_if (pt_cmpR op_eq (pe_callB call_len_seq rfl ml PySem.boot_len (pa_cons (pv 0) pa_nil)) pe_int (nomark _)) (pss_one (ps_ret (pe_cmpR op_eq (pe_ix ix_list (pv 0) pe_int (fun _ _ => rfl)) (pe_glob (v := .int 1) rfl m1 ⟨_, rfl⟩) (nomark _)))) pss_nil)
    (pss_one (ps_ret pe_bl))), ?_⟩
  have hnl := nv_len r
  refine q_when (et_test (ev_op (ev_len (K := K) (ev_var rfl) hS) ev_c (rv_eq rfl))) (fun hc H1 e1 => ?_) (fun hc H1 e1 => ?_)
  · have hc' : r.length = 4 := by
      have := V.int.inj (of_decide_eq_true hc)
      omega
    obtain ⟨x, y, z, u, rfl⟩ : ∃ x y z u, r = [x, y, z, u] := by
      match r, hc' with
      | [x, y, z, u], _ => exact ⟨x, y, z, u, rfl⟩
    refine s_ret (ev_is (ev_op (ev_op (ev_var rfl) ev_c (rv_ixL (K := K) (ex_l e1 hS) (nv_at (k := 0) rfl rfl))) ev_c (rv_eq rfl)) (w := .bl (decide (x = 0))) (congrArg V.bl (int_dec (y := 0)))) fun H2 e2 => ?_
    rw [is4] at k
    exact k H2 (e1.trans e2)
  · have hc' : r.length ≠ 4 := fun c => by
      have := of_decide_eq_false hc
      rw [hnl, c] at this
      exact this rfl
    refine q_when (et_test (ev_op (ev_len (K := K) (ev_var rfl) (ex_l e1 hS)) ev_c (rv_eq rfl))) (fun hd H2 e2 => ?_) (fun hd H2 e2 => ?_)
    · have hd' : r.length = 2 := by
        have := V.int.inj (of_decide_eq_true hd)
        omega
      obtain ⟨x, y, rfl⟩ : ∃ x y, r = [x, y] := by
        match r, hd' with
        | [x, y], _ => exact ⟨x, y, rfl⟩
      refine s_ret (ev_is (ev_op (ev_op (ev_var rfl) ev_c (rv_ixL (K := K) (ex_l (e1.trans e2) hS) (nv_at (k := 0) rfl rfl))) ev_c (rv_eq rfl)) (w := .bl (decide (x = 1))) (congrArg V.bl (int_dec (y := 1)))) fun H3 e3 => ?_
      rw [is2] at k
      exact k H3 ((e1.trans e2).trans e3)
    · have hd' : r.length ≠ 2 := fun c => by
        have := of_decide_eq_false hd
        rw [hnl, c] at this
        exact this rfl
      rw [is_no hc' hd'] at k
      exact s_ret ev_c fun H3 e3 => k H3 ((e1.trans e2).trans e3)
theorem scCn : FnScope ["heights", "stroke", "height", "first", "last"] ["heights", "stroke"] (defScope sCan) := ⟨rfl, rfl, rfl, by decide +kernel, rfl, by decide +kernel, by decide +kernel⟩
def spCan (K : PySem.W.Frag) : Sp := fun vs H Q _ => ∃ (a b : Addr) (hs : List Nat) (s : Mu50.Stroke), vs = [.ref a, .ref b] ∧ Hts K H a hs ∧ SqL K H b (nv (Mu50.toldStroke s)) ∧ RetV (.bl (Mu50.able hs s)) H Q
theorem ok_can {f z : Addr} {fd zd : FuncData} {k : Nat} {t1 : Tok} (F : Fun K "can_be_done" "can_be_done" sCan f fd)
    (Z : FnOk P w K mg base CX0 k z zd ["heights", "board"] (spHas K)) (bZ : Binds K zd ["heights", "board"] []) (kZ : PySem.W.keepIn K (.ref z) = true) (mZ : mg "has_board" = some (.ref z)) (m1 : mg "DOWN" = some (.int 1 t1)) (mm : mg "min" = none) : FnOk P w K mg base CX0 (k + 1) f fd ["heights", "stroke"] (spCan K) := by
  refine F.ok scCn (fun vs H Q E h => ?_) (fun cdv A outer s H vs Q E hr h => ?_)
  · obtain ⟨a, b, hs, s, rfl, _⟩ := h
    rfl
  obtain ⟨a, b, hs, s, rfl, hS, hB, k⟩ := h
  refine ⟨_, pss_cons (ps_if (pt_cmpR op_eq (pe_ix ix_list (pv 1) pe_int (fun _ _ => rfl)) (pe_glob (v := .int 1) rfl m1 ⟨_, rfl⟩) (nomark _)) (pss_one (ps_ret (pe_call Z hr rfl mZ kZ bZ .nil pass0 (pa_cons (pv 0) (pa_cons (pe_ix ix_list (pv 1) pe_int (fun _ _ => rfl)) pa_nil))))) pss_nil)
    (pss_cons (ps_set (i := 2) scCn.nd rfl (.inl rfl) (pe_ix ix_list (pv 1) pe_int (fun _ _ => rfl)))
    (pss_cons (ps_set (i := 3) scCn.nd rfl (.inl rfl) (pe_ix ix_list (pv 1) pe_int (fun _ _ => rfl)))
    (pss_cons (ps_set (i := 4) scCn.nd rfl (.inl rfl) (pe_ix ix_list (pv 1) pe_int (fun _ _ => rfl)))
    (pss_cons (ps_if (PW.pt (pw_or (pt_cmpR op_eq (pv 2) pe_int (nomark _)) (pw_or (pt_cmpR op_gt (pv 3) (pv 4) (nomark _)) (pw_or1 (pt_not (pt_val (pe_call Z hr rfl mZ kZ bZ .nil pass0 (pa_cons (pv 0) (pa_cons (pv 4) pa_nil))))))))) (pss_one (ps_ret pe_bl)) pss_nil)
    (pss_one (ps_ret (pe_cmpR op_le (pv 2) (pe_callB (cr_min rfl) rfl mm (by decide +kernel) (pa_cons (pe_slice sl_list (pv 0) (po_some (pv 3)) (po_some (pe_op op_add (pv 4) pe_int))) pa_nil)) (nomark _)))))))), ?_⟩
  have hnl := nv_len hs
  cases s with
  | down i =>
    refine q_when (b := true) (et_test (ev_op (ev_op (ev_var rfl) ev_c (rv_ixL (K := K) hB (nv_at (k := 0) rfl rfl))) ev_c (rv_eq rfl))) (fun _ H1 e1 => ?_) (fun h => by cases h)
    refine s_ret (ev_callV (z := .bl (Mu50.able hs (.down i))) (ea_cons (ev_var rfl) (ea_cons (ev_op (ev_var rfl) ev_c (rv_ixL (K := K) (ex_l e1 hB) (nv_at (k := 1) rfl rfl))) ea_nil)) fun H2 e2 Q q => ⟨a, hs, i, rfl, ex_l (e1.trans e2) hS.sq, q⟩) fun H2 e2 => k H2 (e1.trans e2)
  | along j p q =>
    refine q_when (b := false) (et_test (ev_op (ev_op (ev_var rfl) ev_c (rv_ixL (K := K) hB (nv_at (k := 0) rfl rfl))) ev_c (rv_eq rfl))) (fun h => by cases h) (fun _ H1 e1 => ?_)
    refine q_asg (ev_op (ev_var rfl) ev_c (rv_ixL (K := K) (ex_l e1 hB) (nv_at (k := 1) rfl rfl))) fun H2 e2 => ?_
    refine q_asg (ev_op (ev_var rfl) ev_c (rv_ixL (K := K) (ex_l (e1.trans e2) hB) (nv_at (k := 2) rfl rfl))) fun H3 e3 => ?_
    refine q_asg (ev_op (ev_var rfl) ev_c (rv_ixL (K := K) (ex_l ((e1.trans e2).trans e3) hB) (nv_at (k := 3) rfl rfl))) fun H4 e4 => ?_
    have e04 := ((e1.trans e2).trans e3).trans e4
    refine q_when (et_or (et_test (ev_op (ev_var rfl) ev_c (rv_eq rfl))) fun _ => et_or (et_test (ev_op (ev_var rfl) (ev_var rfl) rv_I0)) fun _ => et_not (et_B (ev_callV (z := .bl (decide (q < hs.length))) (ea_cons (ev_var rfl) (ea_cons (ev_var rfl) ea_nil)) fun H5 e5 Q q' => ⟨a, hs, q, rfl, ex_l (e04.trans e5) hS.sq, q'⟩))) (fun hc H5 e5 => ?_) (fun hc H5 e5 => ?_)
    · have hf : Mu50.able hs (.along j p q) = false := by
        rw [Bool.or_eq_true, Bool.or_eq_true] at hc
        rw [Bool.eq_false_iff]
        intro h
        obtain ⟨a1, a2, a3, _⟩ := able_along h
        rcases hc with c | c | c
        · have := V.int.inj (of_decide_eq_true c)
          omega
        · have := of_decide_eq_true c
          omega
        · rw [Bool.not_eq_true'] at c
          have := of_decide_eq_false c
          omega
      rw [hf] at k
      exact s_ret ev_c fun H6 e6 => k H6 (e04.trans (e5.trans e6))
    · rw [Bool.or_eq_false_iff, Bool.or_eq_false_iff] at hc
      obtain ⟨c1, c2, c3⟩ := hc
      have c1' : 1 ≤ j := by
        have := of_decide_eq_false c1
        apply Decidable.byContradiction
        intro c
        have : j = 0 := by omega
        subst this
        exact absurd rfl (of_decide_eq_false c1)
      have c2' : p ≤ q := by
        have := of_decide_eq_false c2
        omega
      have c3' : q < hs.length := by
        rw [Bool.not_eq_false'] at c3
        exact of_decide_eq_true c3
      refine s_ret (ev_is (ev_op (ev_var rfl) (ev_minS (K := K) (hs := hs) (i := p) (j := q + 1) (ev_var rfl) (eo_some (ev_var rfl)) (eo_some (ev_op (ev_var rfl) ev_c rv_I0)) (ex_l (e04.trans e5) hS.sq) rfl rfl (by omega) (by omega)) rv_I0) (w := .bl (Mu50.able hs (.along j p q))) ?_) fun H6 e6 => k H6 (e04.trans (e5.trans e6))
      have hne : Mu50.part hs p (q + 1 - p) ≠ [] := fun c => by
        have := congrArg List.length c
        rw [part_len, List.length_nil] at this
        omega
      show V.bl (decide ((j : Int) ≤ (Mu50.least (Mu50.part hs p (q + 1 - p)) : Int))) = V.bl (decide (1 ≤ j) && (decide (p ≤ q) && (decide (q < hs.length) && (Mu50.part hs p (q + 1 - p)).all fun (x : Nat) => decide (j ≤ x))))
      rw [decide_eq_true c1', decide_eq_true c2', decide_eq_true c3', all_least hne]
      rfl
theorem scPn : FnScope ["stroke", "board", "height"] ["stroke", "board", "height"] (defScope sPaints) := ⟨rfl, rfl, rfl, by decide +kernel, rfl, by decide +kernel, by decide +kernel⟩
def spPaints (K : PySem.W.Frag) : Sp := fun vs H Q _ => ∃ (b : Addr) (s : Mu50.Stroke) (x y : Nat), vs = [.ref b, .int (x : Int), .int (y : Int)] ∧ SqL K H b (nv (Mu50.toldStroke s)) ∧ RetV (.bl (Mu50.paints (x, y) s)) H Q
theorem ok_paints {f : Addr} {fd : FuncData} {k : Nat} {t1 : Tok} (F : Fun K "paints" "paints" sPaints f fd) (m1 : mg "DOWN" = some (.int 1 t1)) : FnOk P w K mg base CX0 (k + 1) f fd ["stroke", "board", "height"] (spPaints K) := by
  refine F.ok scPn (fun vs H Q E h => ?_) (fun cdv A outer s H vs Q E hr h => ?_)
  · obtain ⟨b, s, x, y, rfl, _⟩ := h
    rfl
  obtain ⟨b, s, x, y, rfl, hB, k⟩ := h
  refine ⟨_, pss_cons (ps_if (pt_cmpR op_eq (pe_ix ix_list (pv 0) pe_int (fun _ _ => rfl)) (pe_glob (v := .int 1) rfl m1 ⟨_, rfl⟩) (nomark _)) (pss_one (ps_ret (pe_cmpR op_eq (pe_ix ix_list (pv 0) pe_int (fun _ _ => rfl)) (pv 1) (nomark _)))) pss_nil)
    (pss_one (ps_ret (pe_and (pe_cmpR op_eq (pe_ix ix_list (pv 0) pe_int (fun _ _ => rfl)) (pv 2) (nomark _)) (pe_and (pe_cmpR op_le (pe_ix ix_list (pv 0) pe_int (fun _ _ => rfl)) (pv 1) (nomark _)) (pe_one (pe_cmpR op_le (pv 1) (pe_ix ix_list (pv 0) pe_int (fun _ _ => rfl)) (nomark _))))))), ?_⟩
  cases s with
  | down i =>
    refine q_when (b := true) (et_test (ev_op (ev_op (ev_var rfl) ev_c (rv_ixL (K := K) hB (nv_at (k := 0) rfl rfl))) ev_c (rv_eq rfl))) (fun _ H1 e1 => ?_) (fun h => by cases h)
    refine s_ret (ev_is (ev_op (ev_op (ev_var rfl) ev_c (rv_ixL (K := K) (ex_l e1 hB) (nv_at (k := 1) rfl rfl))) (ev_var rfl) (rv_eq rfl)) (w := .bl (Mu50.paints (x, y) (.down i))) ?_) fun H2 e2 => k H2 (e1.trans e2)
    show V.bl (decide (V.int (i : Int) = V.int (x : Int))) = V.bl (x == i)
    rw [int_dec]
    congr 1
    by_cases c : i = x
    · subst c
      simp
    · rw [decide_eq_false c]
      exact (beq_false_of_ne fun z => c z.symm).symm
  | along j p q =>
    refine q_when (b := false) (et_test (ev_op (ev_op (ev_var rfl) ev_c (rv_ixL (K := K) hB (nv_at (k := 0) rfl rfl))) ev_c (rv_eq rfl))) (fun h => by cases h) (fun _ H1 e1 => ?_)
    have hB1 := ex_l e1 hB
    refine s_ret (ev_is (ev_andV (ev_op (ev_op (ev_var rfl) ev_c (rv_ixL (K := K) hB1 (nv_at (k := 1) rfl rfl))) (ev_var rfl) (rv_eq rfl)) fun _ => ev_andV (ev_op (ev_op (ev_var rfl) ev_c (rv_ixL (K := K) hB1 (nv_at (k := 2) rfl rfl))) (ev_var rfl) rv_I0) fun _ => ev_op (ev_var rfl) (ev_op (ev_var rfl) ev_c (rv_ixL (K := K) hB1 (nv_at (k := 3) rfl rfl))) rv_I0) (w := .bl (Mu50.paints (x, y) (.along j p q))) ?_) fun H2 e2 => k H2 (e1.trans e2)
    show V.bl (decide (V.int (j : Int) = V.int (y : Int)) && (decide ((p : Int) ≤ (x : Int)) && decide ((x : Int) ≤ (q : Int)))) = V.bl (y == j && (decide (p ≤ x) && decide (x ≤ q)))
    rw [int_dec]
    congr 1
    have z1 : decide (j = y) = (y == j) := by
      by_cases c : j = y
      · subst c
        simp
      · rw [decide_eq_false c]
        exact (beq_false_of_ne fun z => c z.symm).symm
    have z2 : decide ((p : Int) ≤ (x : Int)) = decide (p ≤ x) := by
      by_cases c : p ≤ x
      · rw [decide_eq_true c, decide_eq_true (by omega)]
      · rw [decide_eq_false c, decide_eq_false (by omega)]
    have z3 : decide ((x : Int) ≤ (q : Int)) = decide (x ≤ q) := by
      by_cases c : x ≤ q
      · rw [decide_eq_true c, decide_eq_true (by omega)]
      · rw [decide_eq_false c, decide_eq_false (by omega)]
    rw [z1, z2, z3]
end
end Bf

set_option Elab.async false
set_option maxRecDepth 100000
set_option maxHeartbeats 2000000
namespace Bf
open PySem PySem.Spec PyProof.Rows L2 Evl
theorem bareRow_le (S : List Mu50.Stroke) (i j : Nat) : (bareRow S i j).length ≤ j := by
  unfold bareRow
  refine Nat.le_trans (List.length_filter_le _ _) ?_
  rw [List.length_map, List.length_range]
  exact Nat.le_refl _
theorem bareUp_le {f : List Nat} {S : List Mu50.Stroke} (h : ∀ x ∈ f, x ≤ 8) : ∀ i : Nat, (bareUp f S i).length ≤ 8 * i
  | 0 => Nat.le_refl _
  | i + 1 => by
    have ih := bareUp_le (S := S) h i
    have := bareRow_le S i (f.getD i 0)
    have h8 : f.getD i 0 ≤ 8 := by
      rw [List.getD_eq_getElem?_getD]
      cases c : f[i]? with
      | none => exact Nat.zero_le _
      | some x => exact h x (List.mem_of_getElem? c)
    show (bareUp f S i ++ bareRow S i _).length ≤ _
    rw [List.length_append]
    omega
/-- what a comprehension of tests gives -/
theorem given_bl {bs : List Bool} {v : Nat → V} (h : ∀ (i : Nat) (x : Bool), bs[i]? = some x → v i = .bl x) : given bs.length (fun _ => true) v = bs.map V.bl := by
  unfold given
  rw [List.filter_eq_self.mpr (fun _ _ => rfl)]
  refine List.ext_getElem? fun i => ?_
  by_cases c : i < bs.length
  · rw [List.getElem?_map, List.getElem?_range c, List.getElem?_map, List.getElem?_eq_getElem c]
    show some (v i) = _
    rw [h i _ (List.getElem?_eq_getElem c)]
    rfl
  · rw [List.getElem?_eq_none (by rw [List.length_map, List.length_range]; omega), List.getElem?_eq_none (by rw [List.length_map]; omega)]
theorem ev_anyL {K : PySem.W.Frag} {σ : L2.St} {H : Hp} {te : TE} {bs : List Bool} (h : EvL te σ H (bs.map V.bl)) : Ev (tCB (rAny K) (tCons te tNil)) σ H (.bl (bs.any id)) := fun H1 e Q q =>
  h H1 e _ fun p H2 _ e2 h2 => ⟨p, bs, rfl, sq_of h2, q H2 e2⟩
theorem ev_allL {K : PySem.W.Frag} {σ : L2.St} {H : Hp} {te : TE} {bs : List Bool} (h : EvL te σ H (bs.map V.bl)) : Ev (tCB (rAll K) (tCons te tNil)) σ H (.bl (bs.all id)) := fun H1 e Q q =>
  h H1 e _ fun p H2 _ e2 h2 => ⟨p, bs, rfl, sq_of h2, q H2 e2⟩
/-- [test of the row for row in rows] -/
theorem el_tests {K : PySem.W.Frag} {σ : L2.St} {H : Hp} {tl te : TE} {j : Nat} {vs : List Nat} {b : Addr} {as : List Addr} {rows : List (List Int)} (bs : List Bool) (hb : bs.length = rows.length) (h : Ev tl σ H (.ref b)) (hx : LG RowAt H b as rows) (hz : rows.length ≤ 1000) (hw : ∀ x, wipe ((wipe σ vs).set j (some x)) vs = wipe σ vs)
    (he : ∀ (i : Nat) (q : Addr) (r : List Int) (c : Bool) H1, Ex H H1 → rows[i]? = some r → bs[i]? = some c → H q = some (.lst (r.map V.int)) → Ev te ((wipe σ vs).set j (some (.ref q))) H1 (.bl c)) :
    EvL (tLc (iList K tl) (gName j) tYes te vs) σ H (bs.map V.bl) := by
  have hal : as.length = bs.length := by rw [hx.len, hb]
  have := el_lcL (K := K) (t := tYes) (te := te) (j := j) (vs := vs) (fun _ => true) (fun i => .bl (bs.getD i false)) h (sq_of hx.lst) (by rw [List.length_map, hx.len]; omega) hw (fun _ _ _ _ _ => et_yes) (fun i x H1 e hi _ => by
    obtain ⟨q, hq, rfl⟩ : ∃ q, as[i]? = some q ∧ x = V.ref q := by
      rw [List.getElem?_map] at hi
      cases z : as[i]? with
      | none => rw [z] at hi; cases hi
      | some q =>
        rw [z] at hi
        exact ⟨q, rfl, (Option.some.inj hi).symm⟩
    have hil : i < rows.length := by
      have := (List.getElem?_eq_some_iff.mp hq).1
      omega
    have hib : i < bs.length := by omega
    rw [List.getD_eq_getElem?_getD, List.getElem?_eq_getElem hib]
    exact he i q rows[i] bs[i] H1 e (List.getElem?_eq_getElem hil) (List.getElem?_eq_getElem hib) (less_some (hx.at_ i q rows[i] hq (List.getElem?_eq_getElem hil))).2)
  rw [List.length_map, hal, given_bl (bs := bs) (fun i x hi => by rw [List.getD_eq_getElem?_getD, hi]; rfl)] at this
  exact this
section
variable {P : Program} {w : World} {K : PySem.W.Frag} {mg : Str → Option Value} {base : Heap}
abbrev nBare : List Str := ["heights", "strokes", "bare", "board", "height", "stroke"]
theorem scBr : FnScope nBare ["heights", "strokes"] (defScope sBare) := ⟨rfl, rfl, rfl, by decide +kernel, rfl, by decide +kernel, by decide +kernel⟩
/-- strokes handed in: as they are told -/
structure Handed (H : Hp) (b : Addr) (as : List Addr) (S : List Mu50.Stroke) : Prop where
  lg : LG RowAt H b as (S.map told)
  few : S.length ≤ 1000
theorem Handed.ex {H H' : Hp} {b : Addr} {as : List Addr} {S : List Mu50.Stroke} (h : Handed H b as S) (e : Ex H H') : Handed H' b as S := ⟨h.lg.exRow e, h.few⟩
def spBare (K : PySem.W.Frag) : Sp := fun vs H Q _ => ∃ (a b : Addr) (hs : List Nat) (as : List Addr) (S : List Mu50.Stroke), vs = [.ref a, .ref b] ∧ Hts K H a hs ∧ Handed H b as S ∧ RetN (fun H p => LL H p ((Mu50.bare hs S).map rw2)) H Q
theorem ok_bare {f g : Addr} {fd gd : FuncData} {k : Nat} (F : Fun K "bare_cells" "bare_cells" sBare f fd) (G : FnOk P w K mg base CX0 k g gd ["stroke", "board", "height"] (spPaints K)) (bG : Binds K gd ["stroke", "board", "height"] []) (kG : PySem.W.keepIn K (.ref g) = true) (mG : mg "paints" = some (.ref g))
    (ml : mg "len" = none) (mr : mg "range" = none) (ma : mg "any" = none) : FnOk P w K mg base CX0 (k + 1) f fd ["heights", "strokes"] (spBare K) := by
  refine F.ok scBr (fun vs H Q E h => ?_) (fun cdv A outer s H vs Q E hr h => ?_)
  · obtain ⟨a, b, hs, as, S, rfl, _⟩ := h
    rfl
  obtain ⟨a, b, hs, as, S, rfl, hS, hB, k⟩ := h
  refine ⟨_, pss_cons (ps_set (i := 2) scBr.nd rfl (.inl rfl) (pe_lst pa_nil))
    (pss_cons (ps_for PassesOwn.never rfl (pi_range1 rfl mr (pa_cons (pe_callB call_len_seq rfl ml PySem.boot_len (pa_cons (pv 0) pa_nil)) pa_nil)) (pg_name (i := 3) scBr.nd rfl (.inr rfl))
      (pss_one (ps_for PassesOwn.never rfl (pi_range2 rfl mr (pa_cons pe_int (pa_cons (pe_op op_add (pe_ix ix_list (pv 0) (pv 3) (fun _ _ => rfl)) pe_int) pa_nil))) (pg_name (i := 4) scBr.nd rfl (.inr rfl))
        (pss_one (ps_if (pt_not (pt_val (pe_callB (cr_any rfl) rfl ma (by decide +kernel) (pa_cons (pe_lc (own := [("stroke", 5)]) (g := gName 5) (tt := tYes) rfl scBr.nd (pi_list (pv 1))
            (blkOk_by (N := nBare) (sc := defScope sBare) (by decide +kernel)) (fun _ _ _ _ _ => pg_name (i := 5) scBr.nd rfl (Or.inl rfl)) (fun _ _ _ _ _ => pts_nil)
            (fun _ _ _ _ _ => pe_call G hr rfl mG kG bG .nil pass0 (pa_cons (pv 5) (pa_cons (pv 3) (pa_cons (pv 4) pa_nil))))) pa_nil))))
          (pss_one (ps_expr (pe_bm PySem.F.plainAttrs_list PySem.F.slot_list_append PySem.F.type_list_append mt_append (pv 2) (pa_cons (pe_lst (pa_cons (pv 3) (pa_cons (pv 4) pa_nil))) pa_nil)))) pss_nil)))))
    (pss_one (ps_ret (pv 2)))), ?_⟩
  have h8 := hS.len
  have hnl := nv_len hs
  refine q_asgL (el_lst ea_nil (by decide)) fun p H1 hp e1 h1 => ?_
  refine q_forR1 (n := ((nv hs).length : Int)) (ea_cons (ev_len (K := K) (ev_var rfl) (ex_l e1 hS.sq)) ea_nil) ⟨by omega, by omega⟩
    (fun i σ' H' => ∃ (y3 y4 : Option V), σ' = [some (.ref a), some (.ref b), some (.ref p), y3, y4, none] ∧ Ex H H' ∧ LL H' p ((bareUp hs S i).map rw2))
    (fun H2 e2 => ⟨none, none, rfl, e1.trans e2, [], LG.nil (e2 _ _ h1)⟩) ?_ ?_
  · rintro i σ' H' hi ⟨y3, y4, rfl, e, el⟩
    have hi' : i < hs.length := by omega
    obtain ⟨x, hx⟩ : ∃ x, hs[i]? = some x := ⟨_, List.getElem?_eq_getElem hi'⟩
    have hx8 := hS.top x (List.mem_of_getElem? hx)
    have hgd : hs.getD i 0 = x := by
      rw [List.getD_eq_getElem?_getD, hx]
      rfl
    refine s_forR2 (lo := 1) (n := (x : Int) + 1) (ea_cons ev_c (ea_cons (ev_op (ev_op (ev_var rfl) (ev_var rfl) (rv_ixL (K := K) (ex_l e hS.sq) (nv_at rfl hx))) ev_c rv_I0) ea_nil)) ⟨by omega, by omega, by omega, by omega⟩
      (fun j σ' H' => ∃ (y4 : Option V), σ' = [some (.ref a), some (.ref b), some (.ref p), some (.int (i : Int)), y4, none] ∧ Ex H H' ∧ LL H' p ((bareUp hs S i ++ bareRow S i j).map rw2))
      (fun H3 e3 => ⟨y4, rfl, e.trans e3, ?_⟩) ?_ ?_
    · rw [show bareRow S i 0 = [] from rfl, List.append_nil]
      exact el.ex e3
    · rintro j σ' H' hj ⟨y4, rfl, e, as', el⟩
      have ej : (1 + (j : Int)) = ((j + 1 : Nat) : Int) := by omega
      rw [ej]
      refine s_when (et_not (et_B (ev_anyL (K := K) (el_tests (K := K) (b := b) (S.map (Mu50.paints (i, j + 1))) (by rw [List.length_map, List.length_map]) (ev_var rfl) (hB.ex e).lg (by rw [List.length_map]; exact hB.few) (fun _ => rfl) fun c q r z H3 e3 hr hz hq => ?_)))) (fun hc H3 e3 => ?_) (fun hc H3 e3 => ?_)
      · rw [List.getElem?_map] at hr hz
        cases hs' : S[c]? with
        | none => rw [hs'] at hr; cases hr
        | some s =>
          rw [hs'] at hr hz
          have e5 : told s = r := Option.some.inj hr
          have e6 : Mu50.paints (i, j + 1) s = z := Option.some.inj hz
          subst e5 e6
          exact ev_callV (ea_cons (ev_var rfl) (ea_cons (ev_var rfl) (ea_cons (ev_var rfl) ea_nil))) fun H4 e4 Q q' => ⟨q, s, i, j + 1, rfl, sq_of (e4 _ _ (e3 _ _ hq)), q'⟩
      · have hc' : S.any (Mu50.paints (i, j + 1)) = false := by
          rw [Bool.not_eq_true', List.any_map] at hc
          exact hc
        have el3 := el.exRow e3
        refine s_appL (K := K) el3.lst (ev_var rfl) (el_lst (ea_cons (ev_var rfl) (ea_cons (ev_var rfl) ea_nil)) (by show 2 ≤ 100000; decide)) ?_ fun q H4 hq e4 h4 => ?_
        · have := bareUp_le (S := S) hS.top i
          have := bareRow_le S i j
          rw [List.length_map, el.len, List.length_map, List.length_append]
          omega
        · refine ⟨_, rfl, Ex.mut ((e.trans e3).trans e4) hp, as' ++ [q], ?_⟩
          rw [bareRow_succ, if_neg (by rw [hc']; exact Bool.false_ne_true), ← List.append_assoc, List.map_append]
          exact (el3.exRow e4).snoc (x := rw2 (i, j + 1)) (RowAt.new (r := rw2 (i, j + 1)) el3.lst hq h4)
      · have hc' : S.any (Mu50.paints (i, j + 1)) = true := by
          rw [Bool.not_eq_false', List.any_map] at hc
          exact hc
        refine ⟨_, rfl, e.trans e3, as', ?_⟩
        rw [bareRow_succ, if_pos hc']
        exact el.exRow e3
    · rintro σ' H' ⟨y4, rfl, e, el⟩
      refine ⟨_, _, rfl, e, ?_⟩
      rw [show (((x : Int) + 1) - 1).toNat = x by omega] at el
      show LL H' p ((bareUp hs S i ++ bareRow S i (hs.getD i 0)).map rw2)
      rw [hgd]
      exact el
  · rintro σ' H' ⟨y3, y4, rfl, e, el⟩
    refine s_ret (ev_var rfl) fun H2 e2 => k p H2 hp (e.trans e2) ?_
    rw [show ((nv hs).length : Int).toNat = hs.length by omega] at el
    rw [bare_eq]
    exact el.ex e2
end
end Bf

set_option Elab.async false
set_option maxRecDepth 100000
set_option maxHeartbeats 2000000
namespace Bf
open PySem PySem.Spec PyProof.Rows L2 Evl
section
variable {K : PySem.W.Frag} {σ : L2.St} {H : Hp} {te ta tb : TE}
/-- a new list and a list that stands -/
theorem el_cat {xs zs : List V} {q : Addr} (ha : EvL ta σ H xs) (hb : Ev tb σ H (.ref q)) (hq : H q = some (.lst zs)) (hz : xs.length + zs.length ≤ 100000) : EvL (tOp rCat ta tb) σ H (xs ++ zs) := fun H1 e _ k =>
  ha H1 e _ fun p H2 _ e2 h2 => hb H2 (e.trans e2) _ fun _ e3 => ⟨p, q, xs, zs, rfl, rfl, e3 _ _ h2, ((e.trans e2).trans e3) _ _ hq, sz_of hz, fun r hr => k r _ (fresh_back (e2.trans e3) hr) ((e2.trans e3).trans (Ex.new hr)) upd_same⟩
/-- how many rows -/
theorem ev_lenR {rows : List (List Int)} (h : EvN (fun H p => LL H p rows) te σ H) : Ev (tCB (rLenS K) (tCons te tNil)) σ H (.int (rows.length : Int)) := fun H1 e _ q =>
  h H1 e _ fun p H2 _ e2 ⟨as, h2⟩ => ⟨p, as.map V.ref, rfl, .inl (sq_of h2.lst), by
    rw [List.length_map, h2.len]
    exact q H2 e2⟩
end
theorem size_is {x y : Nat} : (okSize (x : Int) && okSize (y : Int)) = Mu50.isSize x y := by
  have h : ∀ x : Nat, okSize (x : Int) = (decide (1 ≤ x) && decide (x ≤ 8)) := fun x => by
    unfold okSize
    by_cases c : 1 ≤ x
    · by_cases d : x ≤ 8
      · rw [decide_eq_true c, decide_eq_true d, decide_eq_true (by omega), decide_eq_true (by omega)]
      · rw [decide_eq_false d, Bool.and_false, decide_eq_false (by omega : ¬ (x : Int) ≤ 8), Bool.and_false]
    · rw [decide_eq_false c, Bool.false_and, decide_eq_false (by omega : ¬ 1 ≤ (x : Int)), Bool.false_and]
  rw [h, h]
  unfold Mu50.isSize Mu50.BOARDS Mu50.HIGH
  rw [Bool.and_assoc]
theorem size_ok {x y : Nat} (h : Mu50.isSize x y = true) : 1 ≤ x ∧ x ≤ 8 ∧ 1 ≤ y ∧ y ≤ 8 := by
  unfold Mu50.isSize Mu50.BOARDS Mu50.HIGH at h
  simp only [Bool.and_eq_true, decide_eq_true_eq] at h
  exact h
/-! ### what is answered -/
def aPlaces (hs : List Nat) (w t : Nat) : List Int := if Mu50.isSize w t = false then [-1] else Mu50.nums ((Mu50.places hs w t).length :: (match Mu50.places hs w t with
    | [] => []
    | x :: _ => [x.1, x.2]))
def aRaise (hs : List Nat) (w t : Nat) : List Int := if Mu50.isSize w t = false then [-1] else match Mu50.leastRaised hs w t with
    | none => [-6]
    | some x => Mu50.nums [x.1, x.2]
def aStrokes (hs : List Nat) : List Int := Mu50.nums ((Mu50.painted hs).length :: (Mu50.painted hs).flatMap Mu50.toldStroke)
def aJudge (hs : List Nat) (l : List (List Nat)) : List Int := match l.mapM Mu50.strokeOf with
    | none => [-1]
    | some m => match Mu50.wrong hs m with
      | some i => [-3, (i : Int)]
      | none => match Mu50.bare hs m with
        | x :: r => Mu50.nums [r.length + 1, x.1, x.2]
        | [] => Mu50.nums [0, m.length - (Mu50.painted hs).length]
section
variable {P : Program} {w : World} {K : PySem.W.Frag} {mg : Str → Option Value} {base : Heap}
theorem scPl : FnScope ["heights", "width", "height", "found"] ["heights", "width", "height"] (defScope sPlaces) := ⟨rfl, rfl, rfl, by decide +kernel, rfl, by decide +kernel, by decide +kernel⟩
def spPlaces (K : PySem.W.Frag) : Sp := fun vs H Q _ => ∃ (a : Addr) (hs : List Nat) (w t : Nat), vs = [.ref a, .int (w : Int), .int (t : Int)] ∧ Hts K H a hs ∧ RetL ((aPlaces hs w t).map V.int) H Q
theorem ok_places {f g z : Addr} {fd gd zd : FuncData} {k : Nat} {tn : Tok} (F : Fun K "places" "places" sPlaces f fd)
    (G : FnOk P w K mg base CX0 k g gd ["heights", "width", "height"] (spFitting K)) (bG : Binds K gd ["heights", "width", "height"] []) (kG : PySem.W.keepIn K (.ref g) = true) (mG : mg "fitting_places" = some (.ref g))
    (Z : FnOk P w K mg base CX0 k z zd ["number"] spSize) (bZ : Binds K zd ["number"] []) (kZ : PySem.W.keepIn K (.ref z) = true) (mZ : mg "is_size" = some (.ref z))
    (mn : mg "NOT_ALLOWED" = some (.int (-1) tn)) (ml : mg "len" = none) : FnOk P w K mg base CX0 (k + 1) f fd ["heights", "width", "height"] (spPlaces K) := by
  refine F.ok scPl (fun vs H Q E h => ?_) (fun cdv A outer s H vs Q E hr h => ?_)
  · obtain ⟨a, hs, w, t, rfl, _⟩ := h
    rfl
  obtain ⟨a, hs, w, t, rfl, hS, k⟩ := h
  refine ⟨_, pss_cons (ps_if (pt_not (PW.pt (pw_and (pt_val (pe_call Z hr rfl mZ kZ bZ .nil pass0 (pa_cons (pv 1) pa_nil))) (pw_and1 (pt_val (pe_call Z hr rfl mZ kZ bZ .nil pass0 (pa_cons (pv 2) pa_nil))))))) (pss_one (ps_ret (pe_lst (pa_cons (pe_glob (v := .int (-1)) rfl mn ⟨_, rfl⟩) pa_nil)))) pss_nil)
    (pss_cons (ps_set (i := 3) scPl.nd rfl (.inl rfl) (pe_call G hr rfl mG kG bG .nil pass0 (pa_cons (pv 0) (pa_cons (pv 1) (pa_cons (pv 2) pa_nil)))))
    (pss_cons (ps_if (pt_cmpR op_eq (pe_callB call_len_seq rfl ml PySem.boot_len (pa_cons (pv 3) pa_nil)) pe_int (nomark _)) (pss_one (ps_ret (pe_lst (pa_cons pe_int pa_nil)))) pss_nil)
    (pss_one (ps_ret (pe_op op_cat (pe_lst (pa_cons (pe_callB call_len_seq rfl ml PySem.boot_len (pa_cons (pv 3) pa_nil)) pa_nil)) (pe_ix ix_list (pv 3) pe_int (fun _ _ => rfl))))))), ?_⟩
  refine q_when (et_not (et_and (et_B (ev_callV (z := .bl (okSize (w : Int))) (ea_cons (ev_var rfl) ea_nil) fun H1 e1 Q q => ⟨_, rfl, q⟩)) fun _ => et_B (ev_callV (z := .bl (okSize (t : Int))) (ea_cons (ev_var rfl) ea_nil) fun H1 e1 Q q => ⟨_, rfl, q⟩))) (fun hc H1 e1 => ?_) (fun hc H1 e1 => ?_)
  · rw [Bool.not_eq_true', size_is] at hc
    refine s_retL (el_lst (ea_cons ev_c ea_nil) (by decide)) fun p H2 hp e2 h2 => k p H2 (fresh_back e1 hp) (e1.trans e2) ?_
    rw [h2, aPlaces, if_pos hc]
    rfl
  · rw [Bool.not_eq_false', size_is] at hc
    obtain ⟨w1, w8, t1, t8⟩ := size_ok hc
    refine q_asgN (en_call (T := fun H p => LL H p ((plUp hs w t (hs.length + 1 - w)).map rw2)) (ea_cons (ev_var rfl) (ea_cons (ev_var rfl) (ea_cons (ev_var rfl) ea_nil))) fun H2 e2 Q q => ⟨a, hs, w, t, rfl, hS.ex (e1.trans e2), w1, w8, t1, t8, q⟩) fun p H2 hp e2 h2 => ?_
    rw [← places_eq hs w t w1] at h2
    obtain ⟨as, h2⟩ := h2
    refine q_when (et_test (ev_op (ev_len (K := K) (ev_var rfl) (sq_of h2.lst)) ev_c (rv_eq rfl))) (fun hd H3 e3 => ?_) (fun hd H3 e3 => ?_)
    · have hd' : Mu50.places hs w t = [] := by
        have := V.int.inj (of_decide_eq_true hd)
        rw [List.length_map, h2.len, List.length_map] at this
        exact List.length_eq_zero_iff.mp (by omega)
      refine s_retL (el_lst (ea_cons ev_c ea_nil) (by decide)) fun p H4 hp e4 h4 => k p H4 (fresh_back ((e1.trans e2).trans e3) hp) (((e1.trans e2).trans e3).trans e4) ?_
      rw [h4, aPlaces, if_neg (by rw [hc]; decide), hd']
      rfl
    · obtain ⟨x, r, hx⟩ : ∃ x r, Mu50.places hs w t = x :: r := by
        cases c : Mu50.places hs w t with
        | nil =>
          have := of_decide_eq_false hd
          rw [List.length_map, h2.len, List.length_map, c] at this
          exact absurd rfl this
        | cons x r => exact ⟨x, r, rfl⟩
      have h3 := h2.exRow e3
      obtain ⟨q, hq1, hq2⟩ := h3.get (j := 0) (x := rw2 x) (by rw [hx]; rfl)
      have hq3 : H3 q = some (.lst ((rw2 x).map V.int)) := (less_some hq2).2
      refine s_retL (el_cat (el_lst (ea_cons (ev_len (K := K) (ev_var rfl) (sq_of h3.lst)) ea_nil) (by show 1 ≤ 100000; decide)) (ev_op (ev_var rfl) ev_c (rv_ixL (K := K) (sq_of h3.lst) (atI_nat (j := 0) hq1))) hq3 (by show 1 + 2 ≤ 100000; decide)) fun p H4 hp e4 h4 => k p H4 (fresh_back ((e1.trans e2).trans e3) hp) (((e1.trans e2).trans e3).trans e4) ?_
      rw [h4, aPlaces, if_neg (by rw [hc]; decide), List.length_map, h2.len, List.length_map, hx]
      rfl
theorem scRs : FnScope ["heights", "width", "height"] ["heights", "width", "height"] (defScope sRaising) := ⟨rfl, rfl, rfl, by decide +kernel, rfl, by decide +kernel, by decide +kernel⟩
def spRaising (K : PySem.W.Frag) : Sp := fun vs H Q _ => ∃ (a : Addr) (hs : List Nat) (w t : Nat), vs = [.ref a, .int (w : Int), .int (t : Int)] ∧ Hts K H a hs ∧ RetL ((aRaise hs w t).map V.int) H Q
theorem ok_raising {f g z : Addr} {fd gd zd : FuncData} {k : Nat} {tn t6 : Tok} (F : Fun K "raising" "raising" sRaising f fd)
    (G : FnOk P w K mg base CX0 k g gd ["heights", "width", "height"] (spLeast K)) (bG : Binds K gd ["heights", "width", "height"] []) (kG : PySem.W.keepIn K (.ref g) = true) (mG : mg "least_raise" = some (.ref g))
    (Z : FnOk P w K mg base CX0 k z zd ["number"] spSize) (bZ : Binds K zd ["number"] []) (kZ : PySem.W.keepIn K (.ref z) = true) (mZ : mg "is_size" = some (.ref z))
    (mn : mg "NOT_ALLOWED" = some (.int (-1) tn)) (m6 : mg "TOO_FEW_BOARDS" = some (.int (-6) t6)) (ml : mg "len" = none) : FnOk P w K mg base CX0 (k + 1) f fd ["heights", "width", "height"] (spRaising K) := by
  refine F.ok scRs (fun vs H Q E h => ?_) (fun cdv A outer s H vs Q E hr h => ?_)
  · obtain ⟨a, hs, w, t, rfl, _⟩ := h
    rfl
  obtain ⟨a, hs, w, t, rfl, hS, k⟩ := h
  refine ⟨_, pss_cons (ps_if (pt_not (PW.pt (pw_and (pt_val (pe_call Z hr rfl mZ kZ bZ .nil pass0 (pa_cons (pv 1) pa_nil))) (pw_and1 (pt_val (pe_call Z hr rfl mZ kZ bZ .nil pass0 (pa_cons (pv 2) pa_nil))))))) (pss_one (ps_ret (pe_lst (pa_cons (pe_glob (v := .int (-1)) rfl mn ⟨_, rfl⟩) pa_nil)))) pss_nil)
    (pss_cons (ps_if (pt_cmpR op_gt (pv 1) (pe_callB call_len_seq rfl ml PySem.boot_len (pa_cons (pv 0) pa_nil)) (nomark _)) (pss_one (ps_ret (pe_lst (pa_cons (pe_glob (v := .int (-6)) rfl m6 ⟨_, rfl⟩) pa_nil)))) pss_nil)
    (pss_one (ps_ret (pe_call G hr rfl mG kG bG .nil pass0 (pa_cons (pv 0) (pa_cons (pv 1) (pa_cons (pv 2) pa_nil))))))), ?_⟩
  have hnl := nv_len hs
  refine q_when (et_not (et_and (et_B (ev_callV (z := .bl (okSize (w : Int))) (ea_cons (ev_var rfl) ea_nil) fun H1 e1 Q q => ⟨_, rfl, q⟩)) fun _ => et_B (ev_callV (z := .bl (okSize (t : Int))) (ea_cons (ev_var rfl) ea_nil) fun H1 e1 Q q => ⟨_, rfl, q⟩))) (fun hc H1 e1 => ?_) (fun hc H1 e1 => ?_)
  · rw [Bool.not_eq_true', size_is] at hc
    refine s_retL (el_lst (ea_cons ev_c ea_nil) (by decide)) fun p H2 hp e2 h2 => k p H2 (fresh_back e1 hp) (e1.trans e2) ?_
    rw [h2, aRaise, if_pos hc]
    rfl
  · rw [Bool.not_eq_false', size_is] at hc
    obtain ⟨w1, w8, t1, t8⟩ := size_ok hc
    refine q_when (et_test (ev_op (ev_var rfl) (ev_len (K := K) (ev_var rfl) (ex_l e1 hS.sq)) rv_I0)) (fun hd H2 e2 => ?_) (fun hd H2 e2 => ?_)
    · have hd' : hs.length < w := by
        have := of_decide_eq_true hd
        omega
      refine s_retL (el_lst (ea_cons ev_c ea_nil) (by decide)) fun p H3 hp e3 h3 => k p H3 (fresh_back (e1.trans e2) hp) ((e1.trans e2).trans e3) ?_
      rw [h3, aRaise, if_neg (by rw [hc]; decide), leastRaised_none hs w t hd']
      rfl
    · have hd' : w ≤ hs.length := by
        have := of_decide_eq_false hd
        omega
      refine s_retL (el_callL (xs := duo (lrUp hs w t (hs.length - w))) (ea_cons (ev_var rfl) (ea_cons (ev_var rfl) (ea_cons (ev_var rfl) ea_nil))) fun H3 e3 Q q => ⟨a, hs, w, t, rfl, hS.ex ((e1.trans e2).trans e3), w1, hd', q⟩) fun p H3 hp e3 h3 => k p H3 (fresh_back (e1.trans e2) hp) ((e1.trans e2).trans e3) ?_
      rw [h3, aRaise, if_neg (by rw [hc]; decide), leastRaised_eq hs w t w1 hd']
      rfl
theorem scSt : FnScope ["heights", "found", "told", "stroke"] ["heights"] (defScope sStrokes) := ⟨rfl, rfl, rfl, by decide +kernel, rfl, by decide +kernel, by decide +kernel⟩
def spStrokes (K : PySem.W.Frag) : Sp := fun vs H Q _ => ∃ (a : Addr) (hs : List Nat), vs = [.ref a] ∧ Hts K H a hs ∧ RetL ((aStrokes hs).map V.int) H Q
theorem ok_strokes {f g : Addr} {fd gd : FuncData} {k : Nat} (F : Fun K "strokes" "strokes" sStrokes f fd)
    (G : FnOk P w K mg base CX0 k g gd ["heights"] (spFence K)) (bG : Binds K gd ["heights"] []) (kG : PySem.W.keepIn K (.ref g) = true) (mG : mg "fence_strokes" = some (.ref g)) (ml : mg "len" = none) : FnOk P w K mg base CX0 (k + 1) f fd ["heights"] (spStrokes K) := by
  refine F.ok scSt (fun vs H Q E h => ?_) (fun cdv A outer s H vs Q E hr h => ?_)
  · obtain ⟨a, hs, rfl, _⟩ := h
    rfl
  obtain ⟨a, hs, rfl, hS, k⟩ := h
  refine ⟨_, pss_cons (ps_set (i := 1) scSt.nd rfl (.inl rfl) (pe_call G hr rfl mG kG bG .nil pass0 (pa_cons (pv 0) pa_nil)))
    (pss_cons (ps_set (i := 2) scSt.nd rfl (.inl rfl) (pe_lst (pa_cons (pe_callB call_len_seq rfl ml PySem.boot_len (pa_cons (pv 1) pa_nil)) pa_nil)))
    (pss_cons (ps_for PassesOwn.never rfl (pi_list (pv 1)) (pg_name (i := 3) scSt.nd rfl (.inl rfl))
      (pss_one (ps_expr (pe_bm PySem.F.plainAttrs_list PySem.F.slot_list_extend PySem.F.type_list_extend mt_extend (pv 2) (pa_cons (pv 3) pa_nil)))))
    (pss_one (ps_ret (pv 2))))), ?_⟩
  have h8 := hS.len
  refine q_asgN (en_call (T := fun H p => LL H p ((Mu50.painted hs).map told)) (ea_cons (ev_var rfl) ea_nil) fun H1 e1 Q q => ⟨a, hs, rfl, hS.ex e1, q⟩) fun p H1 hp e1 h1 => ?_
  obtain ⟨as, h1⟩ := h1
  have hal : as.length = (Mu50.painted hs).length := by rw [h1.len, List.length_map]
  have hp8 : (Mu50.painted hs).length ≤ 8 := by
    rw [painted_eq hs 8 h8]
    exact Nat.le_trans (strokes_le 8 0 0 hs) h8
  refine q_asgL (el_lst (ea_cons (ev_len (K := K) (ev_var rfl) (sq_of h1.lst)) ea_nil) (by show 1 ≤ 100000; decide)) fun o H2 ho e2 h2 => ?_
  refine q_forLn (K := K) (xs := as.map V.ref) (ev_var rfl) (sq_of (e2 _ _ h1.lst)) (fun i σ' H' => ∃ (y3 : Option V), σ' = [some (.ref a), some (.ref p), some (.ref o), y3] ∧ Ex H1 H' ∧ H' o = some (.lst ((Mu50.nums ((Mu50.painted hs).length :: ((Mu50.painted hs).take i).flatMap Mu50.toldStroke)).map V.int)))
    (fun H3 e3 => ⟨none, rfl, e2.trans e3, ?_⟩) (fun i σ' H' _ ⟨_, _, e, _⟩ => sq_of (e _ _ h1.lst)) ?_ ?_
  · rw [e3 _ _ h2, List.length_map, hal]
    rfl
  · rintro i x σ' H' hi ⟨y3, rfl, e, ho'⟩
    obtain ⟨q, hq, rfl⟩ : ∃ q, as[i]? = some q ∧ x = V.ref q := by
      rw [List.getElem?_map] at hi
      cases z : as[i]? with
      | none => rw [z] at hi; cases hi
      | some q =>
        rw [z] at hi
        exact ⟨q, rfl, (Option.some.inj hi).symm⟩
    have hil : i < (Mu50.painted hs).length := by
      have := (List.getElem?_eq_some_iff.mp hq).1
      omega
    have hs' : (Mu50.painted hs)[i]? = some (Mu50.painted hs)[i] := List.getElem?_eq_getElem hil
    have hrow : H' q = some (.lst ((told (Mu50.painted hs)[i]).map V.int)) := e _ _ (less_some (h1.at_ i q _ hq (by rw [List.getElem?_map, hs']; rfl))).2
    refine ⟨.ref o, rfl, .inl ⟨rfl, _, sq_of ho'⟩, .ref q, rfl, o, q, _, _, rfl, rfl, ho', hrow, ?_, _, rfl, Ex.mut e ho, ?_⟩
    · have hl4 : ∀ s : Mu50.Stroke, (Mu50.toldStroke s).length ≤ 4 := fun s => by cases s <;> simp [Mu50.toldStroke]
      have hfl : ∀ l : List Mu50.Stroke, (l.flatMap Mu50.toldStroke).length ≤ 4 * l.length := fun l => by
        induction l with
        | nil => exact Nat.le_refl _
        | cons s l ih =>
          have := hl4 s
          rw [List.flatMap_cons, List.length_append, List.length_cons]
          omega
      have h5 := hfl ((Mu50.painted hs).take i)
      have h6 := hl4 (Mu50.painted hs)[i]
      have h7 : ((Mu50.painted hs).take i).length ≤ 8 := by
        rw [List.length_take]
        omega
      refine sz_of ?_
      unfold told Mu50.nums
      rw [List.length_map, List.length_map, List.length_map, List.length_map, List.length_cons]
      omega
    · rw [upd_same, List.take_add_one, hs', List.flatMap_append]
      rw [show ((some (Mu50.painted hs)[i]).toList.flatMap Mu50.toldStroke) = Mu50.toldStroke (Mu50.painted hs)[i] by simp]
      unfold told Mu50.nums
      rw [← List.map_append, ← List.map_append]
      rfl
  · rintro σ' H' ⟨y3, rfl, e, ho'⟩
    refine s_ret (ev_var rfl) fun H3 e3 => k o H3 (fresh_back e1 ho) ((e1.trans e).trans e3) ?_
    rw [e3 _ _ ho', List.length_map, hal, List.take_length]
    rfl
end
end Bf

set_option Elab.async false
set_option maxRecDepth 100000
set_option maxHeartbeats 2000000
namespace Bf
open PySem PySem.Spec PyProof.Rows L2 Evl
theorem wrong_some {f : List Nat} {S : List Mu50.Stroke} {i : Nat} {s : Mu50.Stroke} (h : ∀ (j : Nat) (t : Mu50.Stroke), j < i → S[j]? = some t → Mu50.able f t = true) (hs : S[i]? = some s) (hn : Mu50.able f s = false) : Mu50.wrong f S = some i := by
  unfold Mu50.wrong
  have hi := (List.getElem?_eq_some_iff.mp hs).1
  have he := (List.getElem?_eq_some_iff.mp hs).2
  rw [List.findIdx?_eq_some_iff_getElem]
  refine ⟨hi, ?_, fun j hj => ?_⟩
  · rw [he, hn]
    rfl
  · rw [h j S[j] hj (List.getElem?_eq_getElem (by omega))]
    decide
theorem wrong_none {f : List Nat} {S : List Mu50.Stroke} (h : ∀ (j : Nat) (t : Mu50.Stroke), S[j]? = some t → Mu50.able f t = true) : Mu50.wrong f S = none := by
  unfold Mu50.wrong
  rw [List.findIdx?_eq_none_iff]
  intro s hs
  obtain ⟨j, hj, e⟩ := List.mem_iff_getElem.mp hs
  rw [h j s (by rw [List.getElem?_eq_getElem hj, e])]
  rfl
section
variable {P : Program} {w : World} {K : PySem.W.Frag} {mg : Str → Option Value} {base : Heap}
theorem scJd : FnScope ["heights", "handed", "stroke", "which", "bare"] ["heights", "handed"] (defScope sJudge) := ⟨rfl, rfl, rfl, by decide +kernel, rfl, by decide +kernel, by decide +kernel⟩
def spJudge (K : PySem.W.Frag) : Sp := fun vs H Q _ => ∃ (a b : Addr) (hs : List Nat) (as : List Addr) (l : List (List Nat)), vs = [.ref a, .ref b] ∧ Hts K H a hs ∧ LG RowAt H b as (l.map Mu50.nums) ∧ l.length ≤ 20 ∧ RetL ((aJudge hs l).map V.int) H Q
theorem ok_judge {f g1 g2 g3 g4 : Addr} {fd gd1 gd2 gd3 gd4 : FuncData} {k : Nat} {tn t3 : Tok} (F : Fun K "judge" "judge" sJudge f fd)
    (G1 : FnOk P w K mg base CX0 k g1 gd1 ["stroke"] (spIs K)) (bG1 : Binds K gd1 ["stroke"] []) (kG1 : PySem.W.keepIn K (.ref g1) = true) (mG1 : mg "is_stroke" = some (.ref g1))
    (G2 : FnOk P w K mg base CX0 k g2 gd2 ["heights", "stroke"] (spCan K)) (bG2 : Binds K gd2 ["heights", "stroke"] []) (kG2 : PySem.W.keepIn K (.ref g2) = true) (mG2 : mg "can_be_done" = some (.ref g2))
    (G3 : FnOk P w K mg base CX0 k g3 gd3 ["heights", "strokes"] (spBare K)) (bG3 : Binds K gd3 ["heights", "strokes"] []) (kG3 : PySem.W.keepIn K (.ref g3) = true) (mG3 : mg "bare_cells" = some (.ref g3))
    (G4 : FnOk P w K mg base CX0 k g4 gd4 ["heights"] (spFence K)) (bG4 : Binds K gd4 ["heights"] []) (kG4 : PySem.W.keepIn K (.ref g4) = true) (mG4 : mg "fence_strokes" = some (.ref g4))
    (mn : mg "NOT_ALLOWED" = some (.int (-1) tn)) (m3 : mg "CANNOT_BE_DONE" = some (.int (-3) t3)) (ml : mg "len" = none) (ma : mg "all" = none) (me : mg "enumerate" = none) : FnOk P w K mg base CX0 (k + 1) f fd ["heights", "handed"] (spJudge K) := by
  refine F.ok scJd (fun vs H Q E h => ?_) (fun cdv A outer s H vs Q E hr h => ?_)
  · obtain ⟨a, b, hs, as, l, rfl, _⟩ := h
    rfl
  obtain ⟨a, b, hs, as, l, rfl, hS, hB, h20, k⟩ := h
  refine ⟨_, pss_cons (ps_if (pt_not (pt_val (pe_callB (cr_all rfl) rfl ma (by decide +kernel) (pa_cons (pe_lc (own := [("stroke", 2)]) (g := gName 2) (tt := tYes) rfl scJd.nd (pi_list (pv 1))
            (blkOk_by (N := ["heights", "handed", "stroke", "which", "bare"]) (sc := defScope sJudge) (by decide +kernel)) (fun _ _ _ _ _ => pg_name (i := 2) scJd.nd rfl (Or.inl rfl)) (fun _ _ _ _ _ => pts_nil)
            (fun _ _ _ _ _ => pe_call G1 hr rfl mG1 kG1 bG1 .nil pass0 (pa_cons (pv 2) pa_nil))) pa_nil)))) (pss_one (ps_ret (pe_lst (pa_cons (pe_glob (v := .int (-1)) rfl mn ⟨_, rfl⟩) pa_nil)))) pss_nil)
    (pss_cons (ps_for PassesOwn.never rfl (pi_enum rfl me (pa_cons (pv 1) pa_nil)) (pg_tup rfl (pgs_cons (pg_name (i := 3) scJd.nd rfl (.inl rfl)) (pgs_cons (pg_name (i := 2) scJd.nd rfl (.inl rfl)) pgs_nil)))
      (pss_one (ps_if (pt_not (pt_val (pe_call G2 hr rfl mG2 kG2 bG2 .nil pass0 (pa_cons (pv 0) (pa_cons (pv 2) pa_nil))))) (pss_one (ps_ret (pe_lst (pa_cons (pe_glob (v := .int (-3)) rfl m3 ⟨_, rfl⟩) (pa_cons (pv 3) pa_nil))))) pss_nil)))
    (pss_cons (ps_set (i := 4) scJd.nd rfl (.inl rfl) (pe_call G3 hr rfl mG3 kG3 bG3 .nil pass0 (pa_cons (pv 0) (pa_cons (pv 1) pa_nil))))
    (pss_cons (ps_if (pt_cmpR op_gt (pe_callB call_len_seq rfl ml PySem.boot_len (pa_cons (pv 4) pa_nil)) pe_int (nomark _)) (pss_one (ps_ret (pe_op op_cat (pe_lst (pa_cons (pe_callB call_len_seq rfl ml PySem.boot_len (pa_cons (pv 4) pa_nil)) pa_nil)) (pe_ix ix_list (pv 4) pe_int (fun _ _ => rfl))))) pss_nil)
    (pss_one (ps_ret (pe_lst (pa_cons pe_int (pa_cons (pe_op op_sub (pe_callB call_len_seq rfl ml PySem.boot_len (pa_cons (pv 1) pa_nil)) (pe_callB call_len_seq rfl ml PySem.boot_len (pa_cons (pe_call G4 hr rfl mG4 kG4 bG4 .nil pass0 (pa_cons (pv 0) pa_nil)) pa_nil))) pa_nil)))))))), ?_⟩
  refine q_when (et_not (et_B (ev_allL (K := K) (el_tests (K := K) (b := b) (l.map fun r => (Mu50.strokeOf r).isSome) (by rw [List.length_map, List.length_map]) (ev_var rfl) hB (by rw [List.length_map]; omega) (fun _ => rfl) fun c q r z H3 e3 hr hz hq => ?_)))) (fun hc H1 e1 => ?_) (fun hc H1 e1 => ?_)
  · rw [List.getElem?_map] at hr hz
    cases hl' : l[c]? with
    | none => rw [hl'] at hr; cases hr
    | some x =>
      rw [hl'] at hr hz
      have e5 : Mu50.nums x = r := Option.some.inj hr
      have e6 : (Mu50.strokeOf x).isSome = z := Option.some.inj hz
      subst e5 e6
      exact ev_callV (ea_cons (ev_var rfl) ea_nil) fun H4 e4 Q q' => ⟨q, x, rfl, sq_of (e4 _ _ (e3 _ _ hq)), q'⟩
  · rw [Bool.not_eq_true', List.all_map] at hc
    refine s_retL (el_lst (ea_cons ev_c ea_nil) (by decide)) fun p H2 hp e2 h2 => k p H2 (fresh_back e1 hp) (e1.trans e2) ?_
    rw [h2, aJudge, mapM_none l hc]
    rfl
  rw [Bool.not_eq_false', List.all_map] at hc
  obtain ⟨S, hm, hmap⟩ := mapM_some l hc
  have hSl := map_len hmap
  have hrows : l.map Mu50.nums = S.map told := by
    refine List.ext_getElem? fun i => ?_
    rw [List.getElem?_map, List.getElem?_map]
    cases c : l[i]? with
    | none =>
      have : l.length ≤ i := List.getElem?_eq_none_iff.mp c
      rw [List.getElem?_eq_none (by omega)]
      rfl
    | some r =>
      obtain ⟨s, h1, h2⟩ := map_at hmap c
      rw [h1, strokeOf_inv h2]
      rfl
  rw [hrows] at hB
  -- for which, stroke in enumerate(handed)
  have hlen : (as.map V.ref).length = S.length := by rw [List.length_map, hB.len, List.length_map]
  refine ⟨.ref b, rfl, b, as.map V.ref, rfl, sq_of (e1 _ _ hB.lst), for_it walk_enum (fun i σ' H' => ∃ (y2 y3 : Option V), σ' = [some (.ref a), some (.ref b), y2, y3, none] ∧ Ex H H' ∧ ∀ (j : Nat) (t : Mu50.Stroke), j < i → S[j]? = some t → Mu50.able hs t = true)
    ⟨none, none, rfl, e1, fun j t hj => absurd hj (Nat.not_lt_zero j)⟩ (fun i σ' H' _ ⟨_, _, _, e, _⟩ => sq_of (e _ _ hB.lst)) ?_ ?_⟩
  · rintro i x σ' H2 H3 hi ⟨y2, y3, rfl, e, hok⟩ ⟨T, x1, x2, rfl, hT, rfl, g1, g2⟩
    have hx1 : x1 = .int (i : Int) := (Option.some.inj g1).symm
    subst hx1
    obtain ⟨q, hq, rfl⟩ : ∃ q, as[i]? = some q ∧ x2 = V.ref q := by
      dsimp only at g2
      rw [List.getElem?_map] at g2
      cases z : as[i]? with
      | none => rw [z] at g2; cases g2
      | some q =>
        rw [z] at g2
        exact ⟨q, rfl, (Option.some.inj g2).symm⟩
    have hil : i < S.length := by omega
    have hSi : S[i]? = some S[i] := List.getElem?_eq_getElem hil
    have eT : Ex H (upd H2 T (.tup [.int (i : Int), .ref q])) := e.trans (Ex.new hT)
    have hrow : H q = some (.lst ((told S[i]).map V.int)) := (less_some (hB.at_ i q _ hq (by rw [List.getElem?_map, hSi]; rfl))).2
    refine ⟨T, [.int (i : Int), .ref q], rfl, .inl (.inl upd_same), rfl, _, _, rfl, _, _, rfl, rfl, ?_⟩
    refine s_when (et_not (et_B (ev_callV (z := .bl (Mu50.able hs S[i])) (ea_cons (ev_var rfl) (ea_cons (ev_var rfl) ea_nil)) fun H4 e4 Q q' => ⟨a, q, hs, S[i], rfl, hS.ex (eT.trans e4), sq_of ((eT.trans e4) _ _ hrow), q'⟩))) (fun hd H4 e4 => ?_) (fun hd H4 e4 => ?_)
    · rw [Bool.not_eq_true'] at hd
      refine s_retL (el_lst (ea_cons ev_c (ea_cons (ev_var rfl) ea_nil)) (by show 2 ≤ 100000; decide)) fun p H5 hp e5 h5 => k p H5 (fresh_back (eT.trans e4) hp) ((eT.trans e4).trans e5) ?_
      rw [h5, aJudge, hm]
      dsimp only
      rw [wrong_some hok hSi hd]
      rfl
    · rw [Bool.not_eq_false'] at hd
      refine ⟨_, _, rfl, eT.trans e4, fun j t hj ht => ?_⟩
      by_cases c : j < i
      · exact hok j t c ht
      · have : j = i := by omega
        subst this
        rw [hSi] at ht
        cases ht
        exact hd
  · rintro σ' H2 ⟨y2, y3, rfl, e, hok⟩
    rw [hlen] at hok
    have hwr : Mu50.wrong hs S = none := wrong_none fun j t ht => hok j t (List.getElem?_eq_some_iff.mp ht).1 ht
    refine q_asgN (en_call (T := fun H p => LL H p ((Mu50.bare hs S).map rw2)) (ea_cons (ev_var rfl) (ea_cons (ev_var rfl) ea_nil)) fun H3 e3 Q q => ⟨a, b, hs, as, S, rfl, hS.ex (e.trans e3), ⟨hB.exRow (e.trans e3), by omega⟩, q⟩) fun p H3 hp e3 h3 => ?_
    obtain ⟨bs, h3⟩ := h3
    have e03 := e.trans e3
    refine q_when (et_test (ev_op (ev_len (K := K) (ev_var rfl) (sq_of h3.lst)) ev_c rv_I0)) (fun hd H4 e4 => ?_) (fun hd H4 e4 => ?_)
    · obtain ⟨x, r, hx⟩ : ∃ x r, Mu50.bare hs S = x :: r := by
        cases c : Mu50.bare hs S with
        | nil =>
          have := of_decide_eq_true hd
          rw [List.length_map, h3.len, List.length_map, c] at this
          exact absurd this (by decide)
        | cons x r => exact ⟨x, r, rfl⟩
      have h4 := h3.exRow e4
      obtain ⟨q, hq1, hq2⟩ := h4.get (j := 0) (x := rw2 x) (by rw [hx]; rfl)
      have hq3 : H4 q = some (.lst ((rw2 x).map V.int)) := (less_some hq2).2
      refine s_retL (el_cat (el_lst (ea_cons (ev_len (K := K) (ev_var rfl) (sq_of h4.lst)) ea_nil) (by show 1 ≤ 100000; decide)) (ev_op (ev_var rfl) ev_c (rv_ixL (K := K) (sq_of h4.lst) (atI_nat (j := 0) hq1))) hq3 (by show 1 + 2 ≤ 100000; decide)) fun p H5 hp e5 h5 => k p H5 (fresh_back (e03.trans e4) hp) ((e03.trans e4).trans e5) ?_
      rw [h5, aJudge, hm]
      dsimp only
      rw [hwr, List.length_map, h3.len, List.length_map, hx]
      rfl
    · have hb : Mu50.bare hs S = [] := by
        have := of_decide_eq_false hd
        rw [List.length_map, h3.len, List.length_map] at this
        exact List.length_eq_zero_iff.mp (by omega)
      have hfew := fewest hs hS.pos S (fun s hs' => by
        obtain ⟨j, hj, ej⟩ := List.mem_iff_getElem.mp hs'
        exact hok j s hj (by rw [List.getElem?_eq_getElem hj, ej])) hb
      refine s_retL (el_lst (ea_cons ev_c (ea_cons (ev_op (ev_len (K := K) (ev_var rfl) (sq_of ((e03.trans e4) _ _ hB.lst))) (ev_lenR (K := K) (rows := (Mu50.painted hs).map told) (en_call (ea_cons (ev_var rfl) ea_nil) fun H5 e5 Q q => ⟨a, hs, rfl, hS.ex ((e03.trans e4).trans e5), q⟩)) rv_I0) ea_nil)) (by show 2 ≤ 100000; decide)) fun p H5 hp e5 h5 => k p H5 (fresh_back (e03.trans e4) hp) ((e03.trans e4).trans e5) ?_
      rw [h5, aJudge, hm]
      dsimp only
      rw [hwr, hb, hlen, List.length_map]
      show some (HO.lst [V.int 0, V.int ((S.length : Int) - ((Mu50.painted hs).length : Int))]) = some (HO.lst [V.int 0, V.int ((S.length - (Mu50.painted hs).length : Nat) : Int)])
      congr 5
      omega
end
end Bf

set_option Elab.async false
set_option maxRecDepth 100000
set_option maxHeartbeats 2000000
namespace Bf
open PySem PySem.Spec PyProof.Rows L2 Evl
/-! ### what is new since H -/
def fresh (H H' : Hp) : Hp := fun b => match H b with
  | none => H' b
  | some _ => none
theorem fresh_of {H H' : Hp} {b : Addr} (h : H b = none) : fresh H H' b = H' b := by
  unfold fresh
  rw [h]
theorem fresh_some {H H' : Hp} {b : Addr} {o : HO} (h : fresh H H' b = some o) : H b = none ∧ H' b = some o := by
  unfold fresh at h
  cases c : H b with
  | none =>
    rw [c] at h
    exact ⟨rfl, h⟩
  | some u =>
    rw [c] at h
    cases h
theorem fresh_ex {H H1 H2 : Hp} (e : Ex H1 H2) : Ex (fresh H H1) (fresh H H2) := fun b o h => by
  obtain ⟨h1, h2⟩ := fresh_some h
  rw [fresh_of h1]
  exact e _ _ h2
theorem fresh_in {H H1 : Hp} : Ex (fresh H H1) H1 := fun _ _ h => (fresh_some h).2
theorem fresh_upd {H H1 : Hp} {p : Addr} {o : HO} (hp : H p = none) : fresh H (upd H1 p o) = upd (fresh H H1) p o := by
  funext b
  by_cases c : b = p
  · subst c
    rw [fresh_of hp, upd_same, upd_same]
  · rw [upd_ne c]
    unfold fresh
    cases H b with
    | none => exact upd_ne c
    | some _ => rfl
theorem less_upd_ne {H : Hp} {p q : Addr} {o : HO} (h : q ≠ p) : less (upd H q o) p = upd (less H p) q o := by
  funext b
  unfold less
  by_cases c : b = p
  · subst c
    rw [if_pos rfl, upd_ne (fun z => h z.symm), if_pos rfl]
  · rw [if_neg c]
    by_cases d : b = q
    · subst d
      rw [upd_same, upd_same]
    · rw [upd_ne d, upd_ne d, if_neg c]
/-! ### a call that was read -/
def CallAt (H : Hp) (a : Addr) (c : List (List Int)) : Prop := ∃ (n : Int) (ns : List Int) (rows : List (List Int)) (q r : Addr) (bs : List Addr), c = (n :: ns) :: rows ∧ H a = some (.tup [.int n, .ref q, .ref r]) ∧ H q = some (.lst (ns.map V.int)) ∧ LG RowAt H r bs rows
theorem CallAt.mono {H H' : Hp} {a : Addr} {c : List (List Int)} (e : Ex H H') (h : CallAt H a c) : CallAt H' a c := by
  obtain ⟨n, ns, rows, q, r, bs, h1, h2, h3, h4⟩ := h
  exact ⟨n, ns, rows, q, r, bs, h1, e _ _ h2, e _ _ h3, h4.exRow e⟩
theorem LG.exCall {H H1 : Hp} {p : Addr} {as : List Addr} {xs : List (List (List Int))} (h : LG CallAt H p as xs) (e : Ex H H1) : LG CallAt H1 p as xs := LG.ex (R := CallAt) CallAt.mono e h
/-! ### lists by what is behind a place -/
theorem drop_get {α : Type} {l r : List α} {k : Nat} {x : α} (h : l.drop k = x :: r) : l[k]? = some x := by
  have := congrArg (fun z => z[0]?) h
  simp only [List.getElem?_drop, Nat.add_zero, List.getElem?_cons_zero] at this
  exact this
theorem drop_next {α : Type} {l r : List α} {k : Nat} {x : α} (h : l.drop k = x :: r) : l.drop (k + 1) = r := by
  rw [← List.drop_drop, h]
  rfl
theorem drop_more {α : Type} {l a r : List α} {k : Nat} (h : l.drop k = a ++ r) : l.drop (k + a.length) = r := by
  rw [← List.drop_drop, h, List.drop_left]
theorem drop_lt {α : Type} {l r : List α} {k : Nat} {x : α} (h : l.drop k = x :: r) : k < l.length := (List.getElem?_eq_some_iff.mp (drop_get h)).1
section
variable {P : Program} {w : World} {K : PySem.W.Frag} {mg : Str → Option Value} {base : Heap}
theorem scCt : FnScope ["calls", "at"] ["calls", "at"] (defScope sCounted) := ⟨rfl, rfl, rfl, by decide +kernel, rfl, by decide +kernel, by decide +kernel⟩
def spCounted (K : PySem.W.Frag) : Sp := fun vs H Q _ => ∃ (a : Addr) (cs : List Int) (k : Nat) (r post : List Int), vs = [.ref a, .int (k : Int)] ∧ SqL K H a (cs.map V.int) ∧ cs.drop k = (r.length : Int) :: (r ++ post) ∧ RetL (r.map V.int) H Q
theorem ok_counted {f : Addr} {fd : FuncData} {k : Nat} (F : Fun K "counted" "counted" sCounted f fd) : FnOk P w K mg base CX0 (k + 1) f fd ["calls", "at"] (spCounted K) := by
  refine F.ok scCt (fun vs H Q E h => ?_) (fun cdv A outer s H vs Q E hr h => ?_)
  · obtain ⟨a, cs, k, r, post, rfl, _⟩ := h
    rfl
  obtain ⟨a, cs, k, r, post, rfl, hS, hd, kq⟩ := h
  refine ⟨_, pss_one (ps_ret (pe_slice sl_list (pv 0) (po_some (pe_op op_add (pv 1) pe_int)) (po_some (pe_op op_add (pe_op op_add (pv 1) pe_int) (pe_ix ix_list (pv 0) (pv 1) (fun _ _ => rfl)))))), ?_⟩
  have hg : (cs.map V.int)[k]? = some (.int (r.length : Int)) := by
    rw [List.getElem?_map, drop_get hd]
    rfl
  refine s_retL (el_sl (K := K) (ev_var rfl) (eo_some (ev_op (ev_var rfl) ev_c rv_I0)) (eo_some (ev_op (ev_op (ev_var rfl) ev_c rv_I0) (ev_op (ev_var rfl) (ev_var rfl) (rv_ixL (K := K) hS (at_of rfl hg))) rv_I0)) hS) fun p H1 hp e1 h1 => kq p H1 hp e1 ?_
  rw [h1, cut_nat _ (i := k + 1) (j := k + 1 + r.length) (by omega) (by omega), ← List.map_drop, ← List.map_take, drop_next hd, show k + 1 + r.length - (k + 1) = r.length by omega, List.take_left]
theorem scRd : FnScope ["calls", "read", "at", "number", "numbers", "many", "lists", "row"] ["calls"] (defScope sRead) := ⟨rfl, rfl, rfl, by decide +kernel, rfl, by decide +kernel, by decide +kernel⟩
def spRead (K : PySem.W.Frag) : Sp := fun vs H Q _ => ∃ (a : Addr) (cs : List (List (List Int))), vs = [.ref a] ∧ SqL K H a ((PyWide.put cs).map V.int) ∧ (∀ c ∈ cs, PyWide.okCall c) ∧ (PyWide.put cs).length ≤ 50000 ∧ ∀ p H2, H p = none → Ex H H2 → (∃ as, LG CallAt (fresh H H2) p as cs) → Q (.ref p) H2
theorem put_ok {c : List (List Int)} (h : PyWide.okCall c) : ∃ n ns rows, c = (n :: ns) :: rows := h
theorem putRows_len : ∀ rows : List (List Int), rows.length ≤ (PyFlat.putRows rows).length
  | [] => Nat.le_refl _
  | r :: rows => by
    have := putRows_len rows
    show _ ≤ (PyFlat.putRow r ++ PyFlat.putRows rows).length
    unfold PyFlat.putRow
    rw [List.length_append, List.length_cons, List.length_cons]
    omega
theorem put_len : ∀ cs : List (List (List Int)), (∀ c ∈ cs, PyWide.okCall c) → cs.length ≤ (PyWide.put cs).length
  | [], _ => Nat.le_refl _
  | c :: cs, h => by
    have := put_len cs fun d hd => h d (List.mem_cons_of_mem _ hd)
    obtain ⟨n, ns, rows, rfl⟩ := h c List.mem_cons_self
    show _ ≤ (PyWide.put1 ((n :: ns) :: rows) ++ PyWide.put cs).length
    rw [PyWide.put1_append, List.length_cons, List.length_cons, List.length_append, List.length_cons, List.length_append]
    omega
theorem ok_read {f g : Addr} {fd gd : FuncData} {k : Nat} (F : Fun K "read_calls" "read_calls" sRead f fd) (G : FnOk P w K mg base CX0 k g gd ["calls", "at"] (spCounted K)) (bG : Binds K gd ["calls", "at"] []) (kG : PySem.W.keepIn K (.ref g) = true) (mG : mg "counted" = some (.ref g)) (ml : mg "len" = none) : FnOk P w K mg base CX0 (k + 1) f fd ["calls"] (spRead K) := by
  refine F.ok scRd (fun vs H Q E h => ?_) (fun cdv A outer s H vs Q E hr h => ?_)
  · obtain ⟨a, cs, rfl, _⟩ := h
    rfl
  obtain ⟨a, cs, rfl, hS, hok, hz, kq⟩ := h
  refine ⟨_, pss_cons (ps_set (i := 1) scRd.nd rfl (.inl rfl) (pe_lst pa_nil))
    (pss_cons (ps_set (i := 2) scRd.nd rfl (.inl rfl) pe_int)
    (pss_cons (ps_while PassesOwn.never (pt_cmpR op_lt (pv 2) (pe_callB call_len_seq rfl ml PySem.boot_len (pa_cons (pv 0) pa_nil)) (nomark _))
      (pss_cons (ps_set (i := 3) scRd.nd rfl (.inl rfl) (pe_ix ix_list (pv 0) (pv 2) (fun _ _ => rfl)))
      (pss_cons (ps_set (i := 4) scRd.nd rfl (.inl rfl) (pe_call G hr rfl mG kG bG .nil pass0 (pa_cons (pv 0) (pa_cons (pe_op op_add (pv 2) pe_int) pa_nil))))
      (pss_cons (ps_set (i := 2) scRd.nd rfl (.inl rfl) (pe_op op_add (pe_op op_add (pv 2) pe_int) (pe_callB call_len_seq rfl ml PySem.boot_len (pa_cons (pv 4) pa_nil))))
      (pss_cons (ps_set (i := 5) scRd.nd rfl (.inl rfl) (pe_ix ix_list (pv 0) (pv 2) (fun _ _ => rfl)))
      (pss_cons (ps_set (i := 2) scRd.nd rfl (.inl rfl) (pe_op op_add (pv 2) pe_int))
      (pss_cons (ps_set (i := 6) scRd.nd rfl (.inl rfl) (pe_lst pa_nil))
      (pss_cons (ps_while PassesOwn.never (pt_cmpR op_lt (pe_callB call_len_seq rfl ml PySem.boot_len (pa_cons (pv 6) pa_nil)) (pv 5) (nomark _))
        (pss_cons (ps_set (i := 7) scRd.nd rfl (.inl rfl) (pe_call G hr rfl mG kG bG .nil pass0 (pa_cons (pv 0) (pa_cons (pv 2) pa_nil))))
        (pss_cons (ps_expr (pe_bm PySem.F.plainAttrs_list PySem.F.slot_list_append PySem.F.type_list_append mt_append (pv 6) (pa_cons (pv 7) pa_nil)))
        (pss_one (ps_set (i := 2) scRd.nd rfl (.inl rfl) (pe_op op_add (pe_op op_add (pv 2) pe_int) (pe_callB call_len_seq rfl ml PySem.boot_len (pa_cons (pv 7) pa_nil))))))))
      (pss_one (ps_expr (pe_bm PySem.F.plainAttrs_list PySem.F.slot_list_append PySem.F.type_list_append mt_append (pv 1) (pa_cons (pe_tup (pa_cons (pv 3) (pa_cons (pv 4) (pa_cons (pv 6) pa_nil)))) pa_nil))))))))))))
    (pss_one (ps_ret (pv 1))))), ?_⟩
  refine q_asgL (el_lst ea_nil (by decide)) fun p H1 hp e1 h1 => ?_
  refine q_asg ev_c fun H2 e2 => ?_
  have hml : ((PyWide.put cs).map V.int).length = (PyWide.put cs).length := List.length_map _
  refine q_while (fun m σ' H' => ∃ (done rest : List (List (List Int))) (k : Nat) (as : List Addr) (y3 y4 y5 y6 y7 : Option V), σ' = [some (.ref a), some (.ref p), some (.int (k : Int)), y3, y4, y5, y6, y7] ∧ cs = done ++ rest ∧ (PyWide.put cs).drop k = PyWide.put rest ∧ k ≤ (PyWide.put cs).length ∧ m = rest.length ∧ Ex H H' ∧ LG CallAt (fresh H H') p as done) cs.length
    ⟨[], cs, 0, [], none, none, none, none, none, rfl, rfl, rfl, Nat.zero_le _, rfl, e1.trans e2, LG.nil (by rw [fresh_of hp]; exact e2 _ _ h1)⟩ ?_
  rintro m σ' H' ⟨done, rest, k, as, y3, y4, y5, y6, y7, rfl, hcs, hd, hk, rfl, e, hL⟩
  have hLp : H' p = some (.lst (as.map V.ref)) := fresh_in _ _ hL.lst
  refine ⟨_, et_test (ev_op (ev_var rfl) (ev_len (K := K) (ev_var rfl) (ex_l e hS)) rv_I0), fun hb H3 e3 => ?_, fun hb H3 e3 => ?_⟩
  · have hb' : k < (PyWide.put cs).length := by
      have := of_decide_eq_true hb
      omega
    obtain ⟨c, rest', rfl⟩ : ∃ c r, rest = c :: r := by
      cases rest with
      | nil =>
        have := congrArg List.length hd
        rw [List.length_drop] at this
        have z : (PyWide.put ([] : List (List (List Int)))).length = 0 := rfl
        omega
      | cons c r => exact ⟨c, r, rfl⟩
    obtain ⟨n, ns, rows, rfl⟩ := hok c (by rw [hcs]; exact List.mem_append_right _ List.mem_cons_self)
    have hd0 : (PyWide.put cs).drop k = n :: (PyFlat.putRow ns ++ ((rows.length : Int) :: (PyFlat.putRows rows ++ PyWide.put rest'))) := by
      rw [hd]
      exact PyWide.put1_append n ns rows (PyWide.put rest')
    have hd1 : (PyWide.put cs).drop (k + 1) = (ns.length : Int) :: (ns ++ ((rows.length : Int) :: (PyFlat.putRows rows ++ PyWide.put rest'))) := drop_next hd0
    have hd2 : (PyWide.put cs).drop (k + 2 + ns.length) = (rows.length : Int) :: (PyFlat.putRows rows ++ PyWide.put rest') := drop_more (drop_next hd1)
    have hd3 : (PyWide.put cs).drop (k + 2 + ns.length + 1) = PyFlat.putRows rows ++ PyWide.put rest' := drop_next hd2
    have hk2 := drop_lt hd2
    have e03 := e.trans e3
    refine ⟨fun σ2 H2 => ∃ (k' : Nat) (as' : List Addr) (y3 y4 y5 y6 y7 : Option V), σ2 = [some (.ref a), some (.ref p), some (.int (k' : Int)), y3, y4, y5, y6, y7] ∧ (PyWide.put cs).drop k' = PyWide.put rest' ∧ k' ≤ (PyWide.put cs).length ∧ Ex H H2 ∧ LG CallAt (fresh H H2) p as' (done ++ [(n :: ns) :: rows]), ?_, ?_⟩
    · rintro σ2 H2 ⟨k', as', y3, y4, y5, y6, y7, rfl, q1, q2, q3, q4⟩
      exact ⟨rest'.length, by rw [List.length_cons]; omega, done ++ [(n :: ns) :: rows], rest', k', as', y3, y4, y5, y6, y7, rfl, by rw [hcs, List.append_assoc]; rfl, q1, q2, rfl, q3, q4⟩
    -- number = calls[at]
    have hg0 : ((PyWide.put cs).map V.int)[k]? = some (.int n) := by
      rw [List.getElem?_map, drop_get hd0]
      rfl
    refine q_asg (ev_op (ev_var rfl) (ev_var rfl) (rv_ixL (K := K) (ex_l e03 hS) (at_of rfl hg0))) fun H4 e4 => ?_
    -- numbers = counted(calls, at + 1)
    refine q_asgL (el_callL (xs := ns.map V.int) (ea_cons (ev_var rfl) (ea_cons (ev_op (ev_var rfl) ev_c rv_I0) ea_nil)) fun H5 e5 Q q => ⟨a, PyWide.put cs, k + 1, ns, _, rfl, ex_l ((e03.trans e4).trans e5) hS, hd1, q⟩) fun q1 H5 hq1 e5 h5 => ?_
    have e05 := (e03.trans e4).trans e5
    -- at = at + 2 + len(numbers)
    refine q_asg (ev_is (ev_op (ev_op (ev_var rfl) ev_c rv_I0) (ev_len (K := K) (ev_var rfl) (sq_of h5)) rv_I0) (w := .int ((k + 2 + ns.length : Nat) : Int)) (by rw [List.length_map]; congr 1)) fun H6 e6 => ?_
    -- many = calls[at]
    have hg2 : ((PyWide.put cs).map V.int)[k + 2 + ns.length]? = some (.int (rows.length : Int)) := by
      rw [List.getElem?_map, drop_get hd2]
      rfl
    refine q_asg (ev_op (ev_var rfl) (ev_var rfl) (rv_ixL (K := K) (ex_l (e05.trans e6) hS) (at_of rfl hg2))) fun H7 e7 => ?_
    -- at = at + 1
    refine q_asg (ev_is (ev_op (ev_var rfl) ev_c rv_I0) (w := .int ((k + 2 + ns.length + 1 : Nat) : Int)) rfl) fun H8 e8 => ?_
    -- lists = []
    refine q_asgL (el_lst ea_nil (by decide)) fun q2 H9 hq2 e9 h9 => ?_
    have e58 := (e6.trans e7).trans e8
    have e08 := e05.trans e58
    have hpv : ∀ {Hx : Hp}, Ex H' Hx → Hx p = some (.lst (as.map V.ref)) := fun ex => ex _ _ hLp
    have hq1p : q1 ≠ p := fun c => by
      rw [c, hpv (e3.trans e4)] at hq1
      cases hq1
    have e38 : Ex H' H8 := (((e3.trans e4).trans e5).trans e58)
    have hq2p : q2 ≠ p := fun c => by
      rw [c, hpv e38] at hq2
      cases hq2
    have hq1H : H q1 = none := fresh_back (e03.trans e4) hq1
    have hq2H : H q2 = none := fresh_back e08 hq2
    -- while len(lists) < many
    refine q_while (fun m σ' Hx => ∃ (rd rr : List (List Int)) (k' : Nat) (bs : List Addr) (y7 : Option V), σ' = [some (.ref a), some (.ref p), some (.int (k' : Int)), some (.int n), some (.ref q1), some (.int (rows.length : Int)), some (.ref q2), y7] ∧ rows = rd ++ rr ∧ (PyWide.put cs).drop k' = PyFlat.putRows rr ++ PyWide.put rest' ∧ k' ≤ (PyWide.put cs).length ∧ m = rr.length ∧ Ex H8 Hx ∧ LG RowAt (less (fresh H Hx) p) q2 bs rd) rows.length
      ⟨[], rows, k + 2 + ns.length + 1, [], _, rfl, rfl, hd3, by omega, rfl, e9, LG.nil (less_of (by rw [fresh_of hq2H]; exact h9) hq2p)⟩ ?_
    rintro m σ' Hx ⟨rd, rr, k', bs, y7, rfl, hrows, hdr, hk', rfl, ex, hLr⟩
    have hLq : Hx q2 = some (.lst (bs.map V.ref)) := fresh_in _ _ (less_some hLr.lst).2
    refine ⟨_, et_test (ev_op (ev_len (K := K) (ev_var rfl) (sq_of hLq)) (ev_var rfl) rv_I0), fun hb H10 e10 => ?_, fun hb H10 e10 => ?_⟩
    · have hb' : rd.length < rows.length := by
        have := of_decide_eq_true hb
        rw [List.length_map, hLr.len] at this
        omega
      obtain ⟨r, rr', rfl⟩ : ∃ r t, rr = r :: t := by
        cases rr with
        | nil =>
          have := congrArg List.length hrows
          rw [List.append_nil] at this
          omega
        | cons r t => exact ⟨r, t, rfl⟩
      have hdr0 : (PyWide.put cs).drop k' = (r.length : Int) :: (r ++ (PyFlat.putRows rr' ++ PyWide.put rest')) := by
        rw [hdr]
        show ((r.length : Int) :: r ++ PyFlat.putRows rr') ++ PyWide.put rest' = _
        rw [List.append_assoc]
        rfl
      have hdr1 : (PyWide.put cs).drop (k' + 1 + r.length) = PyFlat.putRows rr' ++ PyWide.put rest' := drop_more (drop_next hdr0)
      have hk1 := drop_lt hdr0
      refine ⟨fun σ2 H2 => ∃ (k'' : Nat) (bs' : List Addr) (y7 : Option V), σ2 = [some (.ref a), some (.ref p), some (.int (k'' : Int)), some (.int n), some (.ref q1), some (.int (rows.length : Int)), some (.ref q2), y7] ∧ (PyWide.put cs).drop k'' = PyFlat.putRows rr' ++ PyWide.put rest' ∧ k'' ≤ (PyWide.put cs).length ∧ Ex H8 H2 ∧ LG RowAt (less (fresh H H2) p) q2 bs' (rd ++ [r]), ?_, ?_⟩
      · rintro σ2 H2 ⟨k'', bs', y7, rfl, q1, q2, q3, q4⟩
        exact ⟨rr'.length, by rw [List.length_cons]; omega, rd ++ [r], rr', k'', bs', y7, rfl, by rw [hrows, List.append_assoc]; rfl, q1, q2, rfl, q3, q4⟩
      have ex10 := ex.trans e10
      refine q_asgL (el_callL (xs := r.map V.int) (ea_cons (ev_var rfl) (ea_cons (ev_var rfl) ea_nil)) fun H11 e11 Q q => ⟨a, PyWide.put cs, k', r, _, rfl, ex_l ((e08.trans ex10).trans e11) hS, hdr0, q⟩) fun t H11 ht e11 h11 => ?_
      have htp : t ≠ p := fun c => by
        rw [c, hpv (e38.trans ex10)] at ht
        cases ht
      have htH : H t = none := fresh_back (e08.trans ex10) ht
      have htq : t ≠ q2 := fun c => by
        rw [c, e10 _ _ hLq] at ht
        cases ht
      refine q_app (K := K) (e11 _ _ (e10 _ _ hLq)) (ev_var rfl) (ev_var rfl) ?_ fun H12 e12 => ?_
      · have := putRows_len rows
        have h3 := congrArg List.length hd3
        rw [List.length_drop, List.length_append] at h3
        rw [List.length_map, hLr.len]
        omega
      have hrow : (upd H12 q2 (.lst (bs.map V.ref ++ [.ref t]))) t = some (.lst (r.map V.int)) := by
        rw [upd_ne htq]
        exact e12 _ _ h11
      refine s_asg (ev_is (ev_op (ev_op (ev_var rfl) ev_c rv_I0) (ev_len (K := K) (ev_var rfl) (sq_of hrow)) rv_I0) (w := .int ((k' + 1 + r.length : Nat) : Int)) (by rw [List.length_map]; congr 1)) fun H13 e13 => ?_
      refine ⟨k' + 1 + r.length, bs ++ [t], _, rfl, hdr1, ?_, (Ex.mut ((ex10.trans e11).trans e12) hq2).trans e13, ?_⟩
      · have := congrArg List.length hdr0
        rw [List.length_drop, List.length_cons, List.length_append] at this
        omega
      · refine LG.exRow ?_ (less_ex (fresh_ex e13))
        rw [fresh_upd hq2H, less_upd_ne hq2p]
        refine (hLr.exRow (less_ex (fresh_ex ((e10.trans e11).trans e12)))).snoc ?_
        exact less_of (less_of (by rw [fresh_of htH]; exact e12 _ _ h11) htp) htq
    · have hb' : rr = [] := by
        have := of_decide_eq_false hb
        rw [List.length_map, hLr.len] at this
        have h4 := congrArg List.length hrows
        rw [List.length_append] at h4
        exact List.length_eq_zero_iff.mp (by omega)
      subst hb'
      rw [List.append_nil] at hrows
      subst hrows
      have ex10 := ex.trans e10
      have hp10 : H10 p = some (.lst (as.map V.ref)) := hpv (e38.trans ex10)
      refine s_appU (K := K) hp10 (ev_var rfl) (eu_tup (ea_cons (ev_var rfl) (ea_cons (ev_var rfl) (ea_cons (ev_var rfl) ea_nil))) (by show 3 ≤ 100000; decide)) ?_ fun t H11 ht e11 h11 => ?_
      · have h3 := put_len cs hok
        rw [hcs, List.length_append] at h3
        rw [List.length_map, hL.len]
        rw [← hcs] at h3
        omega
      have htp : t ≠ p := fun c => by
        rw [c, hp10] at ht
        cases ht
      have htH : H t = none := fresh_back (e08.trans ex10) ht
      refine ⟨k', as ++ [t], _, _, _, _, _, rfl, by rw [hdr]; rfl, hk', Ex.mut ((e08.trans ex10).trans e11) hp, ?_⟩
      rw [fresh_upd hp]
      refine (hL.exCall (fresh_ex ((e38.trans ex10).trans e11))).snoc ⟨n, ns, _, q1, q2, bs, rfl, ?_, ?_, ?_⟩
      · exact less_of (by rw [fresh_of htH]; exact h11) htp
      · exact less_of (by rw [fresh_of hq1H]; exact ((e58.trans ex10).trans e11) _ _ h5) hq1p
      · exact hLr.exRow (less_ex (fresh_ex (e10.trans e11)))
  · have hb' : rest = [] := by
      have := of_decide_eq_false hb
      have hl := congrArg List.length hd
      rw [List.length_drop] at hl
      have hr' := put_len rest fun c hc => hok c (by rw [hcs]; exact List.mem_append_right _ hc)
      exact List.length_eq_zero_iff.mp (by omega)
    subst hb'
    rw [List.append_nil] at hcs
    subst hcs
    exact s_ret (ev_var rfl) fun H4 e4 => kq p H4 hp (e.trans (e3.trans e4)) ⟨as, hL.exCall (fresh_ex (e3.trans e4))⟩
end
end Bf

set_option Elab.async false
set_option maxRecDepth 100000
set_option maxHeartbeats 2000000
namespace Bf
open PySem PySem.Spec PyProof.Rows L2 Evl
abbrev sInit : Stmt := inClass sLine 0
abbrev sBegin : Stmt := inClass sLine 1
abbrev sChange : Stmt := inClass sLine 2
abbrev sSwap : Stmt := inClass sLine 3
abbrev sHang : Stmt := inClass sLine 4
abbrev sLook : Stmt := inClass sLine 5
abbrev sAnswer : Stmt := inClass sLine 6
abbrev sTwo : Stmt := inClass sLine 7
abbrev sNone : Stmt := inClass sLine 8
structure Txt (K : PySem.W.Frag) (C : Addr) : Prop where
  cl : Cls K C
  nH : NoAttr K C "heights"
/-- a Line stands at x, its heights at lp -/
structure LineAt (C : Addr) (H : Hp) (x lp : Addr) (hs : List Nat) : Prop where
  ins : ∃ dx, H x = some (.ins C dx [("heights", .ref lp)])
  lst : H lp = some (.lst (nv hs))
theorem LineAt.ex {C : Addr} {H H' : Hp} {x lp : Addr} {hs : List Nat} (h : LineAt C H x lp hs) (e : Ex H H') : LineAt C H' x lp hs := by
  obtain ⟨⟨dx, h1⟩, h2⟩ := h
  exact ⟨⟨dx, e _ _ h1⟩, e _ _ h2⟩
theorem LineAt.ne {C : Addr} {H : Hp} {x lp o : Addr} {hs : List Nat} {xs : List V} (h : LineAt C H x lp hs) (ho : H o = some (.lst xs)) : x ≠ o := by
  obtain ⟨⟨dx, h1⟩, _⟩ := h
  exact ne_of h1 ho (by intro z; cases z)
/-- what a method that answers leaves -/
def Post (C x lp : Addr) (H : Hp) (Q : VK) (z : Mu50.Abs × List Int) : Prop := ∀ (r : Addr) (H' : Hp) (lp' : Addr), H r = none → LineAt C H' x lp' (z.1.getD []) → (∀ b o, H b = some o → b ≠ x → b ≠ lp → H' b = some o) → (lp' = lp ∨ H lp' = none) → H' r = some (.lst (z.2.map V.int)) → Q (.ref r) H'
/-- nothing changes -/
theorem Post.same {C x lp : Addr} {H H1 : Hp} {Q : VK} {s : Mu50.Abs} {ans : List Int} (k : Post C x lp H Q (s, ans)) (hL : LineAt C H x lp (s.getD [])) (e1 : Ex H H1) : RetL (ans.map V.int) H1 Q := fun p H2 hp e2 h2 =>
  k p H2 lp (fresh_back e1 hp) (hL.ex (e1.trans e2)) (fun _ _ hb _ _ => (e1.trans e2) _ _ hb) (.inl rfl) h2
theorem lkH {lp : Addr} : List.lookup ("heights" : Str) [(("heights" : Str), V.ref lp)] = some (.ref lp) := by
  have e : (("heights" : Str) == ("heights" : Str)) = true := beq_self_eq_true _
  simp only [List.lookup, e]
theorem lkNo {lp : Addr} {m : Str} (h : (m == ("heights" : Str)) = false) : List.lookup m [(("heights" : Str), V.ref lp)] = none := by
  simp only [List.lookup, h]
theorem putH {v : V} {lp : Addr} : putF "heights" v [(("heights" : Str), V.ref lp)] = [(("heights" : Str), v)] := if_pos rfl
/-- self.heights -/
theorem ev_heights {K : PySem.W.Frag} {σ : L2.St} {H : Hp} {ta : TE} {C x lp : Addr} {hs : List Nat} (T : Txt K C) (ha : Ev ta σ H (.ref x)) (hL : LineAt C H x lp hs) : Ev (tFld K ta "heights") σ H (.ref lp) := fun H1 e _ q =>
  ha H1 e _ fun H2 e2 => by
    obtain ⟨dx, h1⟩ := hL.ins
    exact ⟨x, C, dx, _, _, rfl, (e.trans e2) _ _ h1, T.cl, T.nH, lkH, q H2 e2⟩
theorem begin_cond (f : List Nat) : (okSize (f.length : Int) && f.all fun x => okSize (x : Int)) = true ↔ ¬ (f.isEmpty = true ∨ Mu50.BOARDS < f.length ∨ f.any (fun (x : Nat) => x == 0 || decide (Mu50.HIGH < x)) = true) := by
  have hs : ∀ x : Nat, okSize (x : Int) = true ↔ 1 ≤ x ∧ x ≤ 8 := fun x => by
    unfold okSize
    rw [Bool.and_eq_true, decide_eq_true_eq, decide_eq_true_eq]
    omega
  rw [Bool.and_eq_true, hs, List.all_eq_true]
  constructor
  · rintro ⟨⟨h1, h2⟩, h3⟩ hc
    rcases hc with c | c | c
    · rw [List.isEmpty_iff] at c
      rw [c] at h1
      exact absurd h1 (by decide)
    · have c' : 8 < f.length := c
      omega
    · rw [List.any_eq_true] at c
      obtain ⟨x, hx, hc⟩ := c
      have := (hs x).mp (h3 x hx)
      rw [Bool.or_eq_true] at hc
      rcases hc with c | c
      · have : x = 0 := eq_of_beq c
        omega
      · have c' : 8 < x := of_decide_eq_true c
        omega
  · intro hc
    have g := good_begin hc
    refine ⟨⟨List.length_pos_iff.mpr g.ne, g.len⟩, fun x hx => (hs x).mpr ⟨g.pos x hx, g.top x hx⟩⟩
section
variable {P : Program} {w : World} {K : PySem.W.Frag} {mg : Str → Option Value} {base : Heap} {C : Addr}
theorem scIn : FnScope ["self"] ["self"] (defScope sInit) := ⟨rfl, rfl, rfl, by decide +kernel, rfl, by decide +kernel, by decide +kernel⟩
def spInit (C : Addr) : Sp := fun vs H Q _ => ∃ (p dx : Addr), vs = [.ref p] ∧ H p = some (.ins C dx []) ∧ ∀ (H' : Hp) (lp : Addr), H lp = none → LineAt C H' p lp [] → (∀ b o, H b = some o → b ≠ p → H' b = some o) → Q .non H'
theorem ok_init {f : Addr} {fd : FuncData} {k : Nat} (F : Fun K "__init__" "Line.__init__" sInit f fd) (T : Txt K C) : FnOk P w K mg base CX0 (k + 1) f fd ["self"] (spInit C) := by
  refine F.ok scIn (fun vs H Q E h => ?_) (fun cdv A outer s H vs Q E hr h => ?_)
  · obtain ⟨p, dx, rfl, _⟩ := h
    rfl
  obtain ⟨p, dx, rfl, hp, k⟩ := h
  refine ⟨_, pss_one (ps_fld (pv 0) (pe_lst pa_nil) rfl), ?_⟩
  refine ⟨Nat.zero_le _, fun l hl => ?_⟩
  have hlp : p ≠ l := ne_of_none hp hl
  refine ⟨_, rfl, p, C, dx, [], rfl, by rw [upd_ne hlp]; exact hp, T.cl, T.nH, (by show 0 < 1000; decide), ?_⟩
  refine k _ l hl ⟨⟨dx, upd_same⟩, ?_⟩ fun b o e hb => ?_
  · rw [upd_ne hlp.symm, upd_same]
    rfl
  · rw [upd_ne hb, upd_ne (ne_of_none e hl)]
    exact e
theorem scBg : FnScope ["self", "heights", "height"] ["self", "heights"] (defScope sBegin) := ⟨rfl, rfl, rfl, by decide +kernel, rfl, by decide +kernel, by decide +kernel⟩
def spBegin (C : Addr) : Sp := fun vs H Q _ => ∃ (x q lp : Addr) (s : Mu50.Abs) (f : List Nat), vs = [.ref x, .ref q] ∧ LineAt C H x lp (s.getD []) ∧ H q = some (.lst (nv f)) ∧ f.length ≤ 1000 ∧ Post C x lp H Q (Mu50.step s (.begin_ f))
theorem ok_begin {f z : Addr} {fd zd : FuncData} {k : Nat} {tn : Tok} (F : Fun K "begin" "Line.begin" sBegin f fd) (T : Txt K C)
    (Z : FnOk P w K mg base CX0 k z zd ["number"] spSize) (bZ : Binds K zd ["number"] []) (kZ : PySem.W.keepIn K (.ref z) = true) (mZ : mg "is_size" = some (.ref z))
    (mn : mg "NOT_ALLOWED" = some (.int (-1) tn)) (ml : mg "len" = none) (ma : mg "all" = none) (mli : mg "list" = none) : FnOk P w K mg base CX0 (k + 1) f fd ["self", "heights"] (spBegin C) := by
  refine F.ok scBg (fun vs H Q E h => ?_) (fun cdv A outer s H vs Q E hr h => ?_)
  · obtain ⟨x, q, lp, s, f, rfl, _⟩ := h
    rfl
  obtain ⟨x, q, lp, s, f, rfl, hL, hq, hf, k⟩ := h
  refine ⟨_, pss_cons (ps_if (pt_not (PW.pt (pw_and (pt_val (pe_call Z hr rfl mZ kZ bZ .nil pass0 (pa_cons (pe_callB call_len_seq rfl ml PySem.boot_len (pa_cons (pv 1) pa_nil)) pa_nil)))
        (pw_and1 (pt_val (pe_callB (cr_all rfl) rfl ma (by decide +kernel) (pa_cons (pe_lc (own := [("height", 2)]) (g := gName 2) (tt := tYes) rfl scBg.nd (pi_list (pv 1))
            (blkOk_by (N := ["self", "heights", "height"]) (sc := defScope sBegin) (by decide +kernel)) (fun _ _ _ _ _ => pg_name (i := 2) scBg.nd rfl (Or.inl rfl)) (fun _ _ _ _ _ => pts_nil)
            (fun _ _ _ _ _ => pe_call Z hr rfl mZ kZ bZ .nil pass0 (pa_cons (pv 2) pa_nil))) pa_nil))))))) (pss_one (ps_ret (pe_lst (pa_cons (pe_glob (v := .int (-1)) rfl mn ⟨_, rfl⟩) pa_nil)))) pss_nil)
    (pss_cons (ps_fld (pv 0) (pe_callTy call_list_of rfl mli (by decide +kernel) (pa_cons (pv 1) pa_nil)) rfl)
    (pss_one (ps_ret (pe_lst (pa_cons pe_int pa_nil))))), ?_⟩
  have hnl := nv_len f
  have hall : EvL (tLc (iList K (tVar 1)) (gName 2) tYes (tCall spSize [] E0 (tCons (tVar 2) tNil)) [2]) [some (.ref x), some (.ref q), none] H ((f.map fun (y : Nat) => okSize (y : Int)).map V.bl) := by
    have := el_lcL (K := K) (t := tYes) (te := tCall spSize [] E0 (tCons (tVar 2) tNil)) (tl := tVar 1) (σ := [some (.ref x), some (.ref q), none]) (j := 2) (vs := [2]) (fun _ => true) (fun i => .bl ((f.map fun (y : Nat) => okSize (y : Int)).getD i false)) (ev_var rfl) (sq_of hq) (by omega) (fun _ => rfl) (fun _ _ _ _ _ => et_yes) (fun i v H1 e hi _ => by
      obtain ⟨y, hy, rfl⟩ : ∃ y, f[i]? = some y ∧ v = .int (y : Int) := by
        unfold nv Mu50.nums at hi
        rw [List.map_map, List.getElem?_map] at hi
        cases c : f[i]? with
        | none => rw [c] at hi; cases hi
        | some y =>
          rw [c] at hi
          exact ⟨y, rfl, (Option.some.inj hi).symm⟩
      rw [List.getD_eq_getElem?_getD, List.getElem?_map, hy]
      exact ev_callV (ea_cons (ev_var rfl) ea_nil) fun H2 e2 Q q => ⟨_, rfl, q⟩)
    rw [hnl, show f.length = (f.map fun (y : Nat) => okSize (y : Int)).length by rw [List.length_map], given_bl (fun i y hi => by rw [List.getD_eq_getElem?_getD, hi]; rfl)] at this
    exact this
  refine q_when (et_not (et_and (et_B (ev_callV (z := .bl (okSize (((nv f).length : Nat) : Int))) (ea_cons (ev_len (K := K) (ev_var rfl) (sq_of hq)) ea_nil) fun H1 e1 Q q => ⟨_, rfl, q⟩)) fun _ => et_B (ev_allL (K := K) hall))) (fun hc H1 e1 => ?_) (fun hc H1 e1 => ?_)
  · rw [Bool.not_eq_true', hnl, List.all_map] at hc
    have hc' : (f.isEmpty = true ∨ Mu50.BOARDS < f.length ∨ f.any (fun (x : Nat) => x == 0 || decide (Mu50.HIGH < x)) = true) := Classical.byContradiction fun d => by
      have := (begin_cond f).mpr d
      rw [show (f.all fun x => okSize (x : Int)) = f.all (id ∘ fun (y : Nat) => okSize (y : Int)) from rfl, hc] at this
      cases this
    have e0 : Mu50.step s (.begin_ f) = (s, [-1]) := by
      unfold Mu50.step
      exact if_pos hc'
    rw [e0] at k
    exact s_retL (el_lst (ea_cons ev_c ea_nil) (by decide)) (k.same hL e1)
  · rw [Bool.not_eq_false', hnl, List.all_map] at hc
    have hc' := (begin_cond f).mp hc
    have e0 : Mu50.step s (.begin_ f) = (some f, [0]) := by
      unfold Mu50.step
      exact if_neg hc'
    rw [e0] at k
    obtain ⟨dx, hx⟩ := hL.ins
    refine ⟨.ref q, rfl, q, nv f, rfl, .inl (sq_of (e1 _ _ hq)), fun l hl => ?_⟩
    have hlx : x ≠ l := ne_of_none (e1 _ _ hx) hl
    refine ⟨_, rfl, x, C, dx, _, rfl, by rw [upd_ne hlx]; exact e1 _ _ hx, T.cl, T.nH, (by show 1 < 1000; decide), ?_⟩
    have eL : Ex H1 (upd H1 l (.lst (nv f))) := Ex.new hl
    refine s_retL (σ := [some (.ref x), some (.ref q), none]) (el_lst (ea_cons ev_c ea_nil) (by decide)) fun p H3 hp e3 h3 => ?_
    rw [putH] at hp e3
    have hpH : H p = none := by
      by_cases c : p = x
      · rw [c, upd_same] at hp
        cases hp
      · rw [upd_ne c] at hp
        exact fresh_back (e1.trans eL) hp
    refine k p H3 l hpH ⟨⟨dx, e3 _ _ upd_same⟩, e3 _ _ ?_⟩ (fun b o hb hbx _ => e3 _ _ ?_) (.inr (fresh_back e1 hl)) h3
    · rw [upd_ne hlx.symm, upd_same]
      rfl
    · rw [upd_ne hbx]
      exact eL _ _ (e1 _ _ hb)
/-! ### a whole line -/
def spAnswer (C : Addr) : Sp := fun vs H Q _ => ∃ (x q r lp : Addr) (s : Mu50.Abs) (d : Mu50.Call) (n : Int) (ns : List Int) (rows : List (List Int)) (bs : List Addr), vs = [.ref x, .int n, .ref q, .ref r] ∧ LineAt C H x lp (s.getD []) ∧ Good s ∧ flat d = (n :: ns) :: rows ∧ small d ∧
  H q = some (.lst (ns.map V.int)) ∧ LG RowAt H r bs rows ∧ q ≠ lp ∧ Post C x lp H Q (Mu50.step s d)
theorem scAs : FnScope ["calls", "line", "told", "call", "answer"] ["calls"] (defScope sAnswers) := ⟨rfl, rfl, rfl, by decide +kernel, rfl, by decide +kernel, by decide +kernel⟩
def spAnswers (K : PySem.W.Frag) : Sp := fun vs H Q _ => ∃ (a : Addr) (l : List Int), vs = [.ref a] ∧ SqL K H a (l.map V.int) ∧ l.length ≤ 7400 ∧ PyMu50.answers_asked l = true ∧ ∀ (H' : Hp) (p : Addr), H' p = some (.lst ((PyMu50.answers l).map V.int)) → Q (.ref p) H'
theorem ok_answers {f fI fA fR : Addr} {fd fdI fdA fdR : FuncData} {k : Nat} (F : Fun K "answers" "answers" sAnswers f fd) (T : Txt K C) (M : Mk K C fI) (gC : mg "Line" = some (.ref C))
    (GI : FnOk P w K mg base CX0 k fI fdI ["self"] (spInit C)) (bI : Binds K fdI ["self"] [])
    (GA : FnOk P w K mg base CX0 (k + 1) fA fdA ["self", "number", "numbers", "lists"] (spAnswer C)) (bA : Binds K fdA ["self", "number", "numbers", "lists"] []) (mA : Meth K C "answer" fA)
    (GR : FnOk P w K mg base CX0 (k + 1) fR fdR ["calls"] (spRead K)) (bR : Binds K fdR ["calls"] []) (kR : PySem.W.keepIn K (.ref fR) = true) (mR : mg "read_calls" = some (.ref fR))
    (ml : mg "len" = none) : FnOk P w K mg base CX0 (k + 2) f fd ["calls"] (spAnswers K) := by
  refine F.ok scAs (fun vs H Q E h => ?_) (fun cdv A outer s H vs Q E hr h => ?_)
  · obtain ⟨a, l, rfl, _⟩ := h
    rfl
  obtain ⟨a, l, rfl, hS, hlen, hask, kq⟩ := h
  refine ⟨_, pss_cons (ps_set (i := 1) scAs.nd rfl (.inl rfl) (pe_make0 M GI hr rfl gC bI .nil pass0))
    (pss_cons (ps_set (i := 2) scAs.nd rfl (.inl rfl) (pe_lst pa_nil))
    (pss_cons (ps_for PassesOwn.never rfl (pi_list (pe_call GR hr rfl mR kR bR .nil pass0 (pa_cons (pv 0) pa_nil))) (pg_name (i := 3) scAs.nd rfl (.inl rfl))
      (pss_cons (ps_set (i := 4) scAs.nd rfl (.inl rfl) (pe_meth (pv 1) T.cl mA GA hr bA .nil pass0 (pa_cons (pe_ix ix_tup (pv 3) pe_int (fun _ _ => rfl)) (pa_cons (pe_ix ix_tup (pv 3) pe_int (fun _ _ => rfl)) (pa_cons (pe_ix ix_tup (pv 3) pe_int (fun _ _ => rfl)) pa_nil)))))
      (pss_cons (ps_expr (pe_bm PySem.F.plainAttrs_list PySem.F.slot_list_append PySem.F.type_list_append mt_append (pv 2) (pa_cons (pe_callB call_len_seq rfl ml PySem.boot_len (pa_cons (pv 4) pa_nil)) pa_nil)))
      (pss_one (ps_expr (pe_bm PySem.F.plainAttrs_list PySem.F.slot_list_extend PySem.F.type_list_extend mt_extend (pv 2) (pa_cons (pv 4) pa_nil)))))))
    (pss_one (ps_ret (pv 2))))), ?_⟩
  obtain ⟨cs, rfl, hok, hasked, h60, hshort, hans⟩ := asked_is hask
  rw [hans] at kq
  -- line = Line()
  intro x dx nx nd nex
  refine ⟨x, dx, rfl, upd_same, fun H1 lp0 hlp0 hL0 kp => ⟨rfl, ?_⟩⟩
  have s1 : Ex H H1 := Same.made nx nd kp
  -- told = []
  refine q_asgL (el_lst ea_nil (by decide)) fun o H2 ho e2 h2 => ?_
  have hL2 := hL0.ex e2
  obtain ⟨dx2, hx2⟩ := hL2.ins
  -- for call in read_calls(calls)
  refine ⟨.ref a, rfl, a, cs, rfl, ex_l (Ex.trans s1 e2) hS, hok, by omega, fun p H3 hp e3 ⟨as, hB⟩ => ?_⟩
  refine ⟨p, rfl, ⟨_, sq_of (fresh_in _ _ hB.lst)⟩, for_list (K := K) (a := p) (xs := as.map V.ref) (fun i σ' H' => ∃ (lp : Addr) (y3 y4 : Option V), σ' = [some (.ref a), some (.ref x), some (.ref o), y3, y4] ∧ Ex (fresh H2 H3) H' ∧ fresh H2 H3 lp = none ∧ o ≠ lp ∧ LineAt C H' x lp ((after (cs.take i)).getD []) ∧ H' o = some (.lst ((line (cs.take i)).map V.int)))
    ⟨lp0, none, none, rfl, fresh_in, ?_, ?_, hL2.ex e3, e3 _ _ h2⟩ (fun i σ' H' _ ⟨_, _, _, _, e, _⟩ => sq_of (e _ _ hB.lst)) ?_ ?_⟩
  · unfold fresh
    rw [hL2.lst]
  · exact fun c => by
      rw [c, hL0.lst] at ho
      cases ho
  · rintro i y σ' H' hi ⟨lp, y3, y4, rfl, e, hBlp, hol, hL, ho'⟩
    obtain ⟨t, ht, rfl⟩ : ∃ t, as[i]? = some t ∧ y = V.ref t := by
      rw [List.getElem?_map] at hi
      cases z : as[i]? with
      | none => rw [z] at hi; cases hi
      | some q =>
        rw [z] at hi
        exact ⟨q, rfl, (Option.some.inj hi).symm⟩
    have hil : i < cs.length := by
      have := (List.getElem?_eq_some_iff.mp ht).1
      rw [hB.len] at this
      exact this
    have hci : cs[i]? = some cs[i] := List.getElem?_eq_getElem hil
    have hmem : cs[i] ∈ cs := List.getElem_mem hil
    obtain ⟨n, ns, rows, q, r, bs, hc, ht1, hq1, hr1⟩ := hB.at_ i t cs[i] ht hci
    have ht' : H' t = some (.tup [.int n, .ref q, .ref r]) := e _ _ (less_back _ _ ht1)
    have hq' : H' q = some (.lst (ns.map V.int)) := e _ _ (less_back _ _ hq1)
    have hr' : LG RowAt H' r bs rows := hr1.exRow (Ex.trans less_back e)
    have hqlp : q ≠ lp := fun c => by
      rw [c] at hq1
      have := less_back _ _ hq1
      rw [hBlp] at this
      cases this
    obtain ⟨d, hd, hsm⟩ := asked1_is (hasked _ hmem)
    have hgood := good_after _ (cs.take i) rfl fun c hc => hasked c (List.mem_of_mem_take hc)
    obtain ⟨dx', hx'⟩ := hL.ins
    have hstep : Mu50Neutral.step (after (cs.take i)) cs[i] = Mu50.step (after (cs.take i)) d := by
      unfold Mu50Neutral.step
      rw [hd, callOf_flat]
    have htake : cs.take (i + 1) = cs.take i ++ [cs[i]] := by
      rw [List.take_add_one, hci]
      rfl
    have hafter : after (cs.take (i + 1)) = (Mu50.step (after (cs.take i)) d).1 := by rw [htake, after_snoc, hstep]
    have hline : line (cs.take (i + 1)) = line (cs.take i) ++ (((Mu50.step (after (cs.take i)) d).2.length : Int) :: (Mu50.step (after (cs.take i)) d).2) := by rw [htake, line_snoc, hstep]
    have hz : (line (cs.take (i + 1))).length ≤ 10000000 := by
      refine Nat.le_trans (line_le (cs.take (i + 1)) (cs.drop (i + 1))) ?_
      rw [List.take_append_drop]
      exact hshort
    rw [hline, List.length_append, List.length_cons] at hz
    refine ⟨.ref x, rfl, x, dx', _, rfl, hx', lkNo (by decide +kernel), _, rfl, t, _, _, _, rfl, rfl, st_of ht', atI_nat (j := 0) rfl, _, rfl, t, _, _, _, rfl, rfl, st_of ht', atI_nat (j := 1) rfl, _, rfl, t, _, _, _, rfl, rfl, st_of ht', atI_nat (j := 2) rfl, ?_⟩
    refine ⟨x, q, r, lp, after (cs.take i), d, n, ns, rows, bs, rfl, hL, hgood, by rw [← hd, hc], hsm, hq', hr', hqlp, fun rr H5 lp' hrr hL5 kp5 hlp' hr5 => ?_⟩
    have hxo : x ≠ o := hL.ne ho'
    have hBx : fresh H2 H3 x = none := by
      unfold fresh
      rw [hx2]
    have hBo : fresh H2 H3 o = none := by
      unfold fresh
      rw [h2]
    have eB5 : Ex (fresh H2 H3) H5 := fun b ob hb => kp5 b ob (e _ _ hb) (fun c => by rw [c, hBx] at hb; cases hb) (fun c => by rw [c, hBlp] at hb; cases hb)
    have ho5 : H5 o = some (.lst ((line (cs.take i)).map V.int)) := kp5 o _ ho' (fun c => hxo c.symm) hol
    have hBlp' : fresh H2 H3 lp' = none := by
      rcases hlp' with c | c
      · rw [c]
        exact hBlp
      · exact fresh_back e c
    have holp' : o ≠ lp' := by
      rcases hlp' with c | c
      · rw [c]
        exact hol
      · exact ne_of_none ho' c
    have horr : rr ≠ o := fun c => by
      rw [c, ho'] at hrr
      cases hrr
    -- told.append(len(answer))
    refine ⟨.ref o, rfl, .inl ⟨rfl, _, sq_of ho5⟩, .ref rr, rfl, rr, _, rfl, .inl (sq_of hr5), o, _, _, rfl, rfl, ho5, ?_, ?_⟩
    · rw [List.length_map]
      show _ < 2 ^ 24
      omega
    -- told.extend(answer)
    have hr6 : (upd H5 o (.lst ((line (cs.take i)).map V.int ++ [V.int ((((Mu50.step (after (cs.take i)) d).2.map V.int).length : Nat) : Int)]))) rr = some (.lst ((Mu50.step (after (cs.take i)) d).2.map V.int)) := by
      rw [upd_ne horr]
      exact hr5
    refine ⟨.ref o, rfl, .inl ⟨rfl, _, sq_of upd_same⟩, .ref rr, rfl, o, rr, _, _, rfl, rfl, upd_same, hr6, ?_, ?_⟩
    · rw [List.length_append, List.length_map, List.length_map, List.length_singleton]
      show _ ≤ 2 ^ 24
      omega
    refine ⟨lp', _, _, rfl, Ex.mut (Ex.mut eB5 hBo) hBo, hBlp', holp', ?_, ?_⟩
    · rw [hafter]
      obtain ⟨⟨dx5, hx5⟩, hl5⟩ := hL5
      refine ⟨⟨dx5, ?_⟩, ?_⟩
      · rw [upd_ne hxo, upd_ne hxo]
        exact hx5
      · rw [upd_ne holp'.symm, upd_ne holp'.symm]
        exact hl5
    · rw [upd_same, hline, List.map_append, List.map_cons, List.length_map, List.append_assoc]
      rfl
  · rintro σ' H' ⟨lp, y3, y4, rfl, e, _, _, _, ho'⟩
    have htake : cs.take (as.map V.ref).length = cs := List.take_of_length_le (by rw [List.length_map, hB.len]; exact Nat.le_refl _)
    rw [htake] at ho'
    exact s_ret (ev_var rfl) fun H4 e4 => kq H4 o (e4 _ _ ho')
end
end Bf

set_option Elab.async false
set_option maxRecDepth 100000
set_option maxHeartbeats 2000000
namespace Bf
open PySem PySem.Spec PyProof.Rows L2 Evl
/-! ### list(range(a, b, c)) -/
/-- a, a + c, .., n of them -/
def stepped (a c : Int) (n : Nat) : List V := (List.range n).map fun (i : Nat) => V.int (a + (i : Int) * c)
theorem stepped_vals {a c : Int} {n : Nat} {acc : Array Value} (h : ItemsOf (fun i v => ∃ t, v = .int (a + i * c) t) acc n) : Vals (stepped a c n) acc.toList := by
  have e : acc.toList.length = n := by
    rw [Array.length_toList]
    exact h.1
  unfold stepped
  rw [← e]
  refine vals_of_get acc.toList _ fun j u hj => ?_
  rw [Array.getElem?_toList] at hj
  exact h.2 j u hj
def tLstR3 (ta : TA) : TE := fun σ H Q => ta σ H fun vs H1 => ∃ (i j c : Int) (n : Nat), vs = [.int i, .int j, .int c] ∧ RgC i j c n ∧ n ≤ 100000 ∧ ∀ q, H1 q = none → Q (.ref q) (upd H1 q (.lst (stepped i c n)))
section
variable {X : Cx}
theorem pe_listR3 {a b c : Expr} {ta : TA} {p pos p2 pos2 : Pos} (hc : X.calm = true) (hg : Gl X "list") (hm : X.mg "list" = none) (hg2 : Gl X "range") (hm2 : X.mg "range" = none) (ha : PA X [a, b, c] ta)
    (hs : starEach [a, b, c] X.env = (false, eval a X.env) :: starEach [b, c] X.env := by rfl) (hpl : (backTo pos2 (starEach [b, c] X.env)).any (·.1) = false := by rfl)
    (na : starEach [.Call (.Name "range" p2) [a, b, c] [] pos2] X.env = (false, eval (.Call (.Name "range" p2) [a, b, c] [] pos2) X.env) :: starEach [] X.env := by rfl) :
    PE X (.Call (.Name "list" p) [.Call (.Name "range" p2) [a, b, c] [] pos2] [] pos) (tLstR3 ta) := by
  refine ⟨fun pins s σ H Q I h => ?_⟩
  refine Call_ (ld_blt I hg hm boot_list (PyProof.Rows.callWith_type1 (args_cons (thn (Call_ (ld_blt I hg2 hm2 boot_range (PyProof.Rows.callWith_type1 (thn (ha.run pos2 pins s σ H _ I h) fun us s1 ⟨vs, H1, I1, r1, q1⟩ => ?_) hs hpl)))
    (Q := fun x s' => ∃ r i j k t u v n H', x = .ref r ∧ IsRange s'.heap r i j k t u v ∧ Inv X pins σ H' s' ∧ RgC i j k n ∧ n ≤ 100000 ∧ ∀ q, H' q = none → Q (.ref q) (upd H' q (.lst (stepped i k n)))) ?_) na) na))
  · obtain ⟨i, j, k, n, e, ⟨c0, c1, c2, c3⟩, hn, q⟩ := q1
    subst e
    cases r1 with
    | cons r rr =>
      cases rr with
      | cons r' rr =>
        cases rr with
        | cons r'' rr =>
          cases rr
          obtain ⟨t, rfl⟩ := r
          obtain ⟨t', rfl⟩ := r'
          obtain ⟨t'', rfl⟩ := r''
          exact call_range_3 c0 ⟨_, i, j, k, _, _, _, n, H1, rfl, IsRange.new _ _ _ _ _ _ _, I1.kept fun b o e => Heap.get?_push_of_some _ e, ⟨c0, c1, c2, c3⟩, hn, q⟩ (.inl (PyProof.noPylong_small c1))
  · rintro x s1 ⟨r, i, j, k, t, u, v, n, H1, rfl, hr, I1, ⟨c0, c1, c2, c3⟩, hn, q⟩
    refine args_nil ?_
    refine call_list_range (n := n) (I1.ok.hd hc) hr c2 c3 (by omega) fun h' tk acc c' hk e' hi => ?_
    refine ⟨.ref s1.heap.objs.size, upd H1 s1.heap.objs.size (.lst (stepped i k n)), I1.laid hk (Nat.le_refl _) (show ObjOk X.prog X.w _ _ _ (.lst (stepped i k n)) from ⟨?_, acc.toList, c', stepped_vals hi, ?_⟩), rfl, q _ (I1.hok.fresh (Nat.le_refl _))⟩
    · unfold stepped
      rw [List.length_map, List.length_range, sizeLine_eq]
      omega
    · rw [Array.toArray_toList]
      exact e'
end
theorem el_listR3 {σ : L2.St} {H : Hp} {ta : TA} {i j c : Int} {n : Nat} (h : EvA ta σ H [.int i, .int j, .int c]) (hr : RgC i j c n) (hn : n ≤ 100000) : EvL (tLstR3 ta) σ H (stepped i c n) := fun H1 e _ k =>
  h H1 e _ fun _ e2 => ⟨i, j, c, n, rfl, hr, hn, fun q hq => k q _ (fresh_back e2 hq) (e2.trans (Ex.new hq)) upd_same⟩
theorem el_listR1 {σ : L2.St} {H : Hp} {te : TE} {n : Int} (h : Ev te σ H (.int n)) (hn : 0 ≤ n ∧ n ≤ 100000) : EvL (tLstRg (tRg1 te)) σ H (rgV 0 n) := fun H1 e _ k =>
  h H1 e _ fun H2 e2 => ⟨n, rfl, RgOk.of_le (by omega) (by omega) (by omega) (by omega), fun q hq => k q _ (fresh_back e2 hq) (e2.trans (Ex.new hq)) upd_same⟩
theorem rg_order (n : Nat) : rgV 0 (n : Int) = nv (order n 0) := by
  unfold rgV order nv Mu50.nums
  rw [if_pos rfl, List.map_map, show ((n : Int) - 0).toNat = n by omega]
  refine List.map_congr_left fun i _ => ?_
  show V.int (0 + (i : Int)) = V.int (i : Int)
  rw [Int.zero_add]
theorem stepped_order {n e : Nat} (he : e ≠ 0) : stepped ((n : Int) - 1) (-1) n = nv (order n e) := by
  unfold stepped order nv Mu50.nums
  rw [if_neg he, List.map_map, List.map_map]
  refine List.map_congr_left fun i hi => ?_
  have := List.mem_range.mp hi
  show V.int ((n : Int) - 1 + (i : Int) * -1) = V.int ((n - 1 - i : Nat) : Int)
  congr 1
  omega
/-! ### what is answered -/
def aSeen (hs : List Nat) (e : Nat) : List Int := if 1 < e then [-1] else Mu50.nums ((seenFrom hs e).length :: seenFrom hs e)
theorem in_ends (e : Nat) : inV (.int (e : Int)) [.int 0, .int 1] = decide (e ≤ 1) := by
  match e with
  | 0 => rfl
  | 1 => rfl
  | e + 2 =>
    have h0 : ((0 : Int) == ((e + 2 : Nat) : Int)) = false := beq_false_of_ne (by omega)
    have h1 : ((1 : Int) == ((e + 2 : Nat) : Int)) = false := beq_false_of_ne (by omega)
    rw [decide_eq_false (by omega)]
    show (((0 : Int) == ((e + 2 : Nat) : Int)) || (((1 : Int) == ((e + 2 : Nat) : Int)) || false)) = false
    rw [h0, h1]
    rfl
section
variable {P : Program} {w : World} {K : PySem.W.Frag} {mg : Str → Option Value} {base : Heap}
theorem scFr : FnScope ["heights", "end"] ["heights", "end"] (defScope sFrom) := ⟨rfl, rfl, rfl, by decide +kernel, rfl, by decide +kernel, by decide +kernel⟩
def spFrom (K : PySem.W.Frag) : Sp := fun vs H Q _ => ∃ (a : Addr) (hs : List Nat) (e : Nat), vs = [.ref a, .int (e : Int)] ∧ SqL K H a (nv hs) ∧ 1 ≤ hs.length ∧ hs.length ≤ 8 ∧ RetL (nv (order hs.length e)) H Q
theorem ok_from {f : Addr} {fd : FuncData} {k : Nat} {t0 : Tok} (F : Fun K "boards_from" "boards_from" sFrom f fd) (m0 : mg "LEFT" = some (.int 0 t0)) (ml : mg "len" = none) (mr : mg "range" = none) (mli : mg "list" = none) : FnOk P w K mg base CX0 (k + 1) f fd ["heights", "end"] (spFrom K) := by
  refine F.ok scFr (fun vs H Q E h => ?_) (fun cdv A outer s H vs Q E hr h => ?_)
  · obtain ⟨a, hs, e, rfl, _⟩ := h
    rfl
  obtain ⟨a, hs, e, rfl, hS, h1, h8, k⟩ := h
  refine ⟨_, pss_cons (ps_if (pt_cmpR op_eq (pv 1) (pe_glob (v := .int 0) rfl m0 ⟨_, rfl⟩) (nomark _)) (pss_one (ps_ret (pe_listRg rfl rfl mli (prg_1 rfl mr (pe_callB call_len_seq rfl ml PySem.boot_len (pa_cons (pv 0) pa_nil)))))) pss_nil)
    (pss_one (ps_ret (pe_listR3 rfl rfl mli rfl mr (pa_cons (pe_op op_sub (pe_callB call_len_seq rfl ml PySem.boot_len (pa_cons (pv 0) pa_nil)) pe_int) (pa_cons (pe_un un_neg pe_int) (pa_cons (pe_un un_neg pe_int) pa_nil)))))), ?_⟩
  have hnl := nv_len hs
  refine q_when (et_test (ev_op (ev_var rfl) ev_c (rv_eq rfl))) (fun hc H1 e1 => ?_) (fun hc H1 e1 => ?_)
  · have hc' : e = 0 := by
      have := V.int.inj (of_decide_eq_true hc)
      omega
    refine s_retL (el_listR1 (ev_len (K := K) (ev_var rfl) (ex_l e1 hS)) ⟨by omega, by omega⟩) fun p H2 hp e2 h2 => k p H2 (fresh_back e1 hp) (e1.trans e2) ?_
    rw [h2, hnl, rg_order, hc']
  · have hc' : e ≠ 0 := fun c => by
      rw [c] at hc
      exact absurd rfl (of_decide_eq_false hc)
    refine s_retL (el_listR3 (i := ((nv hs).length : Int) - 1) (j := -1) (c := -1) (n := hs.length) (ea_cons (ev_op (ev_len (K := K) (ev_var rfl) (ex_l e1 hS)) ev_c rv_I0) (ea_cons (ev_un ev_c ru_neg) (ea_cons (ev_un ev_c ru_neg) ea_nil))) ?_ (by omega)) fun p H2 hp e2 h2 => k p H2 (fresh_back e1 hp) (e1.trans e2) ?_
    · have := RgC.neg (i := ((nv hs).length : Int) - 1) (j := -1) (by omega) (by omega) (by omega) (by omega)
      rw [show (((nv hs).length : Int) - 1 - -1).toNat = hs.length by omega] at this
      exact this
    · rw [h2, hnl, stepped_order hc']
theorem scSb : FnScope ["heights", "end", "found", "highest", "board"] ["heights", "end"] (defScope sSeenB) := ⟨rfl, rfl, rfl, by decide +kernel, rfl, by decide +kernel, by decide +kernel⟩
def spSeenB (K : PySem.W.Frag) : Sp := fun vs H Q _ => ∃ (a : Addr) (hs : List Nat) (e : Nat), vs = [.ref a, .int (e : Int)] ∧ SqL K H a (nv hs) ∧ 1 ≤ hs.length ∧ hs.length ≤ 8 ∧ RetL (nv (seenFrom hs e)) H Q
theorem ok_seenB {f g : Addr} {fd gd : FuncData} {k : Nat} (F : Fun K "seen_boards" "seen_boards" sSeenB f fd)
    (G : FnOk P w K mg base CX0 k g gd ["heights", "end"] (spFrom K)) (bG : Binds K gd ["heights", "end"] []) (kG : PySem.W.keepIn K (.ref g) = true) (mG : mg "boards_from" = some (.ref g)) : FnOk P w K mg base CX0 (k + 1) f fd ["heights", "end"] (spSeenB K) := by
  refine F.ok scSb (fun vs H Q E h => ?_) (fun cdv A outer s H vs Q E hr h => ?_)
  · obtain ⟨a, hs, e, rfl, _⟩ := h
    rfl
  obtain ⟨a, hs, e, rfl, hS, h1, h8, k⟩ := h
  refine ⟨_, pss_cons (ps_set (i := 2) scSb.nd rfl (.inl rfl) (pe_lst pa_nil))
    (pss_cons (ps_set (i := 3) scSb.nd rfl (.inl rfl) pe_int)
    (pss_cons (ps_for PassesOwn.never rfl (pi_list (pe_call G hr rfl mG kG bG .nil pass0 (pa_cons (pv 0) (pa_cons (pv 1) pa_nil)))) (pg_name (i := 4) scSb.nd rfl (.inl rfl))
      (pss_one (ps_if (pt_cmpR op_gt (pe_ix ix_list (pv 0) (pv 4) (fun _ _ => rfl)) (pv 3) (nomark _))
        (pss_cons (ps_expr (pe_bm PySem.F.plainAttrs_list PySem.F.slot_list_append PySem.F.type_list_append mt_append (pv 2) (pa_cons (pv 4) pa_nil)))
        (pss_one (ps_set (i := 3) scSb.nd rfl (.inl rfl) (pe_ix ix_list (pv 0) (pv 4) (fun _ _ => rfl))))) pss_nil)))
    (pss_one (ps_ret (pv 2))))), ?_⟩
  refine q_asgL (el_lst ea_nil (by decide)) fun o H1 ho e1 h1' => ?_
  refine q_asg ev_c fun H2 e2 => ?_
  refine q_forNLn (K := K) (xs := nv (order hs.length e)) (el_callL (ea_cons (ev_var rfl) (ea_cons (ev_var rfl) ea_nil)) fun H3 e3 Q q => ⟨a, hs, e, rfl, ex_l ((e1.trans e2).trans e3) hS, h1, h8, q⟩)
    (fun p i σ' H' => ∃ (y4 : Option V), σ' = [some (.ref a), some (.int (e : Int)), some (.ref o), some (.int ((looked hs ((order hs.length e).take i)).2 : Int)), y4] ∧ Ex H H' ∧ H2 p = none ∧ H' p = some (.lst (nv (order hs.length e))) ∧ H' o = some (.lst (nv (looked hs ((order hs.length e).take i)).1)))
    (fun p H3 hp e3 h3 => ⟨none, rfl, (e1.trans e2).trans e3, hp, h3, e3 _ _ (e2 _ _ h1')⟩) (fun p i σ' H' _ ⟨_, _, _, _, h, _⟩ => sq_of h) ?_ ?_
  · rintro p i x σ' H' hi ⟨y4, rfl, e', hp, hpl, ho'⟩
    obtain ⟨b, hb, rfl⟩ : ∃ b, (order hs.length e)[i]? = some b ∧ x = .int (b : Int) := by
      unfold nv Mu50.nums at hi
      rw [List.map_map, List.getElem?_map] at hi
      cases c : (order hs.length e)[i]? with
      | none => rw [c] at hi; cases hi
      | some y =>
        rw [c] at hi
        exact ⟨y, rfl, (Option.some.inj hi).symm⟩
    have hbl := order_lt hb
    have hx : hs[b]? = some hs[b] := List.getElem?_eq_getElem hbl
    have hgd : hs.getD b 0 = hs[b] := by
      rw [List.getD_eq_getElem?_getD, hx]
      rfl
    have hpo : p ≠ o := fun c => by
      rw [c, e2 _ _ h1'] at hp
      cases hp
    have hsucc := looked_succ hs _ hb
    refine s_when (et_test (ev_op (ev_op (ev_var rfl) (ev_var rfl) (rv_ixL (K := K) (ex_l e' hS) (nv_at rfl hx))) (ev_var rfl) rv_I0)) (fun hc H3 e3 => ?_) (fun hc H3 e3 => ?_)
    · have hc' : (looked hs ((order hs.length e).take i)).2 < hs.getD b 0 := by
        have := of_decide_eq_true hc
        rw [hgd]
        omega
      unfold look1 at hsucc
      rw [if_pos hc'] at hsucc
      have hz : (nv (looked hs ((order hs.length e).take i)).1).length < 100000 := by
        have := looked_len hs ((order hs.length e).take i) ([], 0)
        have h2 : ((order hs.length e).take i).length ≤ 8 := by
          rw [List.length_take, order_len]
          omega
        rw [nv_len]
        show (((order hs.length e).take i).foldl (look1 hs) ([], 0)).1.length < 100000
        have h3 : (([], 0) : List Nat × Nat).1.length = 0 := rfl
        omega
      refine q_app (K := K) (e3 _ _ ho') (ev_var rfl) (ev_var rfl) hz fun H4 e4 => ?_
      have e5 : Ex H (upd H4 o (.lst (nv (looked hs ((order hs.length e).take i)).1 ++ [.int (b : Int)]))) := Ex.mut ((e'.trans e3).trans e4) ho
      refine s_asg (ev_op (ev_var rfl) (ev_var rfl) (rv_ixL (K := K) (ex_l e5 hS) (nv_at rfl hx))) fun H5 e6 => ?_
      refine ⟨some (.int (b : Int)), ?_, e5.trans e6, hp, e6 _ _ ?_, e6 _ _ ?_⟩
      · rw [hsucc, hgd]
        rfl
      · rw [upd_ne hpo]
        exact e4 _ _ (e3 _ _ hpl)
      · rw [upd_same, hsucc]
        unfold nv Mu50.nums
        rw [List.map_append, List.map_append]
        rfl
    · have hc' : ¬ (looked hs ((order hs.length e).take i)).2 < hs.getD b 0 := by
        have := of_decide_eq_false hc
        rw [hgd]
        omega
      unfold look1 at hsucc
      rw [if_neg hc'] at hsucc
      refine ⟨some (.int (b : Int)), ?_, e'.trans e3, hp, e3 _ _ hpl, ?_⟩
      · rw [hsucc]
        rfl
      · rw [hsucc]
        exact e3 _ _ ho'
  · rintro p σ' H' ⟨y4, rfl, e', hp, hpl, ho'⟩
    rw [nv_len, List.take_of_length_le (Nat.le_refl _), looked_all] at ho'
    exact s_ret (ev_var rfl) fun H3 e3 => k o H3 ho (e'.trans e3) (e3 _ _ ho')
theorem scSn : FnScope ["heights", "end", "found"] ["heights", "end"] (defScope sSeen) := ⟨rfl, rfl, rfl, by decide +kernel, rfl, by decide +kernel, by decide +kernel⟩
def spSeen (K : PySem.W.Frag) : Sp := fun vs H Q _ => ∃ (a : Addr) (hs : List Nat) (e : Nat), vs = [.ref a, .int (e : Int)] ∧ SqL K H a (nv hs) ∧ 1 ≤ hs.length ∧ hs.length ≤ 8 ∧ RetL ((aSeen hs e).map V.int) H Q
theorem seenFrom_len (hs : List Nat) (e : Nat) : (seenFrom hs e).length ≤ hs.length := by
  have := looked_len hs (order hs.length e) ([], 0)
  rw [order_len] at this
  rw [← looked_all]
  show ((order hs.length e).foldl (look1 hs) ([], 0)).1.length ≤ hs.length
  have h3 : (([], 0) : List Nat × Nat).1.length = 0 := rfl
  omega
theorem ok_seen {f g : Addr} {fd gd : FuncData} {k : Nat} {tn t0 t1 : Tok} (F : Fun K "seen" "seen" sSeen f fd)
    (G : FnOk P w K mg base CX0 k g gd ["heights", "end"] (spSeenB K)) (bG : Binds K gd ["heights", "end"] []) (kG : PySem.W.keepIn K (.ref g) = true) (mG : mg "seen_boards" = some (.ref g))
    (mn : mg "NOT_ALLOWED" = some (.int (-1) tn)) (m0 : mg "LEFT" = some (.int 0 t0)) (m1 : mg "RIGHT" = some (.int 1 t1)) (ml : mg "len" = none) : FnOk P w K mg base CX0 (k + 1) f fd ["heights", "end"] (spSeen K) := by
  refine F.ok scSn (fun vs H Q E h => ?_) (fun cdv A outer s H vs Q E hr h => ?_)
  · obtain ⟨a, hs, e, rfl, _⟩ := h
    rfl
  obtain ⟨a, hs, e, rfl, hS, h1, h8, k⟩ := h
  refine ⟨_, pss_cons (ps_if (pt_cmpR op_notIn_seq (pv 1) (pe_tup (pa_cons (pe_glob (v := .int 0) rfl m0 ⟨_, rfl⟩) (pa_cons (pe_glob (v := .int 1) rfl m1 ⟨_, rfl⟩) pa_nil))) rfl) (pss_one (ps_ret (pe_lst (pa_cons (pe_glob (v := .int (-1)) rfl mn ⟨_, rfl⟩) pa_nil)))) pss_nil)
    (pss_cons (ps_set (i := 2) scSn.nd rfl (.inl rfl) (pe_call G hr rfl mG kG bG .nil pass0 (pa_cons (pv 0) (pa_cons (pv 1) pa_nil))))
    (pss_one (ps_ret (pe_op op_cat (pe_lst (pa_cons (pe_callB call_len_seq rfl ml PySem.boot_len (pa_cons (pv 2) pa_nil)) pa_nil)) (pv 2))))), ?_⟩
  refine q_when (et_test (ev_niU (K := K) (ev_var rfl) (eu_tup (ea_cons ev_c (ea_cons ev_c ea_nil)) (by show 2 ≤ 100000; decide)) rfl rfl)) (fun hc H1 e1 => ?_) (fun hc H1 e1 => ?_)
  · rw [Bool.not_eq_true', in_ends] at hc
    have hc' := of_decide_eq_false hc
    refine s_retL (el_lst (ea_cons ev_c ea_nil) (by decide)) fun p H2 hp e2 h2 => k p H2 (fresh_back e1 hp) (e1.trans e2) ?_
    rw [h2, aSeen, if_pos (by omega)]
    rfl
  · rw [Bool.not_eq_false', in_ends] at hc
    have hc' := of_decide_eq_true hc
    refine q_asgL (el_callL (xs := nv (seenFrom hs e)) (ea_cons (ev_var rfl) (ea_cons (ev_var rfl) ea_nil)) fun H2 e2 Q q => ⟨a, hs, e, rfl, ex_l (e1.trans e2) hS, h1, h8, q⟩) fun q H2 hq e2 h2 => ?_
    have hl := seenFrom_len hs e
    refine s_retL (el_cat (el_lst (ea_cons (ev_len (K := K) (ev_var rfl) (sq_of h2)) ea_nil) (by show 1 ≤ 100000; decide)) (ev_var rfl) h2 (by rw [nv_len]; show 1 + _ ≤ 100000; omega)) fun p H3 hp e3 h3 => k p H3 (fresh_back (e1.trans e2) hp) ((e1.trans e2).trans e3) ?_
    rw [h3, aSeen, if_neg (by omega), nv_len]
    rfl
end
end Bf

set_option Elab.async false
set_option maxRecDepth 100000
set_option maxHeartbeats 2000000
namespace Bf
open PySem PySem.Spec PyProof.Rows L2 Evl
/-- two new lists -/
theorem el_cat2 {σ : L2.St} {H : Hp} {ta tb : TE} {xs zs : List V} (ha : EvL ta σ H xs) (hb : EvL tb σ H zs) (hz : xs.length + zs.length ≤ 100000) : EvL (tOp rCat ta tb) σ H (xs ++ zs) := fun H1 e _ k =>
  ha H1 e _ fun p H2 _ e2 h2 => hb H2 (e.trans e2) _ fun q _ _ e3 h3 => ⟨p, q, xs, zs, rfl, rfl, e3 _ _ h2, h3, sz_of hz, fun r hr => k r _ (fresh_back (e2.trans e3) hr) ((e2.trans e3).trans (Ex.new hr)) upd_same⟩
theorem cut_head (l : List Nat) (j : Nat) : cutV (nv l) none (some (j : Int)) = nv (l.take j) := by
  have h : cutV (nv l) none (some (j : Int)) = (nv l).take j := by
    unfold cutV
    rw [HT.sIx_nat, HT.sIx_none, List.drop_zero, Nat.sub_zero]
    by_cases c : j ≤ (nv l).length
    · rw [Nat.min_eq_left c]
    · rw [Nat.min_eq_right (by omega), List.take_of_length_le (Nat.le_refl _), List.take_of_length_le (by omega)]
  rw [h]
  unfold nv Mu50.nums
  rw [List.map_take, List.map_take]
theorem cut_tail (l : List Nat) (i : Nat) : cutV (nv l) (some (i : Int)) none = nv (l.drop i) := by
  have h : cutV (nv l) (some (i : Int)) none = (nv l).drop i := by
    unfold cutV
    rw [HT.sIx_nat, HT.sIx_none, List.take_of_length_le (by rw [List.length_drop]; exact Nat.le_refl _)]
    by_cases c : i ≤ (nv l).length
    · rw [Nat.min_eq_left c]
    · rw [Nat.min_eq_right (by omega), List.drop_of_length_le (Nat.le_refl _), List.drop_of_length_le (by omega)]
  rw [h]
  unfold nv Mu50.nums
  rw [List.map_drop, List.map_drop]
section
variable {P : Program} {w : World} {K : PySem.W.Frag} {mg : Str → Option Value} {base : Heap}
abbrev nLift : List Str := ["heights", "board", "width", "height", "past", "own"]
theorem scLf : FnScope nLift ["heights", "board", "width", "height"] (defScope sRaised) := ⟨rfl, rfl, rfl, by decide +kernel, rfl, by decide +kernel, by decide +kernel⟩
def spLift (K : PySem.W.Frag) : Sp := fun vs H Q _ => ∃ (a : Addr) (hs : List Nat) (i w t : Nat), vs = [.ref a, .int (i : Int), .int (w : Int), .int (t : Int)] ∧ SqL K H a (nv hs) ∧ hs.length ≤ 8 ∧ RetL (nv (Mu50.lifted hs i w t)) H Q
theorem ok_lift {f : Addr} {fd : FuncData} {k : Nat} (F : Fun K "raised" "raised" sRaised f fd) (mx : mg "max" = none) : FnOk P w K mg base CX0 (k + 1) f fd ["heights", "board", "width", "height"] (spLift K) := by
  refine F.ok scLf (fun vs H Q E h => ?_) (fun cdv A outer s H vs Q E hr h => ?_)
  · obtain ⟨a, hs, i, w, t, rfl, _⟩ := h
    rfl
  obtain ⟨a, hs, i, w, t, rfl, hS, h8, k⟩ := h
  refine ⟨_, pss_cons (ps_set (i := 4) scLf.nd rfl (.inl rfl) (pe_op op_add (pv 1) (pv 2)))
    (pss_one (ps_ret (pe_op op_cat (pe_op op_cat (pe_slice sl_list (pv 0) po_none (po_some (pv 1))) (pe_lc (own := [("own", 5)]) (g := gName 5) (tt := tYes) rfl scLf.nd (pi_list (pe_slice sl_list (pv 0) (po_some (pv 1)) (po_some (pv 4))))
      (blkOk_by (N := nLift) (sc := defScope sRaised) (by decide +kernel)) (fun _ _ _ _ _ => pg_name (i := 5) scLf.nd rfl (Or.inl rfl)) (fun _ _ _ _ _ => pts_nil)
      (fun _ _ _ _ _ => pe_callB (call_max2 rfl) rfl mx (by decide +kernel) (pa_cons (pv 5) (pa_cons (pv 3) pa_nil))))) (pe_slice sl_list (pv 0) (po_some (pv 4)) po_none)))), ?_⟩
  have hnl := nv_len hs
  refine q_asg (v := .int ((i + w : Nat) : Int)) (ev_is (ev_op (ev_var rfl) (ev_var rfl) rv_I0) (congrArg V.int (Int.natCast_add i w).symm)) fun H1 e1 => ?_
  have hS1 := ex_l e1 hS
  have h1 : EvL (tSl (rSlL K) (tVar 0) tNoPart (tPart (tVar 1))) [some (.ref a), some (.int (i : Int)), some (.int (w : Int)), some (.int (t : Int)), some (.int ((i + w : Nat) : Int)), none] H1 (nv (hs.take i)) := by
    have := el_sl (K := K) (te := tVar 0) (tl := tNoPart) (th := tPart (tVar 1)) (σ := [some (.ref a), some (.int (i : Int)), some (.int (w : Int)), some (.int (t : Int)), some (.int ((i + w : Nat) : Int)), none]) (ev_var rfl) eo_none (eo_some (ev_var rfl)) hS1
    rw [cut_head] at this
    exact this
  have h2 : EvL (tSl (rSlL K) (tVar 0) (tPart (tVar 1)) (tPart (tVar 4))) [some (.ref a), some (.int (i : Int)), some (.int (w : Int)), some (.int (t : Int)), some (.int ((i + w : Nat) : Int)), none] H1 (nv (Mu50.part hs i w)) := by
    have := el_sl (K := K) (te := tVar 0) (tl := tPart (tVar 1)) (th := tPart (tVar 4)) (σ := [some (.ref a), some (.int (i : Int)), some (.int (w : Int)), some (.int (t : Int)), some (.int ((i + w : Nat) : Int)), none]) (ev_var rfl) (eo_some (ev_var rfl)) (eo_some (ev_var rfl)) hS1
    rw [cut_nv hs (i := i) (j := i + w) rfl rfl, show i + w - i = w by omega] at this
    exact this
  have h3 : EvL (tSl (rSlL K) (tVar 0) (tPart (tVar 4)) tNoPart) [some (.ref a), some (.int (i : Int)), some (.int (w : Int)), some (.int (t : Int)), some (.int ((i + w : Nat) : Int)), none] H1 (nv (hs.drop (i + w))) := by
    have := el_sl (K := K) (te := tVar 0) (tl := tPart (tVar 4)) (th := tNoPart) (σ := [some (.ref a), some (.int (i : Int)), some (.int (w : Int)), some (.int (t : Int)), some (.int ((i + w : Nat) : Int)), none]) (ev_var rfl) (eo_some (ev_var rfl)) eo_none hS1
    rw [cut_tail] at this
    exact this
  have hpl : (nv (Mu50.part hs i w)).length ≤ 8 := by
    rw [nv_len, part_len]
    omega
  have hval : ∀ (j x : Nat), (nv (Mu50.part hs i w))[j]? = some (.int (x : Int)) → (((Mu50.part hs i w).map fun (x : Nat) => max x t)[j]? = some (max x t)) := by
    intro j x hx
    unfold nv Mu50.nums at hx
    rw [List.map_map, List.getElem?_map] at hx
    rw [List.getElem?_map]
    cases c : (Mu50.part hs i w)[j]? with
    | none => rw [c] at hx; cases hx
    | some y =>
      rw [c] at hx
      have e1 : V.int (y : Int) = V.int (x : Int) := Option.some.inj hx
      have e2 : (y : Int) = (x : Int) := V.int.inj e1
      have e3 : y = x := by omega
      rw [e3]
      rfl
  have hl := el_lcNL (K := K) (j := 5) (vs := [5]) (t := tYes) (te := tCB rMax2 (tCons (tVar 5) (tCons (tVar 3) tNil))) (fun _ => true) (fun j => .int (((((Mu50.part hs i w).map fun (x : Nat) => max x t).getD j 0 : Nat)) : Int)) h2 (by omega) (fun x => rfl)
    (fun _ _ _ _ _ => et_yes) (fun j x H1 e hx _ => by
      obtain ⟨y, rfl⟩ : ∃ y : Nat, x = .int (y : Int) := by
        unfold nv Mu50.nums at hx
        rw [List.map_map, List.getElem?_map] at hx
        cases c : (Mu50.part hs i w)[j]? with
        | none => rw [c] at hx; cases hx
        | some y =>
          rw [c] at hx
          exact ⟨y, (Option.some.inj hx).symm⟩
      refine ev_is (ev_max2 (ev_var rfl) (ev_var rfl)) ?_
      rw [List.getD_eq_getElem?_getD, hval j y hx]
      show V.int (if (t : Int) > (y : Int) then (t : Int) else (y : Int)) = V.int ((max y t : Nat) : Int)
      congr 1
      split <;> omega)
  have he : given (nv (Mu50.part hs i w)).length (fun _ => true) (fun j => V.int (((((Mu50.part hs i w).map fun (x : Nat) => max x t).getD j 0 : Nat)) : Int)) = nv ((Mu50.part hs i w).map fun (x : Nat) => max x t) := by
    have := given_all (l := (Mu50.part hs i w).map fun (x : Nat) => max x t) (v := fun j => V.int (((((Mu50.part hs i w).map fun (x : Nat) => max x t).getD j 0 : Nat)) : Int)) (fun j x hx => by
      rw [List.getD_eq_getElem?_getD, hx]
      rfl)
    rw [List.length_map] at this
    rw [nv_len]
    exact this
  rw [he] at hl
  have z1 : (nv (hs.take i)).length ≤ 8 := by
    rw [nv_len, List.length_take]
    omega
  have z2 : (nv ((Mu50.part hs i w).map fun (x : Nat) => max x t)).length ≤ 8 := by
    rw [nv_len, List.length_map, part_len]
    omega
  have z3 : (nv (hs.drop (i + w))).length ≤ 8 := by
    rw [nv_len, List.length_drop]
    omega
  refine s_retL (el_cat2 (el_cat2 h1 hl (by omega)) h3 (by rw [List.length_append]; omega)) fun p H2 hp e2 h4 => k p H2 (fresh_back e1 hp) (e1.trans e2) ?_
  rw [h4, lifted_eq]
  unfold nv Mu50.nums
  rw [List.map_append, List.map_append, List.map_append, List.map_append]
end
end Bf

set_option Elab.async false
set_option maxRecDepth 100000
set_option maxHeartbeats 2000000
namespace Bf
open PySem PySem.Spec PyProof.Rows L2 Evl
theorem Post.go {C x lp : Addr} {H H1 : Hp} {Q : VK} {z : Mu50.Abs × List Int} (k : Post C x lp H Q z) (e : Ex H H1) : Post C x lp H1 Q z := fun r H' lp' hr hL kp hlp h =>
  k r H' lp' (fresh_back e hr) hL (fun b o hb => kp b o (e _ _ hb)) (hlp.imp id (fresh_back e)) h
/-- only what stands in the list of heights changes -/
theorem Post.set {C x lp : Addr} {H H1 : Hp} {Q : VK} {hs hs' : List Nat} {ans : List Int} (k : Post C x lp H Q (some hs', ans)) (hL : LineAt C H x lp hs) (e : Ex (less H lp) H1) (hl : H1 lp = some (.lst (nv hs'))) : RetL (ans.map V.int) H1 Q := fun p H2 hp e2 h2 => by
  obtain ⟨dx, hx⟩ := hL.ins
  have hxl : x ≠ lp := hL.ne hL.lst
  have hpl : p ≠ lp := fun c => by
    rw [c, hl] at hp
    cases hp
  refine k p H2 lp ?_ ⟨⟨dx, e2 _ _ (e _ _ (less_of hx hxl))⟩, e2 _ _ hl⟩ (fun b o hb _ hbl => e2 _ _ (e _ _ (less_of hb hbl))) (.inl rfl) h2
  cases c : H p with
  | none => rfl
  | some o =>
    rw [e _ _ (less_of c hpl)] at hp
    cases hp
/-- a list that is new already is answered, nothing else has changed -/
theorem Post.ret {C x lp p : Addr} {H H1 : Hp} {Q : VK} {s : Mu50.Abs} {ans : List Int} (k : Post C x lp H Q (s, ans)) (hL : LineAt C H x lp (s.getD [])) (e1 : Ex H H1) (hp : H p = none) (h1 : H1 p = some (.lst (ans.map V.int))) : RetV (.ref p) H1 Q := fun H2 e2 =>
  k p H2 lp hp (hL.ex (e1.trans e2)) (fun _ _ hb _ _ => (e1.trans e2) _ _ hb) (.inl rfl) (e2 _ _ h1)
theorem hts_of {K : PySem.W.Frag} {C x lp : Addr} {H : Hp} {hs : List Nat} (g : GoodF hs) (hL : LineAt C H x lp hs) : Hts K H lp hs := ⟨sq_of hL.lst, g.len, g.ne, g.pos, g.top⟩
theorem nv_set (l : List Nat) (i x : Nat) : (nv l).set i (.int (x : Int)) = nv (l.set i x) := by
  unfold nv Mu50.nums
  rw [List.map_set, List.map_set]
theorem LineAt.set {C x lp : Addr} {H : Hp} {hs hs' : List Nat} (hL : LineAt C H x lp hs) : LineAt C (upd H lp (.lst (nv hs'))) x lp hs' := by
  obtain ⟨dx, hx⟩ := hL.ins
  refine ⟨⟨dx, ?_⟩, upd_same⟩
  rw [upd_ne (hL.ne hL.lst)]
  exact hx
theorem less_set {H H1 : Hp} {lp : Addr} {o : HO} (e : Ex (less H lp) H1) : Ex (less H lp) (upd H1 lp o) := fun b u hb => by
  rw [upd_ne (less_some hb).1]
  exact e b u hb
/-- return self.m(..) -/
theorem s_retM {C x dx : Addr} {m : Str} {fs : List (Str × V)} {sp : Sp} {dvs vs : List V} {E : XK} {ta : TE} {t : TA} {D : Ends} {σ : L2.St} {H : Hp} (ha : Ev ta σ H (.ref x)) (hx : H x = some (.ins C dx fs)) (hl : fs.lookup m = none) (h : EvA t σ H vs)
    (hs : ∀ H1, Ex H H1 → sp (.ref x :: (vs ++ dvs)) H1 D.rt E) : tRet (tMeth C m sp dvs E ta t) D σ H := ha H (Ex.refl H) _ fun H1 e1 => ⟨x, dx, fs, rfl, e1 _ _ hx, hl, h H1 e1 _ fun H2 e2 => hs H2 (e1.trans e2)⟩
section
variable {P : Program} {w : World} {K : PySem.W.Frag} {mg : Str → Option Value} {base : Heap} {C : Addr}
/-! ### board -/
theorem scCb : FnScope ["self", "board", "height", "before"] ["self", "board", "height"] (defScope sChange) := ⟨rfl, rfl, rfl, by decide +kernel, rfl, by decide +kernel, by decide +kernel⟩
def spChange (C : Addr) : Sp := fun vs H Q _ => ∃ (x lp : Addr) (hs : List Nat) (i t : Nat), vs = [.ref x, .int (i : Int), .int (t : Int)] ∧ LineAt C H x lp hs ∧ Post C x lp H Q (Mu50.step (some hs) (.board i t))
theorem ok_change {f z g : Addr} {fd zd gd : FuncData} {k : Nat} {tn t2 : Tok} (F : Fun K "change_board" "Line.change_board" sChange f fd) (T : Txt K C)
    (Z : FnOk P w K mg base CX0 k z zd ["number"] spSize) (bZ : Binds K zd ["number"] []) (kZ : PySem.W.keepIn K (.ref z) = true) (mZ : mg "is_size" = some (.ref z))
    (G : FnOk P w K mg base CX0 k g gd ["heights", "board"] (spHas K)) (bG : Binds K gd ["heights", "board"] []) (kG : PySem.W.keepIn K (.ref g) = true) (mG : mg "has_board" = some (.ref g))
    (mn : mg "NOT_ALLOWED" = some (.int (-1) tn)) (m2 : mg "NO_SUCH_BOARD" = some (.int (-2) t2)) : FnOk P w K mg base CX0 (k + 1) f fd ["self", "board", "height"] (spChange C) := by
  refine F.ok scCb (fun vs H Q E h => ?_) (fun cdv A outer s H vs Q E hr h => ?_)
  · obtain ⟨x, lp, hs, i, t, rfl, _⟩ := h
    rfl
  obtain ⟨x, lp, hs, i, t, rfl, hL, k⟩ := h
  refine ⟨_, pss_cons (ps_if (pt_not (pt_val (pe_call G hr rfl mG kG bG .nil pass0 (pa_cons (pe_fld (pv 0) rfl) (pa_cons (pv 1) pa_nil))))) (pss_one (ps_ret (pe_lst (pa_cons (pe_glob (v := .int (-2)) rfl m2 ⟨_, rfl⟩) pa_nil)))) pss_nil)
    (pss_cons (ps_if (pt_not (pt_val (pe_call Z hr rfl mZ kZ bZ .nil pass0 (pa_cons (pv 2) pa_nil)))) (pss_one (ps_ret (pe_lst (pa_cons (pe_glob (v := .int (-1)) rfl mn ⟨_, rfl⟩) pa_nil)))) pss_nil)
    (pss_cons (ps_set (i := 3) scCb.nd rfl (.inl rfl) (pe_ix ix_list (pe_fld (pv 0) rfl) (pv 1) (fun _ _ => rfl)))
    (pss_cons (ps_asg (pv 2) (pg_sub (pe_fld (pv 0) rfl) (pv 1) set_list))
    (pss_one (ps_ret (pe_lst (pa_cons (pv 3) pa_nil))))))), ?_⟩
  refine q_when (et_not (et_B (ev_callV (z := .bl (decide (i < hs.length))) (ea_cons (ev_heights T (ev_var rfl) hL) (ea_cons (ev_var rfl) ea_nil)) fun H1 e1 Q q => ⟨lp, hs, i, rfl, sq_of (e1 _ _ hL.lst), q⟩))) (fun hc H1 e1 => ?_) (fun hc H1 e1 => ?_)
  · rw [Bool.not_eq_true'] at hc
    have hc' := of_decide_eq_false hc
    have e0 : Mu50.step (some hs) (.board i t) = (some hs, [-2]) := if_pos (by omega)
    rw [e0] at k
    exact s_retL (el_lst (ea_cons ev_c ea_nil) (by decide)) (k.same hL e1)
  rw [Bool.not_eq_false'] at hc
  have hc' := of_decide_eq_true hc
  have e00 : Mu50.step (some hs) (.board i t) = if t = 0 ∨ Mu50.HIGH < t then (some hs, [-1]) else (some (hs.set i t), [(hs.getD i 0 : Int)]) := if_neg (by omega)
  rw [e00] at k
  refine q_when (et_not (et_B (ev_callV (z := .bl (okSize (t : Int))) (ea_cons (ev_var rfl) ea_nil) fun H2 e2 Q q => ⟨_, rfl, q⟩))) (fun hd H2 e2 => ?_) (fun hd H2 e2 => ?_)
  · rw [Bool.not_eq_true'] at hd
    have hd' : t = 0 ∨ Mu50.HIGH < t := Classical.byContradiction fun c => by
      have h8 : Mu50.HIGH = 8 := rfl
      unfold okSize at hd
      rw [decide_eq_true (by omega), decide_eq_true (by omega)] at hd
      cases hd
    rw [if_pos hd'] at k
    exact s_retL (el_lst (ea_cons ev_c ea_nil) (by decide)) (k.same hL (e1.trans e2))
  rw [Bool.not_eq_false'] at hd
  have hd' : ¬ (t = 0 ∨ Mu50.HIGH < t) := fun c => by
    have h8 : Mu50.HIGH = 8 := rfl
    unfold okSize at hd
    rw [Bool.and_eq_true, decide_eq_true_eq, decide_eq_true_eq] at hd
    omega
  rw [if_neg hd'] at k
  have hx : hs[i]? = some hs[i] := List.getElem?_eq_getElem hc'
  have hgd : hs.getD i 0 = hs[i] := by
    rw [List.getD_eq_getElem?_getD, hx]
    rfl
  have hL2 := hL.ex (e1.trans e2)
  refine q_asg (ev_op (ev_heights T (ev_var rfl) hL2) (ev_var rfl) (rv_ixL (K := K) (sq_of hL2.lst) (nv_at rfl hx))) fun H3 e3 => ?_
  have hL3 := hL2.ex e3
  refine q_setL (l := lp) (xs := nv hs) (j := i) hL3.lst (ev_var rfl) (ev_heights T (ev_var rfl) hL3) (ev_var rfl) (by rw [nv_len]; exact hc') fun H4 e4 => ?_
  rw [nv_set]
  refine s_retL (el_lst (ea_cons (ev_var rfl) ea_nil) (by show 1 ≤ 100000; decide)) fun p H5 hp e5 h5 => k.set hL (H1 := upd H4 lp (.lst (nv (hs.set i t)))) (less_set (Ex.trans less_back (((e1.trans e2).trans e3).trans e4))) upd_same p H5 hp e5 ?_
  rw [h5, hgd]
  rfl
/-! ### swap -/
theorem scSw : FnScope ["self", "board", "other", "height"] ["self", "board", "other"] (defScope sSwap) := ⟨rfl, rfl, rfl, by decide +kernel, rfl, by decide +kernel, by decide +kernel⟩
def spSwap (C : Addr) : Sp := fun vs H Q _ => ∃ (x lp : Addr) (hs : List Nat) (i j : Nat), vs = [.ref x, .int (i : Int), .int (j : Int)] ∧ LineAt C H x lp hs ∧ Post C x lp H Q (Mu50.step (some hs) (.swap i j))
theorem ok_swap {f g : Addr} {fd gd : FuncData} {k : Nat} {t2 : Tok} (F : Fun K "swap" "Line.swap" sSwap f fd) (T : Txt K C)
    (G : FnOk P w K mg base CX0 k g gd ["heights", "board"] (spHas K)) (bG : Binds K gd ["heights", "board"] []) (kG : PySem.W.keepIn K (.ref g) = true) (mG : mg "has_board" = some (.ref g))
    (m2 : mg "NO_SUCH_BOARD" = some (.int (-2) t2)) : FnOk P w K mg base CX0 (k + 1) f fd ["self", "board", "other"] (spSwap C) := by
  refine F.ok scSw (fun vs H Q E h => ?_) (fun cdv A outer s H vs Q E hr h => ?_)
  · obtain ⟨x, lp, hs, i, j, rfl, _⟩ := h
    rfl
  obtain ⟨x, lp, hs, i, j, rfl, hL, k⟩ := h
  refine ⟨_, pss_cons (ps_if (pt_not (PW.pt (pw_and (pt_val (pe_call G hr rfl mG kG bG .nil pass0 (pa_cons (pe_fld (pv 0) rfl) (pa_cons (pv 1) pa_nil)))) (pw_and1 (pt_val (pe_call G hr rfl mG kG bG .nil pass0 (pa_cons (pe_fld (pv 0) rfl) (pa_cons (pv 2) pa_nil)))))))) (pss_one (ps_ret (pe_lst (pa_cons (pe_glob (v := .int (-2)) rfl m2 ⟨_, rfl⟩) pa_nil)))) pss_nil)
    (pss_cons (ps_set (i := 3) scSw.nd rfl (.inl rfl) (pe_ix ix_list (pe_fld (pv 0) rfl) (pv 1) (fun _ _ => rfl)))
    (pss_cons (ps_asg (pe_ix ix_list (pe_fld (pv 0) rfl) (pv 2) (fun _ _ => rfl)) (pg_sub (pe_fld (pv 0) rfl) (pv 1) set_list))
    (pss_cons (ps_asg (pv 3) (pg_sub (pe_fld (pv 0) rfl) (pv 2) set_list))
    (pss_one (ps_ret (pe_lst (pa_cons pe_int pa_nil))))))), ?_⟩
  refine q_when (et_not (et_and (et_B (ev_callV (z := .bl (decide (i < hs.length))) (ea_cons (ev_heights T (ev_var rfl) hL) (ea_cons (ev_var rfl) ea_nil)) fun H1 e1 Q q => ⟨lp, hs, i, rfl, sq_of (e1 _ _ hL.lst), q⟩)) fun _ => et_B (ev_callV (z := .bl (decide (j < hs.length))) (ea_cons (ev_heights T (ev_var rfl) hL) (ea_cons (ev_var rfl) ea_nil)) fun H1 e1 Q q => ⟨lp, hs, j, rfl, sq_of (e1 _ _ hL.lst), q⟩))) (fun hc H1 e1 => ?_) (fun hc H1 e1 => ?_)
  · rw [Bool.not_eq_true', Bool.and_eq_false_iff] at hc
    have hc' : hs.length ≤ i ∨ hs.length ≤ j := by
      rcases hc with c | c
      · have := of_decide_eq_false c
        omega
      · have := of_decide_eq_false c
        omega
    have e0 : Mu50.step (some hs) (.swap i j) = (some hs, [-2]) := if_pos hc'
    rw [e0] at k
    exact s_retL (el_lst (ea_cons ev_c ea_nil) (by decide)) (k.same hL e1)
  rw [Bool.not_eq_false', Bool.and_eq_true, decide_eq_true_eq, decide_eq_true_eq] at hc
  obtain ⟨hi, hj⟩ := hc
  have e0 : Mu50.step (some hs) (.swap i j) = (some ((hs.set i (hs.getD j 0)).set j (hs.getD i 0)), [0]) := if_neg (by omega)
  rw [e0] at k
  have hx : hs[i]? = some (hs.getD i 0) := by
    rw [List.getD_eq_getElem?_getD, List.getElem?_eq_getElem hi]
    rfl
  have hy : hs[j]? = some (hs.getD j 0) := by
    rw [List.getD_eq_getElem?_getD, List.getElem?_eq_getElem hj]
    rfl
  have hL1 := hL.ex e1
  refine q_asg (ev_op (ev_heights T (ev_var rfl) hL1) (ev_var rfl) (rv_ixL (K := K) (sq_of hL1.lst) (nv_at rfl hx))) fun H2 e2 => ?_
  have hL2 := hL1.ex e2
  refine q_setL (l := lp) (xs := nv hs) (j := i) hL2.lst (ev_op (ev_heights T (ev_var rfl) hL2) (ev_var rfl) (rv_ixL (K := K) (sq_of hL2.lst) (nv_at rfl hy))) (ev_heights T (ev_var rfl) hL2) (ev_var rfl) (by rw [nv_len]; exact hi) fun H3 e3 => ?_
  rw [nv_set]
  have hL3 : LineAt C (upd H3 lp (.lst (nv (hs.set i (hs.getD j 0))))) x lp (hs.set i (hs.getD j 0)) := (hL2.ex e3).set
  refine q_setL (l := lp) (xs := nv (hs.set i (hs.getD j 0))) (j := j) hL3.lst (ev_var rfl) (ev_heights T (ev_var rfl) hL3) (ev_var rfl) (by rw [nv_len, List.length_set]; exact hj) fun H4 e4 => ?_
  rw [nv_set]
  exact s_retL (el_lst (ea_cons ev_c ea_nil) (by show 1 ≤ 100000; decide)) (k.set hL (less_set (Ex.trans (less_set (Ex.trans less_back ((e1.trans e2).trans e3))) e4)) upd_same)
/-! ### hang -/
theorem scHg : FnScope ["self", "width", "height", "told"] ["self", "width", "height"] (defScope sHang) := ⟨rfl, rfl, rfl, by decide +kernel, rfl, by decide +kernel, by decide +kernel⟩
def spHang (C : Addr) : Sp := fun vs H Q _ => ∃ (x lp : Addr) (hs : List Nat) (w t : Nat), vs = [.ref x, .int (w : Int), .int (t : Int)] ∧ LineAt C H x lp hs ∧ GoodF hs ∧ Post C x lp H Q (Mu50.step (some hs) (.hang w t))
theorem ok_hang {f g z : Addr} {fd gd zd : FuncData} {k : Nat} (F : Fun K "hang" "Line.hang" sHang f fd) (T : Txt K C)
    (G : FnOk P w K mg base CX0 k g gd ["heights", "width", "height"] (spRaising K)) (bG : Binds K gd ["heights", "width", "height"] []) (kG : PySem.W.keepIn K (.ref g) = true) (mG : mg "raising" = some (.ref g))
    (Z : FnOk P w K mg base CX0 k z zd ["heights", "board", "width", "height"] (spLift K)) (bZ : Binds K zd ["heights", "board", "width", "height"] []) (kZ : PySem.W.keepIn K (.ref z) = true) (mZ : mg "raised" = some (.ref z)) : FnOk P w K mg base CX0 (k + 1) f fd ["self", "width", "height"] (spHang C) := by
  refine F.ok scHg (fun vs H Q E h => ?_) (fun cdv A outer s H vs Q E hr h => ?_)
  · obtain ⟨x, lp, hs, w, t, rfl, _⟩ := h
    rfl
  obtain ⟨x, lp, hs, w, t, rfl, hL, hG, k⟩ := h
  refine ⟨_, pss_cons (ps_set (i := 3) scHg.nd rfl (.inl rfl) (pe_call G hr rfl mG kG bG .nil pass0 (pa_cons (pe_fld (pv 0) rfl) (pa_cons (pv 1) (pa_cons (pv 2) pa_nil)))))
    (pss_cons (ps_if (pt_cmpR op_lt (pe_ix ix_list (pv 3) pe_int (fun _ _ => rfl)) pe_int (nomark _)) (pss_one (ps_ret (pv 3))) pss_nil)
    (pss_cons (ps_fld (pv 0) (pe_call Z hr rfl mZ kZ bZ .nil pass0 (pa_cons (pe_fld (pv 0) rfl) (pa_cons (pe_ix ix_list (pv 3) pe_int (fun _ _ => rfl)) (pa_cons (pv 1) (pa_cons (pv 2) pa_nil))))) rfl)
    (pss_one (ps_ret (pe_lst (pa_cons (pe_ix ix_list (pv 3) pe_int (fun _ _ => rfl)) pa_nil)))))), ?_⟩
  refine q_asgL (el_callL (xs := (aRaise hs w t).map V.int) (ea_cons (ev_heights T (ev_var rfl) hL) (ea_cons (ev_var rfl) (ea_cons (ev_var rfl) ea_nil))) fun H1 e1 Q q => ⟨lp, hs, w, t, rfl, hts_of hG (hL.ex e1), q⟩) fun p H1 hp e1 h1 => ?_
  cases hz : Mu50.isSize w t with
  | false =>
    have e0 : Mu50.step (some hs) (.hang w t) = (some hs, [-1]) := if_pos hz
    have e9 : aRaise hs w t = [-1] := if_pos hz
    rw [e0] at k
    rw [e9] at h1
    refine q_when (b := true) (et_test (ev_op (ev_op (ev_var rfl) ev_c (rv_ixL (K := K) (sq_of h1) (atI_nat (j := 0) rfl))) ev_c rv_I0)) (fun _ H2 e2 => ?_) (fun h => by cases h)
    exact s_ret (ev_var rfl) (k.ret hL (e1.trans e2) hp (e2 _ _ h1))
  | true =>
    have e00 : Mu50.step (some hs) (.hang w t) = (match Mu50.leastRaised hs w t with
      | none => (some hs, [-6])
      | some x => (some (Mu50.lifted hs x.2 w t), [(x.1 : Int)])) := if_neg (by rw [hz]; decide)
    have e90 : aRaise hs w t = (match Mu50.leastRaised hs w t with
      | none => [-6]
      | some x => Mu50.nums [x.1, x.2]) := if_neg (by rw [hz]; decide)
    rw [e00] at k
    rw [e90] at h1
    cases hr : Mu50.leastRaised hs w t with
    | none =>
      rw [hr] at k h1
      refine q_when (b := true) (et_test (ev_op (ev_op (ev_var rfl) ev_c (rv_ixL (K := K) (sq_of h1) (atI_nat (j := 0) rfl))) ev_c rv_I0)) (fun _ H2 e2 => ?_) (fun h => by cases h)
      exact s_ret (ev_var rfl) (k.ret hL (e1.trans e2) hp (e2 _ _ h1))
    | some y =>
      rw [hr] at k h1
      refine q_when (et_test (ev_op (ev_op (ev_var rfl) ev_c (rv_ixL (K := K) (sq_of h1) (atI_nat (j := 0) rfl))) ev_c rv_I0)) (fun hc H2 e2 => ?_) (fun hc H2 e2 => ?_)
      · have : (y.1 : Int) < 0 := of_decide_eq_true hc
        omega
      have hL2 := hL.ex (e1.trans e2)
      have h2 := e2 _ _ h1
      have hcall : EvL (tCall (spLift K) [] E0 (tCons (tFld K (tVar 0) "heights") (tCons (tOp (rIxL K) (tVar 3) (tC (.int 1))) (tCons (tVar 1) (tCons (tVar 2) tNil))))) [some (.ref x), some (.int (w : Int)), some (.int (t : Int)), some (.ref p)] H2 (nv (Mu50.lifted hs y.2 w t)) :=
        el_callL (vs := [.ref lp, .int (y.2 : Int), .int (w : Int), .int (t : Int)]) (ea_cons (ev_heights T (ev_var rfl) hL2) (ea_cons (ev_op (ev_var rfl) ev_c (rv_ixL (K := K) (sq_of h2) (atI_nat (j := 1) rfl))) (ea_cons (ev_var rfl) (ea_cons (ev_var rfl) ea_nil)))) fun H3 e3 Q q => ⟨lp, hs, y.2, w, t, rfl, sq_of (e3 _ _ hL2.lst), hG.len, q⟩
      refine hcall H2 (Ex.refl _) _ fun l H3 hl e3 h3 => ?_
      obtain ⟨dx, hx⟩ := (hL2.ex e3).ins
      refine ⟨_, rfl, x, C, dx, _, rfl, hx, T.cl, T.nH, (by show 1 < 1000; decide), ?_⟩
      rw [putH]
      have hxl : l ≠ x := (ne_of_none (hL2.ins.choose_spec) hl).symm
      have hpx : p ≠ x := fun c => by
        obtain ⟨dx0, hx0⟩ := hL.ins
        rw [c, hx0] at hp
        cases hp
      have h4 : (upd H3 x (.ins C dx [("heights", .ref l)])) p = some (.lst ((Mu50.nums [y.1, y.2]).map V.int)) := by
        rw [upd_ne hpx]
        exact e3 _ _ h2
      refine s_retL (σ := [some (.ref x), some (.int (w : Int)), some (.int (t : Int)), some (.ref p)]) (el_lst (ea_cons (ev_op (ev_var rfl) ev_c (rv_ixL (K := K) (sq_of h4) (atI_nat (j := 0) rfl))) ea_nil) (by show 1 ≤ 100000; decide)) fun o H5 ho e5 h5 => ?_
      have hoH : H o = none := by
        by_cases c : o = x
        · rw [c, upd_same] at ho
          cases ho
        · rw [upd_ne c] at ho
          exact fresh_back ((e1.trans e2).trans e3) ho
      refine k o H5 l hoH ⟨⟨dx, e5 _ _ upd_same⟩, e5 _ _ ?_⟩ (fun b u hb hbx _ => e5 _ _ ?_) (.inr (fresh_back (e1.trans e2) hl)) h5
      · rw [upd_ne hxl]
        exact h3
      · rw [upd_ne hbx]
        exact ((e1.trans e2).trans e3) _ _ hb
/-! ### look -/
theorem scLk : FnScope ["self"] ["self"] (defScope sLook) := ⟨rfl, rfl, rfl, by decide +kernel, rfl, by decide +kernel, by decide +kernel⟩
def spLook (C : Addr) : Sp := fun vs H Q _ => ∃ (x lp : Addr) (hs : List Nat), vs = [.ref x] ∧ LineAt C H x lp hs ∧ hs.length ≤ 8 ∧ Post C x lp H Q (Mu50.step (some hs) .look)
theorem ok_look {f : Addr} {fd : FuncData} {k : Nat} (F : Fun K "look" "Line.look" sLook f fd) (T : Txt K C) (ml : mg "len" = none) : FnOk P w K mg base CX0 (k + 1) f fd ["self"] (spLook C) := by
  refine F.ok scLk (fun vs H Q E h => ?_) (fun cdv A outer s H vs Q E hr h => ?_)
  · obtain ⟨x, lp, hs, rfl, _⟩ := h
    rfl
  obtain ⟨x, lp, hs, rfl, hL, h8, k⟩ := h
  refine ⟨_, pss_one (ps_ret (pe_op op_cat (pe_lst (pa_cons (pe_callB call_len_seq rfl ml PySem.boot_len (pa_cons (pe_fld (pv 0) rfl) pa_nil)) pa_nil)) (pe_fld (pv 0) rfl))), ?_⟩
  have e0 : Mu50.step (some hs) .look = (some hs, Mu50.nums (hs.length :: hs)) := rfl
  rw [e0] at k
  refine s_retL (el_cat (el_lst (ea_cons (ev_len (K := K) (ev_heights T (ev_var rfl) hL) (sq_of hL.lst)) ea_nil) (by show 1 ≤ 100000; decide)) (ev_heights T (ev_var rfl) hL) hL.lst (by rw [nv_len]; show 1 + _ ≤ 100000; omega)) fun p H2 hp e2 h2 => k.same hL (Ex.refl H) p H2 hp e2 ?_
  rw [h2, nv_len]
  rfl
end
end Bf

set_option Elab.async false
set_option maxRecDepth 100000
set_option maxHeartbeats 2000000
namespace Bf
open PySem PySem.Spec PyProof.Rows L2 Evl
section
variable {P : Program} {w : World} {K : PySem.W.Frag} {mg : Str → Option Value} {base : Heap} {C : Addr}
/-! ### calls with two numbers -/
theorem scTw : FnScope ["self", "number", "first", "second"] ["self", "number", "first", "second"] (defScope sTwo) := ⟨rfl, rfl, rfl, by decide +kernel, rfl, by decide +kernel, by decide +kernel⟩
def spTwo (C : Addr) : Sp := fun vs H Q _ => ∃ (x lp : Addr) (hs : List Nat) (d : Mu50.Call) (n a b : Int), vs = [.ref x, .int n, .int a, .int b] ∧ LineAt C H x lp hs ∧ GoodF hs ∧ flat d = [[n, a, b]] ∧ Post C x lp H Q (Mu50.step (some hs) d)
theorem ok_two {f g1 g2 fC fS fH : Addr} {fd gd1 gd2 fdC fdS fdH : FuncData} {k : Nat} {t2 t3 t7 t8 : Tok} (F : Fun K "answer_two" "Line.answer_two" sTwo f fd) (T : Txt K C)
    (G1 : FnOk P w K mg base CX0 k g1 gd1 ["heights", "width", "height"] (spPlaces K)) (bG1 : Binds K gd1 ["heights", "width", "height"] []) (kG1 : PySem.W.keepIn K (.ref g1) = true) (mG1 : mg "places" = some (.ref g1))
    (G2 : FnOk P w K mg base CX0 k g2 gd2 ["heights", "width", "height"] (spRaising K)) (bG2 : Binds K gd2 ["heights", "width", "height"] []) (kG2 : PySem.W.keepIn K (.ref g2) = true) (mG2 : mg "raising" = some (.ref g2))
    (GC : FnOk P w K mg base CX0 k fC fdC ["self", "board", "height"] (spChange C)) (bC : Binds K fdC ["self", "board", "height"] []) (mC : Meth K C "change_board" fC)
    (GS : FnOk P w K mg base CX0 k fS fdS ["self", "board", "other"] (spSwap C)) (bS : Binds K fdS ["self", "board", "other"] []) (mS : Meth K C "swap" fS)
    (GH : FnOk P w K mg base CX0 k fH fdH ["self", "width", "height"] (spHang C)) (bH : Binds K fdH ["self", "width", "height"] []) (mH : Meth K C "hang" fH)
    (m2 : mg "PLACES" = some (.int 2 t2)) (m3 : mg "RAISE" = some (.int 3 t3)) (m7 : mg "BOARD" = some (.int 7 t7)) (m8 : mg "SWAP" = some (.int 8 t8)) : FnOk P w K mg base CX0 (k + 1) f fd ["self", "number", "first", "second"] (spTwo C) := by
  refine F.ok scTw (fun vs H Q E h => ?_) (fun cdv A outer s H vs Q E hr h => ?_)
  · obtain ⟨x, lp, hs, d, n, a, b, rfl, _⟩ := h
    rfl
  obtain ⟨x, lp, hs, d, n, a, b, rfl, hL, hG, hfl, k⟩ := h
  refine ⟨_, pss_cons (ps_if (pt_cmpR op_eq (pv 1) (pe_glob (v := .int 2) rfl m2 ⟨_, rfl⟩) (nomark _)) (pss_one (ps_ret (pe_call G1 hr rfl mG1 kG1 bG1 .nil pass0 (pa_cons (pe_fld (pv 0) rfl) (pa_cons (pv 2) (pa_cons (pv 3) pa_nil)))))) pss_nil)
    (pss_cons (ps_if (pt_cmpR op_eq (pv 1) (pe_glob (v := .int 3) rfl m3 ⟨_, rfl⟩) (nomark _)) (pss_one (ps_ret (pe_call G2 hr rfl mG2 kG2 bG2 .nil pass0 (pa_cons (pe_fld (pv 0) rfl) (pa_cons (pv 2) (pa_cons (pv 3) pa_nil)))))) pss_nil)
    (pss_cons (ps_if (pt_cmpR op_eq (pv 1) (pe_glob (v := .int 7) rfl m7 ⟨_, rfl⟩) (nomark _)) (pss_one (ps_ret (pe_meth (pv 0) T.cl mC GC hr bC .nil pass0 (pa_cons (pv 2) (pa_cons (pv 3) pa_nil))))) pss_nil)
    (pss_cons (ps_if (pt_cmpR op_eq (pv 1) (pe_glob (v := .int 8) rfl m8 ⟨_, rfl⟩) (nomark _)) (pss_one (ps_ret (pe_meth (pv 0) T.cl mS GS hr bS .nil pass0 (pa_cons (pv 2) (pa_cons (pv 3) pa_nil))))) pss_nil)
    (pss_one (ps_ret (pe_meth (pv 0) T.cl mH GH hr bH .nil pass0 (pa_cons (pv 2) (pa_cons (pv 3) pa_nil)))))))), ?_⟩
  obtain ⟨dx, hx⟩ := hL.ins
  cases d with
  | places w t =>
    cases hfl
    have e0 : Mu50.step (some hs) (.places w t) = (some hs, aPlaces hs w t) := rfl
    rw [e0] at k
    refine q_when (b := true) (et_test (ev_op (ev_var rfl) ev_c (rv_eq rfl))) (fun _ H1 e1 => ?_) (fun h => by cases h)
    have hL1 := hL.ex e1
    exact s_retL (el_callL (ea_cons (ev_heights T (ev_var rfl) hL1) (ea_cons (ev_var rfl) (ea_cons (ev_var rfl) ea_nil))) fun H2 e2 Q q => ⟨lp, hs, w, t, rfl, hts_of hG (hL1.ex e2), q⟩) (k.same hL e1)
  | raise w t =>
    cases hfl
    have e0 : Mu50.step (some hs) (.raise w t) = (some hs, aRaise hs w t) := rfl
    rw [e0] at k
    refine q_when (b := false) (et_test (ev_op (ev_var rfl) ev_c (rv_eq rfl))) (fun h => by cases h) (fun _ H1 e1 => ?_)
    refine q_when (b := true) (et_test (ev_op (ev_var rfl) ev_c (rv_eq rfl))) (fun _ H2 e2 => ?_) (fun h => by cases h)
    have hL2 := hL.ex (e1.trans e2)
    exact s_retL (el_callL (ea_cons (ev_heights T (ev_var rfl) hL2) (ea_cons (ev_var rfl) (ea_cons (ev_var rfl) ea_nil))) fun H3 e3 Q q => ⟨lp, hs, w, t, rfl, hts_of hG (hL2.ex e3), q⟩) (k.same hL (e1.trans e2))
  | board i t =>
    cases hfl
    refine q_when (b := false) (et_test (ev_op (ev_var rfl) ev_c (rv_eq rfl))) (fun h => by cases h) (fun _ H1 e1 => ?_)
    refine q_when (b := false) (et_test (ev_op (ev_var rfl) ev_c (rv_eq rfl))) (fun h => by cases h) (fun _ H2 e2 => ?_)
    refine q_when (b := true) (et_test (ev_op (ev_var rfl) ev_c (rv_eq rfl))) (fun _ H3 e3 => ?_) (fun h => by cases h)
    have e03 := (e1.trans e2).trans e3
    exact s_retM (ev_var rfl) (e03 _ _ hx) (lkNo (by decide +kernel)) (ea_cons (ev_var rfl) (ea_cons (ev_var rfl) ea_nil)) fun H4 e4 => ⟨x, lp, hs, i, t, rfl, hL.ex (e03.trans e4), k.go (e03.trans e4)⟩
  | swap i j =>
    cases hfl
    refine q_when (b := false) (et_test (ev_op (ev_var rfl) ev_c (rv_eq rfl))) (fun h => by cases h) (fun _ H1 e1 => ?_)
    refine q_when (b := false) (et_test (ev_op (ev_var rfl) ev_c (rv_eq rfl))) (fun h => by cases h) (fun _ H2 e2 => ?_)
    refine q_when (b := false) (et_test (ev_op (ev_var rfl) ev_c (rv_eq rfl))) (fun h => by cases h) (fun _ H3 e3 => ?_)
    refine q_when (b := true) (et_test (ev_op (ev_var rfl) ev_c (rv_eq rfl))) (fun _ H4 e4 => ?_) (fun h => by cases h)
    have e04 := ((e1.trans e2).trans e3).trans e4
    exact s_retM (ev_var rfl) (e04 _ _ hx) (lkNo (by decide +kernel)) (ea_cons (ev_var rfl) (ea_cons (ev_var rfl) ea_nil)) fun H5 e5 => ⟨x, lp, hs, i, j, rfl, hL.ex (e04.trans e5), k.go (e04.trans e5)⟩
  | hang w t =>
    cases hfl
    refine q_when (b := false) (et_test (ev_op (ev_var rfl) ev_c (rv_eq rfl))) (fun h => by cases h) (fun _ H1 e1 => ?_)
    refine q_when (b := false) (et_test (ev_op (ev_var rfl) ev_c (rv_eq rfl))) (fun h => by cases h) (fun _ H2 e2 => ?_)
    refine q_when (b := false) (et_test (ev_op (ev_var rfl) ev_c (rv_eq rfl))) (fun h => by cases h) (fun _ H3 e3 => ?_)
    refine q_when (b := false) (et_test (ev_op (ev_var rfl) ev_c (rv_eq rfl))) (fun h => by cases h) (fun _ H4 e4 => ?_)
    have e04 := ((e1.trans e2).trans e3).trans e4
    exact s_retM (ev_var rfl) (e04 _ _ hx) (lkNo (by decide +kernel)) (ea_cons (ev_var rfl) (ea_cons (ev_var rfl) ea_nil)) fun H5 e5 => ⟨x, lp, hs, w, t, rfl, hL.ex (e04.trans e5), hG, k.go (e04.trans e5)⟩
  | begin_ f => cases hfl
  | largest => cases hfl
  | strokes => cases hfl
  | judge l => cases hfl
  | seen s => cases hfl
  | look => cases hfl
/-! ### calls with nothing -/
theorem scNo : FnScope ["self", "number"] ["self", "number"] (defScope sNone) := ⟨rfl, rfl, rfl, by decide +kernel, rfl, by decide +kernel, by decide +kernel⟩
def spNone (C : Addr) : Sp := fun vs H Q _ => ∃ (x lp : Addr) (hs : List Nat) (d : Mu50.Call) (n : Int), vs = [.ref x, .int n] ∧ LineAt C H x lp hs ∧ GoodF hs ∧ flat d = [[n]] ∧ n ≠ 5 ∧ Post C x lp H Q (Mu50.step (some hs) d)
theorem ok_none {f g1 g2 fL : Addr} {fd gd1 gd2 fdL : FuncData} {k : Nat} {t1 t4 : Tok} (F : Fun K "answer_none" "Line.answer_none" sNone f fd) (T : Txt K C)
    (G1 : FnOk P w K mg base CX0 k g1 gd1 ["heights"] (spLargest K)) (bG1 : Binds K gd1 ["heights"] []) (kG1 : PySem.W.keepIn K (.ref g1) = true) (mG1 : mg "largest_poster" = some (.ref g1))
    (G2 : FnOk P w K mg base CX0 k g2 gd2 ["heights"] (spStrokes K)) (bG2 : Binds K gd2 ["heights"] []) (kG2 : PySem.W.keepIn K (.ref g2) = true) (mG2 : mg "strokes" = some (.ref g2))
    (GL : FnOk P w K mg base CX0 k fL fdL ["self"] (spLook C)) (bL : Binds K fdL ["self"] []) (mL : Meth K C "look" fL)
    (m1 : mg "LARGEST" = some (.int 1 t1)) (m4 : mg "STROKES" = some (.int 4 t4)) : FnOk P w K mg base CX0 (k + 1) f fd ["self", "number"] (spNone C) := by
  refine F.ok scNo (fun vs H Q E h => ?_) (fun cdv A outer s H vs Q E hr h => ?_)
  · obtain ⟨x, lp, hs, d, n, rfl, _⟩ := h
    rfl
  obtain ⟨x, lp, hs, d, n, rfl, hL, hG, hfl, h5, k⟩ := h
  refine ⟨_, pss_cons (ps_if (pt_cmpR op_eq (pv 1) (pe_glob (v := .int 1) rfl m1 ⟨_, rfl⟩) (nomark _)) (pss_one (ps_ret (pe_call G1 hr rfl mG1 kG1 bG1 .nil pass0 (pa_cons (pe_fld (pv 0) rfl) pa_nil)))) pss_nil)
    (pss_cons (ps_if (pt_cmpR op_eq (pv 1) (pe_glob (v := .int 4) rfl m4 ⟨_, rfl⟩) (nomark _)) (pss_one (ps_ret (pe_call G2 hr rfl mG2 kG2 bG2 .nil pass0 (pa_cons (pe_fld (pv 0) rfl) pa_nil)))) pss_nil)
    (pss_one (ps_ret (pe_meth0 (pv 0) T.cl mL GL hr bL .nil pass0)))), ?_⟩
  obtain ⟨dx, hx⟩ := hL.ins
  cases d with
  | largest =>
    cases hfl
    have e0 : Mu50.step (some hs) .largest = (some hs, Mu50.nums [(lgUp hs hs.length).1, (lgUp hs hs.length).2.1, (lgUp hs hs.length).2.2]) := by
      unfold Mu50.step
      dsimp only
      rw [largest_eq hs hG.ne hG.pos]
    rw [e0] at k
    refine q_when (b := true) (et_test (ev_op (ev_var rfl) ev_c (rv_eq rfl))) (fun _ H1 e1 => ?_) (fun h => by cases h)
    have hL1 := hL.ex e1
    exact s_retL (el_callL (ea_cons (ev_heights T (ev_var rfl) hL1) ea_nil) fun H2 e2 Q q => ⟨lp, hs, rfl, hts_of hG (hL1.ex e2), q⟩) (k.same hL e1)
  | strokes =>
    cases hfl
    have e0 : Mu50.step (some hs) .strokes = (some hs, aStrokes hs) := rfl
    rw [e0] at k
    refine q_when (b := false) (et_test (ev_op (ev_var rfl) ev_c (rv_eq rfl))) (fun h => by cases h) (fun _ H1 e1 => ?_)
    refine q_when (b := true) (et_test (ev_op (ev_var rfl) ev_c (rv_eq rfl))) (fun _ H2 e2 => ?_) (fun h => by cases h)
    have hL2 := hL.ex (e1.trans e2)
    exact s_retL (el_callL (ea_cons (ev_heights T (ev_var rfl) hL2) ea_nil) fun H3 e3 Q q => ⟨lp, hs, rfl, hts_of hG (hL2.ex e3), q⟩) (k.same hL (e1.trans e2))
  | look =>
    cases hfl
    refine q_when (b := false) (et_test (ev_op (ev_var rfl) ev_c (rv_eq rfl))) (fun h => by cases h) (fun _ H1 e1 => ?_)
    refine q_when (b := false) (et_test (ev_op (ev_var rfl) ev_c (rv_eq rfl))) (fun h => by cases h) (fun _ H2 e2 => ?_)
    have e02 := e1.trans e2
    exact s_retM (ev_var rfl) (e02 _ _ hx) (lkNo (by decide +kernel)) ea_nil fun H3 e3 => ⟨x, lp, hs, rfl, hL.ex (e02.trans e3), hG.len, k.go (e02.trans e3)⟩
  | judge l =>
    cases l with
    | nil => 
      cases hfl
      exact absurd rfl h5
    | cons r l => cases hfl
  | begin_ f => cases hfl
  | places w t => cases hfl
  | raise w t => cases hfl
  | seen s => cases hfl
  | board i t => cases hfl
  | swap i j => cases hfl
  | hang w t => cases hfl
end
end Bf

set_option Elab.async false
set_option maxRecDepth 100000
set_option maxHeartbeats 2000000
namespace Bf
open PySem PySem.Spec PyProof.Rows L2 Evl
theorem step_none {d : Mu50.Call} (h : ∀ f, d ≠ .begin_ f) : Mu50.step none d = (none, [-9]) := by
  cases d with
  | begin_ f => exact absurd rfl (h f)
  | _ => rfl
/-- what a call other than begin has -/
theorem flat_kinds {d : Mu50.Call} {n : Int} {ns : List Int} {rows : List (List Int)} (h : flat d = (n :: ns) :: rows) (hb : ∀ f, d ≠ .begin_ f) :
    n ≠ 0 ∧ ((∃ l, d = .judge l ∧ n = 5 ∧ rows = l.map Mu50.nums) ∨ (n ≠ 5 ∧ ∃ a b, ns = [a, b] ∧ rows = []) ∨ (∃ e : Nat, d = .seen e ∧ n = 6 ∧ ns = [(e : Int)]) ∨ (n ≠ 5 ∧ n ≠ 6 ∧ ns = [] ∧ rows = [])) := by
  cases d with
  | begin_ f => exact absurd rfl (hb f)
  | judge l =>
    cases h
    exact ⟨by decide, .inl ⟨l, rfl, rfl, rfl⟩⟩
  | seen e =>
    cases h
    exact ⟨by decide, .inr (.inr (.inl ⟨e, rfl, rfl, rfl⟩))⟩
  | largest =>
    cases h
    exact ⟨by decide, .inr (.inr (.inr ⟨by decide, by decide, rfl, rfl⟩))⟩
  | strokes =>
    cases h
    exact ⟨by decide, .inr (.inr (.inr ⟨by decide, by decide, rfl, rfl⟩))⟩
  | look =>
    cases h
    exact ⟨by decide, .inr (.inr (.inr ⟨by decide, by decide, rfl, rfl⟩))⟩
  | places w t =>
    cases h
    exact ⟨by decide, .inr (.inl ⟨by decide, _, _, rfl, rfl⟩)⟩
  | raise w t =>
    cases h
    exact ⟨by decide, .inr (.inl ⟨by decide, _, _, rfl, rfl⟩)⟩
  | board i x =>
    cases h
    exact ⟨by decide, .inr (.inl ⟨by decide, _, _, rfl, rfl⟩)⟩
  | swap i j =>
    cases h
    exact ⟨by decide, .inr (.inl ⟨by decide, _, _, rfl, rfl⟩)⟩
  | hang w t =>
    cases h
    exact ⟨by decide, .inr (.inl ⟨by decide, _, _, rfl, rfl⟩)⟩
theorem int_not {n m : Int} (h : n ≠ m) : decide (V.int n = V.int m) = false := decide_eq_false fun c => h (V.int.inj c)
section
variable {P : Program} {w : World} {K : PySem.W.Frag} {mg : Str → Option Value} {base : Heap} {C : Addr}
theorem scAn : FnScope ["self", "number", "numbers", "lists"] ["self", "number", "numbers", "lists"] (defScope sAnswer) := ⟨rfl, rfl, rfl, by decide +kernel, rfl, by decide +kernel, by decide +kernel⟩
theorem ok_answer {f fB fT fN gJ gS : Addr} {fd fdB fdT fdN gdJ gdS : FuncData} {k : Nat} {t0 t5 t6 t9 : Tok} (F : Fun K "answer" "Line.answer" sAnswer f fd) (T : Txt K C)
    (GB : FnOk P w K mg base CX0 k fB fdB ["self", "heights"] (spBegin C)) (bB : Binds K fdB ["self", "heights"] []) (mB : Meth K C "begin" fB)
    (GT : FnOk P w K mg base CX0 k fT fdT ["self", "number", "first", "second"] (spTwo C)) (bT : Binds K fdT ["self", "number", "first", "second"] []) (mT : Meth K C "answer_two" fT)
    (GN : FnOk P w K mg base CX0 k fN fdN ["self", "number"] (spNone C)) (bN : Binds K fdN ["self", "number"] []) (mN : Meth K C "answer_none" fN)
    (GJ : FnOk P w K mg base CX0 k gJ gdJ ["heights", "handed"] (spJudge K)) (bJ : Binds K gdJ ["heights", "handed"] []) (kJ : PySem.W.keepIn K (.ref gJ) = true) (mJ : mg "judge" = some (.ref gJ))
    (GS : FnOk P w K mg base CX0 k gS gdS ["heights", "end"] (spSeen K)) (bS : Binds K gdS ["heights", "end"] []) (kS : PySem.W.keepIn K (.ref gS) = true) (mS : mg "seen" = some (.ref gS))
    (m0 : mg "BEGIN" = some (.int 0 t0)) (m9 : mg "NO_FENCE" = some (.int (-9) t9)) (m5 : mg "JUDGE" = some (.int 5 t5)) (m6 : mg "SEEN" = some (.int 6 t6)) (ml : mg "len" = none) : FnOk P w K mg base CX0 (k + 1) f fd ["self", "number", "numbers", "lists"] (spAnswer C) := by
  refine F.ok scAn (fun vs H Q E h => ?_) (fun cdv A outer s H vs Q E hr h => ?_)
  · obtain ⟨x, q, r, lp, s, d, n, ns, rows, bs, rfl, _⟩ := h
    rfl
  obtain ⟨x, q, r, lp, s, d, n, ns, rows, bs, rfl, hL, hgood, hfl, hsm, hq, hr1, hqlp, k⟩ := h
  refine ⟨_, pss_cons (ps_if (pt_cmpR op_eq (pv 1) (pe_glob (v := .int 0) rfl m0 ⟨_, rfl⟩) (nomark _)) (pss_one (ps_ret (pe_meth (pv 0) T.cl mB GB hr bB .nil pass0 (pa_cons (pe_ix ix_list (pv 3) pe_int (fun _ _ => rfl)) pa_nil)))) pss_nil)
    (pss_cons (ps_if (pt_cmpR op_eq (pe_callB call_len_seq rfl ml PySem.boot_len (pa_cons (pe_fld (pv 0) rfl) pa_nil)) pe_int (nomark _)) (pss_one (ps_ret (pe_lst (pa_cons (pe_glob (v := .int (-9)) rfl m9 ⟨_, rfl⟩) pa_nil)))) pss_nil)
    (pss_cons (ps_if (pt_cmpR op_eq (pv 1) (pe_glob (v := .int 5) rfl m5 ⟨_, rfl⟩) (nomark _)) (pss_one (ps_ret (pe_call GJ hr rfl mJ kJ bJ .nil pass0 (pa_cons (pe_fld (pv 0) rfl) (pa_cons (pv 3) pa_nil))))) pss_nil)
    (pss_cons (ps_if (pt_cmpR op_eq (pe_callB call_len_seq rfl ml PySem.boot_len (pa_cons (pv 2) pa_nil)) pe_int (nomark _)) (pss_one (ps_ret (pe_meth (pv 0) T.cl mT GT hr bT .nil pass0 (pa_cons (pv 1) (pa_cons (pe_ix ix_list (pv 2) pe_int (fun _ _ => rfl)) (pa_cons (pe_ix ix_list (pv 2) pe_int (fun _ _ => rfl)) pa_nil)))))) pss_nil)
    (pss_cons (ps_if (pt_cmpR op_eq (pv 1) (pe_glob (v := .int 6) rfl m6 ⟨_, rfl⟩) (nomark _)) (pss_one (ps_ret (pe_call GS hr rfl mS kS bS .nil pass0 (pa_cons (pe_fld (pv 0) rfl) (pa_cons (pe_ix ix_list (pv 2) pe_int (fun _ _ => rfl)) pa_nil))))) pss_nil)
    (pss_one (ps_ret (pe_meth (pv 0) T.cl mN GN hr bN .nil pass0 (pa_cons (pv 1) pa_nil)))))))), ?_⟩
  obtain ⟨dx, hx⟩ := hL.ins
  by_cases hb : ∃ f, d = .begin_ f
  · obtain ⟨f, rfl⟩ := hb
    cases hfl
    refine q_when (b := true) (et_test (ev_op (ev_var rfl) ev_c (rv_eq rfl))) (fun _ H1 e1 => ?_) (fun h => by cases h)
    have hr2 := hr1.exRow e1
    obtain ⟨u, hu1, hu2⟩ := hr2.get (j := 0) (x := Mu50.nums f) rfl
    have hu3 : H1 u = some (.lst (nv f)) := (less_some hu2).2
    have hf : f.length ≤ 1000 := Nat.le_trans hsm.1 (by decide)
    exact s_retM (ev_var rfl) (e1 _ _ hx) (lkNo (by decide +kernel)) (ea_cons (ev_op (ev_var rfl) ev_c (rv_ixL (K := K) (sq_of hr2.lst) (atI_nat (j := 0) hu1))) ea_nil) fun H2 e2 => ⟨x, u, lp, s, f, rfl, hL.ex (e1.trans e2), e2 _ _ hu3, hf, k.go (e1.trans e2)⟩
  have hb' : ∀ f, d ≠ .begin_ f := fun f c => hb ⟨f, c⟩
  obtain ⟨hn0, hkind⟩ := flat_kinds hfl hb'
  refine q_when (b := false) (et_is (et_test (ev_op (ev_var rfl) ev_c (rv_eq rfl))) (int_not hn0)) (fun h => by cases h) (fun _ H1 e1 => ?_)
  have hL1 := hL.ex e1
  cases s with
  | none =>
    rw [step_none hb'] at k
    refine q_when (b := true) (et_test (ev_op (ev_len (K := K) (ev_heights T (ev_var rfl) hL1) (sq_of hL1.lst)) ev_c (rv_eq rfl))) (fun _ H2 e2 => ?_) (fun h => by cases h)
    exact s_retL (el_lst (ea_cons ev_c ea_nil) (by decide)) (k.same hL (e1.trans e2))
  | some hs =>
    have hG := hgood hs rfl
    have hL' : LineAt C H x lp hs := hL
    have hL1' : LineAt C H1 x lp hs := hL1
    have hlen : 1 ≤ hs.length := List.length_pos_iff.mpr hG.ne
    refine q_when (b := false) (et_is (et_test (ev_op (ev_len (K := K) (ev_heights T (ev_var rfl) hL1') (sq_of hL1'.lst)) ev_c (rv_eq rfl))) (int_not (by rw [nv_len]; omega))) (fun h => by cases h) (fun _ H2 e2 => ?_)
    have e02 := e1.trans e2
    have hL2 := hL'.ex e02
    rcases hkind with ⟨l, rfl, rfl, rfl⟩ | ⟨hn5, a, b, rfl, rfl⟩ | ⟨e, rfl, rfl, rfl⟩ | ⟨hn5, hn6, rfl, rfl⟩
    · have e0 : Mu50.step (some hs) (.judge l) = (some hs, aJudge hs l) := rfl
      rw [e0] at k
      refine q_when (b := true) (et_test (ev_op (ev_var rfl) ev_c (rv_eq rfl))) (fun _ H3 e3 => ?_) (fun h => by cases h)
      have hL3 := hL2.ex e3
      have e03 := e02.trans e3
      exact s_retL (el_callL (ea_cons (ev_heights T (ev_var rfl) hL3) (ea_cons (ev_var rfl) ea_nil)) fun H4 e4 Q q => ⟨lp, r, hs, bs, l, rfl, hts_of hG (hL3.ex e4), hr1.exRow (e03.trans e4), hsm.1, q⟩) (k.same hL e03)
    · refine q_when (b := false) (et_is (et_test (ev_op (ev_var rfl) ev_c (rv_eq rfl))) (int_not hn5)) (fun h => by cases h) (fun _ H3 e3 => ?_)
      have e03 := e02.trans e3
      refine q_when (b := true) (et_test (ev_op (ev_len (K := K) (ev_var rfl) (sq_of (e03 _ _ hq))) ev_c (rv_eq rfl))) (fun _ H4 e4 => ?_) (fun h => by cases h)
      have e04 := e03.trans e4
      have hq4 := e04 _ _ hq
      exact s_retM (ev_var rfl) (e04 _ _ hx) (lkNo (by decide +kernel)) (ea_cons (ev_var rfl) (ea_cons (ev_op (ev_var rfl) ev_c (rv_ixL (K := K) (sq_of hq4) (atI_nat (j := 0) rfl))) (ea_cons (ev_op (ev_var rfl) ev_c (rv_ixL (K := K) (sq_of hq4) (atI_nat (j := 1) rfl))) ea_nil))) fun H5 e5 => ⟨x, lp, hs, d, n, a, b, rfl, hL'.ex (e04.trans e5), hG, hfl, k.go (e04.trans e5)⟩
    · have e0 : Mu50.step (some hs) (.seen e) = (some hs, aSeen hs e) := rfl
      rw [e0] at k
      refine q_when (b := false) (et_test (ev_op (ev_var rfl) ev_c (rv_eq rfl))) (fun h => by cases h) (fun _ H3 e3 => ?_)
      have e03 := e02.trans e3
      refine q_when (b := false) (et_test (ev_op (ev_len (K := K) (ev_var rfl) (sq_of (e03 _ _ hq))) ev_c (rv_eq rfl))) (fun h => by cases h) (fun _ H4 e4 => ?_)
      refine q_when (b := true) (et_test (ev_op (ev_var rfl) ev_c (rv_eq rfl))) (fun _ H5 e5 => ?_) (fun h => by cases h)
      have e05 := (e03.trans e4).trans e5
      have hL5 := hL'.ex e05
      exact s_retL (el_callL (ea_cons (ev_heights T (ev_var rfl) hL5) (ea_cons (ev_op (ev_var rfl) ev_c (rv_ixL (K := K) (sq_of (e05 _ _ hq)) (atI_nat (j := 0) rfl))) ea_nil)) fun H6 e6 Q q => ⟨lp, hs, e, rfl, sq_of (e6 _ _ hL5.lst), hlen, hG.len, q⟩) (k.same hL e05)
    · refine q_when (b := false) (et_is (et_test (ev_op (ev_var rfl) ev_c (rv_eq rfl))) (int_not hn5)) (fun h => by cases h) (fun _ H3 e3 => ?_)
      have e03 := e02.trans e3
      refine q_when (b := false) (et_test (ev_op (ev_len (K := K) (ev_var rfl) (sq_of (e03 _ _ hq))) ev_c (rv_eq rfl))) (fun h => by cases h) (fun _ H4 e4 => ?_)
      refine q_when (b := false) (et_is (et_test (ev_op (ev_var rfl) ev_c (rv_eq rfl))) (int_not hn6)) (fun h => by cases h) (fun _ H5 e5 => ?_)
      have e05 := (e03.trans e4).trans e5
      exact s_retM (ev_var rfl) (e05 _ _ hx) (lkNo (by decide +kernel)) (ea_cons (ev_var rfl) ea_nil) fun H6 e6 => ⟨x, lp, hs, d, n, rfl, hL'.ex (e05.trans e6), hG, hfl, hn5, k.go (e05.trans e6)⟩
end
end Bf

set_option Elab.async false
set_option maxRecDepth 100000
set_option maxHeartbeats 2000000
namespace Bf
open PySem PySem.Spec PyProof.Rows L2 Evl
theorem all_mk {P : Program} {w : World} {K : PySem.W.Frag} {h : Heap} {mg : Str → Option Value} {fa C f0 f1 f2 f3 f4 f5 f6 f7 f8 f9 f10 f11 f12 f13 f14 f15 f16 f17 f18 f19 f20 f21 f22 f23 f24 f25 f26 f27 f28 f29 f30 f31 f32 : Addr} (X : K.In h) (G : h.Ns mainGlobals mg) (hfa : mg "answers" = some (.ref fa))
    {od0 an0 od1 an1 od2 an2 od3 an3 od4 an4 od5 an5 od6 an6 od7 an7 od8 an8 od9 an9 od10 an10 od11 an11 od12 an12 od13 an13 od14 an14 od15 an15 od16 an16 od17 an17 od18 an18 od19 an19 od20 an20 od21 an21 od22 an22 od23 an23 od24 an24 od25 an25 od26 an26 od27 an27 od28 an28 od29 an29 od30 an30 od31 an31 od32 an32 : Option Addr} {sl0 sl1 sl2 sl3 sl4 sl5 sl6 sl7 sl8 sl9 sl10 sl11 sl12 sl13 sl14 sl15 sl16 sl17 sl18 sl19 sl20 sl21 sl22 sl23 sl24 sl25 sl26 sl27 sl28 sl29 sl30 sl31 sl32 : Array (Option Value)} {oc0 kV0 dc0 pm0 cd0 ct0 oc1 kV1 dc1 pm1 cd1 ct1 oc2 kV2 dc2 pm2 cd2 ct2 oc3 kV3 dc3 pm3 cd3 ct3 oc4 kV4 dc4 pm4 cd4 ct4 oc5 kV5 dc5 pm5 cd5 ct5 oc6 kV6 dc6 pm6 cd6 ct6 oc7 kV7 dc7 pm7 cd7 ct7 oc8 kV8 dc8 pm8 cd8 ct8 oc9 kV9 dc9 pm9 cd9 ct9 oc10 kV10 dc10 pm10 cd10 ct10 oc11 kV11 dc11 pm11 cd11 ct11 oc12 kV12 dc12 pm12 cd12 ct12 oc13 kV13 dc13 pm13 cd13 ct13 oc14 kV14 dc14 pm14 cd14 ct14 oc15 kV15 dc15 pm15 cd15 ct15 oc16 kV16 dc16 pm16 cd16 ct16 oc17 kV17 dc17 pm17 cd17 ct17 oc18 kV18 dc18 pm18 cd18 ct18 oc19 kV19 dc19 pm19 cd19 ct19 oc20 kV20 dc20 pm20 cd20 ct20 oc21 kV21 dc21 pm21 cd21 ct21 oc22 kV22 dc22 pm22 cd22 ct22 oc23 kV23 dc23 pm23 cd23 ct23 oc24 kV24 dc24 pm24 cd24 ct24 oc25 kV25 dc25 pm25 cd25 ct25 oc26 kV26 dc26 pm26 cd26 ct26 oc27 kV27 dc27 pm27 cd27 ct27 oc28 kV28 dc28 pm28 cd28 ct28 oc29 kV29 dc29 pm29 cd29 ct29 oc30 kV30 dc30 pm30 cd30 ct30 oc31 kV31 dc31 pm31 cd31 ct31 oc32 kV32 dc32 pm32 cd32 ct32 : Value} {t0 t1 t2 t3 t4 t5 t6 t7 t8 t9 t10 t11 t12 t13 t14 t15 t16 t17 t18 : Tok}
    (aC : PySem.W.nsIn K mainGlobals "Line" = some (some (.ref C)))
    (a0 : PySem.W.nsIn K mainGlobals "largest_poster" = some (some (.ref f0)))
    (l0 : K.lookup f0 = some ⟨oc0, od0, .func (PySem.W.fnOf "largest_poster" "largest_poster" (defArgs sLargest) (defBody sLargest) (defScope sLargest) .none kV0 dc0 pm0 an0 cd0 ct0), sl0⟩) (c0 : PySem.W.codeIn K cd0 "largest_poster" = true) (k0 : PySem.W.keepIn K (.ref f0) = true)
    (a1 : PySem.W.nsIn K mainGlobals "fitting_places" = some (some (.ref f1)))
    (l1 : K.lookup f1 = some ⟨oc1, od1, .func (PySem.W.fnOf "fitting_places" "fitting_places" (defArgs sFitting) (defBody sFitting) (defScope sFitting) .none kV1 dc1 pm1 an1 cd1 ct1), sl1⟩) (c1 : PySem.W.codeIn K cd1 "fitting_places" = true) (k1 : PySem.W.keepIn K (.ref f1) = true)
    (a2 : PySem.W.nsIn K mainGlobals "missing_cells" = some (some (.ref f2)))
    (l2 : K.lookup f2 = some ⟨oc2, od2, .func (PySem.W.fnOf "missing_cells" "missing_cells" (defArgs sMissing) (defBody sMissing) (defScope sMissing) .none kV2 dc2 pm2 an2 cd2 ct2), sl2⟩) (c2 : PySem.W.codeIn K cd2 "missing_cells" = true) (k2 : PySem.W.keepIn K (.ref f2) = true)
    (a3 : PySem.W.nsIn K mainGlobals "least_raise" = some (some (.ref f3)))
    (l3 : K.lookup f3 = some ⟨oc3, od3, .func (PySem.W.fnOf "least_raise" "least_raise" (defArgs sLeast) (defBody sLeast) (defScope sLeast) .none kV3 dc3 pm3 an3 cd3 ct3), sl3⟩) (c3 : PySem.W.codeIn K cd3 "least_raise" = true) (k3 : PySem.W.keepIn K (.ref f3) = true)
    (a4 : PySem.W.nsIn K mainGlobals "raised" = some (some (.ref f4)))
    (l4 : K.lookup f4 = some ⟨oc4, od4, .func (PySem.W.fnOf "raised" "raised" (defArgs sRaised) (defBody sRaised) (defScope sRaised) .none kV4 dc4 pm4 an4 cd4 ct4), sl4⟩) (c4 : PySem.W.codeIn K cd4 "raised" = true) (k4 : PySem.W.keepIn K (.ref f4) = true)
    (a5 : PySem.W.nsIn K mainGlobals "higher_parts" = some (some (.ref f5)))
    (l5 : K.lookup f5 = some ⟨oc5, od5, .func (PySem.W.fnOf "higher_parts" "higher_parts" (defArgs sHigher) (defBody sHigher) (defScope sHigher) .none kV5 dc5 pm5 an5 cd5 ct5), sl5⟩) (c5 : PySem.W.codeIn K cd5 "higher_parts" = true) (k5 : PySem.W.keepIn K (.ref f5) = true)
    (a6 : PySem.W.nsIn K mainGlobals "part_strokes" = some (some (.ref f6)))
    (l6 : K.lookup f6 = some ⟨oc6, od6, .func (PySem.W.fnOf "part_strokes" "part_strokes" (defArgs sPart) (defBody sPart) (defScope sPart) .none kV6 dc6 pm6 an6 cd6 ct6), sl6⟩) (c6 : PySem.W.codeIn K cd6 "part_strokes" = true) (k6 : PySem.W.keepIn K (.ref f6) = true)
    (a7 : PySem.W.nsIn K mainGlobals "fence_strokes" = some (some (.ref f7)))
    (l7 : K.lookup f7 = some ⟨oc7, od7, .func (PySem.W.fnOf "fence_strokes" "fence_strokes" (defArgs sFence) (defBody sFence) (defScope sFence) .none kV7 dc7 pm7 an7 cd7 ct7), sl7⟩) (c7 : PySem.W.codeIn K cd7 "fence_strokes" = true) (k7 : PySem.W.keepIn K (.ref f7) = true)
    (a8 : PySem.W.nsIn K mainGlobals "boards_from" = some (some (.ref f8)))
    (l8 : K.lookup f8 = some ⟨oc8, od8, .func (PySem.W.fnOf "boards_from" "boards_from" (defArgs sFrom) (defBody sFrom) (defScope sFrom) .none kV8 dc8 pm8 an8 cd8 ct8), sl8⟩) (c8 : PySem.W.codeIn K cd8 "boards_from" = true) (k8 : PySem.W.keepIn K (.ref f8) = true)
    (a9 : PySem.W.nsIn K mainGlobals "seen_boards" = some (some (.ref f9)))
    (l9 : K.lookup f9 = some ⟨oc9, od9, .func (PySem.W.fnOf "seen_boards" "seen_boards" (defArgs sSeenB) (defBody sSeenB) (defScope sSeenB) .none kV9 dc9 pm9 an9 cd9 ct9), sl9⟩) (c9 : PySem.W.codeIn K cd9 "seen_boards" = true) (k9 : PySem.W.keepIn K (.ref f9) = true)
    (a10 : PySem.W.nsIn K mainGlobals "has_board" = some (some (.ref f10)))
    (l10 : K.lookup f10 = some ⟨oc10, od10, .func (PySem.W.fnOf "has_board" "has_board" (defArgs sHas) (defBody sHas) (defScope sHas) .none kV10 dc10 pm10 an10 cd10 ct10), sl10⟩) (c10 : PySem.W.codeIn K cd10 "has_board" = true) (k10 : PySem.W.keepIn K (.ref f10) = true)
    (a11 : PySem.W.nsIn K mainGlobals "is_stroke" = some (some (.ref f11)))
    (l11 : K.lookup f11 = some ⟨oc11, od11, .func (PySem.W.fnOf "is_stroke" "is_stroke" (defArgs sIsStroke) (defBody sIsStroke) (defScope sIsStroke) .none kV11 dc11 pm11 an11 cd11 ct11), sl11⟩) (c11 : PySem.W.codeIn K cd11 "is_stroke" = true) (k11 : PySem.W.keepIn K (.ref f11) = true)
    (a12 : PySem.W.nsIn K mainGlobals "can_be_done" = some (some (.ref f12)))
    (l12 : K.lookup f12 = some ⟨oc12, od12, .func (PySem.W.fnOf "can_be_done" "can_be_done" (defArgs sCan) (defBody sCan) (defScope sCan) .none kV12 dc12 pm12 an12 cd12 ct12), sl12⟩) (c12 : PySem.W.codeIn K cd12 "can_be_done" = true) (k12 : PySem.W.keepIn K (.ref f12) = true)
    (a13 : PySem.W.nsIn K mainGlobals "paints" = some (some (.ref f13)))
    (l13 : K.lookup f13 = some ⟨oc13, od13, .func (PySem.W.fnOf "paints" "paints" (defArgs sPaints) (defBody sPaints) (defScope sPaints) .none kV13 dc13 pm13 an13 cd13 ct13), sl13⟩) (c13 : PySem.W.codeIn K cd13 "paints" = true) (k13 : PySem.W.keepIn K (.ref f13) = true)
    (a14 : PySem.W.nsIn K mainGlobals "bare_cells" = some (some (.ref f14)))
    (l14 : K.lookup f14 = some ⟨oc14, od14, .func (PySem.W.fnOf "bare_cells" "bare_cells" (defArgs sBare) (defBody sBare) (defScope sBare) .none kV14 dc14 pm14 an14 cd14 ct14), sl14⟩) (c14 : PySem.W.codeIn K cd14 "bare_cells" = true) (k14 : PySem.W.keepIn K (.ref f14) = true)
    (a15 : PySem.W.nsIn K mainGlobals "is_size" = some (some (.ref f15)))
    (l15 : K.lookup f15 = some ⟨oc15, od15, .func (PySem.W.fnOf "is_size" "is_size" (defArgs sSize) (defBody sSize) (defScope sSize) .none kV15 dc15 pm15 an15 cd15 ct15), sl15⟩) (c15 : PySem.W.codeIn K cd15 "is_size" = true) (k15 : PySem.W.keepIn K (.ref f15) = true)
    (a16 : PySem.W.nsIn K mainGlobals "places" = some (some (.ref f16)))
    (l16 : K.lookup f16 = some ⟨oc16, od16, .func (PySem.W.fnOf "places" "places" (defArgs sPlaces) (defBody sPlaces) (defScope sPlaces) .none kV16 dc16 pm16 an16 cd16 ct16), sl16⟩) (c16 : PySem.W.codeIn K cd16 "places" = true) (k16 : PySem.W.keepIn K (.ref f16) = true)
    (a17 : PySem.W.nsIn K mainGlobals "raising" = some (some (.ref f17)))
    (l17 : K.lookup f17 = some ⟨oc17, od17, .func (PySem.W.fnOf "raising" "raising" (defArgs sRaising) (defBody sRaising) (defScope sRaising) .none kV17 dc17 pm17 an17 cd17 ct17), sl17⟩) (c17 : PySem.W.codeIn K cd17 "raising" = true) (k17 : PySem.W.keepIn K (.ref f17) = true)
    (a18 : PySem.W.nsIn K mainGlobals "strokes" = some (some (.ref f18)))
    (l18 : K.lookup f18 = some ⟨oc18, od18, .func (PySem.W.fnOf "strokes" "strokes" (defArgs sStrokes) (defBody sStrokes) (defScope sStrokes) .none kV18 dc18 pm18 an18 cd18 ct18), sl18⟩) (c18 : PySem.W.codeIn K cd18 "strokes" = true) (k18 : PySem.W.keepIn K (.ref f18) = true)
    (a19 : PySem.W.nsIn K mainGlobals "judge" = some (some (.ref f19)))
    (l19 : K.lookup f19 = some ⟨oc19, od19, .func (PySem.W.fnOf "judge" "judge" (defArgs sJudge) (defBody sJudge) (defScope sJudge) .none kV19 dc19 pm19 an19 cd19 ct19), sl19⟩) (c19 : PySem.W.codeIn K cd19 "judge" = true) (k19 : PySem.W.keepIn K (.ref f19) = true)
    (a20 : PySem.W.nsIn K mainGlobals "seen" = some (some (.ref f20)))
    (l20 : K.lookup f20 = some ⟨oc20, od20, .func (PySem.W.fnOf "seen" "seen" (defArgs sSeen) (defBody sSeen) (defScope sSeen) .none kV20 dc20 pm20 an20 cd20 ct20), sl20⟩) (c20 : PySem.W.codeIn K cd20 "seen" = true) (k20 : PySem.W.keepIn K (.ref f20) = true)
    (a21 : PySem.W.nsIn K mainGlobals "counted" = some (some (.ref f21)))
    (l21 : K.lookup f21 = some ⟨oc21, od21, .func (PySem.W.fnOf "counted" "counted" (defArgs sCounted) (defBody sCounted) (defScope sCounted) .none kV21 dc21 pm21 an21 cd21 ct21), sl21⟩) (c21 : PySem.W.codeIn K cd21 "counted" = true) (k21 : PySem.W.keepIn K (.ref f21) = true)
    (a22 : PySem.W.nsIn K mainGlobals "read_calls" = some (some (.ref f22)))
    (l22 : K.lookup f22 = some ⟨oc22, od22, .func (PySem.W.fnOf "read_calls" "read_calls" (defArgs sRead) (defBody sRead) (defScope sRead) .none kV22 dc22 pm22 an22 cd22 ct22), sl22⟩) (c22 : PySem.W.codeIn K cd22 "read_calls" = true) (k22 : PySem.W.keepIn K (.ref f22) = true)
    (a23 : PySem.W.nsIn K mainGlobals "answers" = some (some (.ref f23)))
    (l23 : K.lookup f23 = some ⟨oc23, od23, .func (PySem.W.fnOf "answers" "answers" (defArgs sAnswers) (defBody sAnswers) (defScope sAnswers) .none kV23 dc23 pm23 an23 cd23 ct23), sl23⟩) (c23 : PySem.W.codeIn K cd23 "answers" = true) (k23 : PySem.W.keepIn K (.ref f23) = true)
    (a24 : PySem.W.findIn K (.ref C) "__init__" = some (some (.ref f24))) (i24 : PySem.W.isFn K (.ref f24) = true)
    (l24 : K.lookup f24 = some ⟨oc24, od24, .func (PySem.W.fnOf "__init__" "Line.__init__" (defArgs sInit) (defBody sInit) (defScope sInit) .none kV24 dc24 pm24 an24 cd24 ct24), sl24⟩) (c24 : PySem.W.codeIn K cd24 "Line.__init__" = true) (k24 : PySem.W.keepIn K (.ref f24) = true)
    (a25 : PySem.W.findIn K (.ref C) "begin" = some (some (.ref f25))) (i25 : PySem.W.isFn K (.ref f25) = true)
    (l25 : K.lookup f25 = some ⟨oc25, od25, .func (PySem.W.fnOf "begin" "Line.begin" (defArgs sBegin) (defBody sBegin) (defScope sBegin) .none kV25 dc25 pm25 an25 cd25 ct25), sl25⟩) (c25 : PySem.W.codeIn K cd25 "Line.begin" = true) (k25 : PySem.W.keepIn K (.ref f25) = true)
    (a26 : PySem.W.findIn K (.ref C) "change_board" = some (some (.ref f26))) (i26 : PySem.W.isFn K (.ref f26) = true)
    (l26 : K.lookup f26 = some ⟨oc26, od26, .func (PySem.W.fnOf "change_board" "Line.change_board" (defArgs sChange) (defBody sChange) (defScope sChange) .none kV26 dc26 pm26 an26 cd26 ct26), sl26⟩) (c26 : PySem.W.codeIn K cd26 "Line.change_board" = true) (k26 : PySem.W.keepIn K (.ref f26) = true)
    (a27 : PySem.W.findIn K (.ref C) "swap" = some (some (.ref f27))) (i27 : PySem.W.isFn K (.ref f27) = true)
    (l27 : K.lookup f27 = some ⟨oc27, od27, .func (PySem.W.fnOf "swap" "Line.swap" (defArgs sSwap) (defBody sSwap) (defScope sSwap) .none kV27 dc27 pm27 an27 cd27 ct27), sl27⟩) (c27 : PySem.W.codeIn K cd27 "Line.swap" = true) (k27 : PySem.W.keepIn K (.ref f27) = true)
    (a28 : PySem.W.findIn K (.ref C) "hang" = some (some (.ref f28))) (i28 : PySem.W.isFn K (.ref f28) = true)
    (l28 : K.lookup f28 = some ⟨oc28, od28, .func (PySem.W.fnOf "hang" "Line.hang" (defArgs sHang) (defBody sHang) (defScope sHang) .none kV28 dc28 pm28 an28 cd28 ct28), sl28⟩) (c28 : PySem.W.codeIn K cd28 "Line.hang" = true) (k28 : PySem.W.keepIn K (.ref f28) = true)
    (a29 : PySem.W.findIn K (.ref C) "look" = some (some (.ref f29))) (i29 : PySem.W.isFn K (.ref f29) = true)
    (l29 : K.lookup f29 = some ⟨oc29, od29, .func (PySem.W.fnOf "look" "Line.look" (defArgs sLook) (defBody sLook) (defScope sLook) .none kV29 dc29 pm29 an29 cd29 ct29), sl29⟩) (c29 : PySem.W.codeIn K cd29 "Line.look" = true) (k29 : PySem.W.keepIn K (.ref f29) = true)
    (a30 : PySem.W.findIn K (.ref C) "answer" = some (some (.ref f30))) (i30 : PySem.W.isFn K (.ref f30) = true)
    (l30 : K.lookup f30 = some ⟨oc30, od30, .func (PySem.W.fnOf "answer" "Line.answer" (defArgs sAnswer) (defBody sAnswer) (defScope sAnswer) .none kV30 dc30 pm30 an30 cd30 ct30), sl30⟩) (c30 : PySem.W.codeIn K cd30 "Line.answer" = true) (k30 : PySem.W.keepIn K (.ref f30) = true)
    (a31 : PySem.W.findIn K (.ref C) "answer_two" = some (some (.ref f31))) (i31 : PySem.W.isFn K (.ref f31) = true)
    (l31 : K.lookup f31 = some ⟨oc31, od31, .func (PySem.W.fnOf "answer_two" "Line.answer_two" (defArgs sTwo) (defBody sTwo) (defScope sTwo) .none kV31 dc31 pm31 an31 cd31 ct31), sl31⟩) (c31 : PySem.W.codeIn K cd31 "Line.answer_two" = true) (k31 : PySem.W.keepIn K (.ref f31) = true)
    (a32 : PySem.W.findIn K (.ref C) "answer_none" = some (some (.ref f32))) (i32 : PySem.W.isFn K (.ref f32) = true)
    (l32 : K.lookup f32 = some ⟨oc32, od32, .func (PySem.W.fnOf "answer_none" "Line.answer_none" (defArgs sNone) (defBody sNone) (defScope sNone) .none kV32 dc32 pm32 an32 cd32 ct32), sl32⟩) (c32 : PySem.W.codeIn K cd32 "Line.answer_none" = true) (k32 : PySem.W.keepIn K (.ref f32) = true)
    (n0 : PySem.W.nsIn K mainGlobals "ALONG" = some (some (.int (0) t0)))
    (n1 : PySem.W.nsIn K mainGlobals "DOWN" = some (some (.int (1) t1)))
    (n2 : PySem.W.nsIn K mainGlobals "LEFT" = some (some (.int (0) t2)))
    (n3 : PySem.W.nsIn K mainGlobals "RIGHT" = some (some (.int (1) t3)))
    (n4 : PySem.W.nsIn K mainGlobals "BEGIN" = some (some (.int (0) t4)))
    (n5 : PySem.W.nsIn K mainGlobals "LARGEST" = some (some (.int (1) t5)))
    (n6 : PySem.W.nsIn K mainGlobals "PLACES" = some (some (.int (2) t6)))
    (n7 : PySem.W.nsIn K mainGlobals "RAISE" = some (some (.int (3) t7)))
    (n8 : PySem.W.nsIn K mainGlobals "STROKES" = some (some (.int (4) t8)))
    (n9 : PySem.W.nsIn K mainGlobals "JUDGE" = some (some (.int (5) t9)))
    (n10 : PySem.W.nsIn K mainGlobals "SEEN" = some (some (.int (6) t10)))
    (n11 : PySem.W.nsIn K mainGlobals "BOARD" = some (some (.int (7) t11)))
    (n12 : PySem.W.nsIn K mainGlobals "SWAP" = some (some (.int (8) t12)))
    (n13 : PySem.W.nsIn K mainGlobals "NOT_ALLOWED" = some (some (.int (-1) t13)))
    (n14 : PySem.W.nsIn K mainGlobals "NO_SUCH_BOARD" = some (some (.int (-2) t14)))
    (n15 : PySem.W.nsIn K mainGlobals "CANNOT_BE_DONE" = some (some (.int (-3) t15)))
    (n16 : PySem.W.nsIn K mainGlobals "TOO_FEW_BOARDS" = some (some (.int (-6) t16)))
    (n17 : PySem.W.nsIn K mainGlobals "NO_FENCE" = some (some (.int (-9) t17)))
    (n18 : PySem.W.nsIn K mainGlobals "MOST" = some (some (.int (8) t18)))
    (z0 : PySem.W.nsIn K mainGlobals "len" = some none)
    (z1 : PySem.W.nsIn K mainGlobals "range" = some none)
    (z2 : PySem.W.nsIn K mainGlobals "min" = some none)
    (z3 : PySem.W.nsIn K mainGlobals "max" = some none)
    (z4 : PySem.W.nsIn K mainGlobals "sum" = some none)
    (z5 : PySem.W.nsIn K mainGlobals "any" = some none)
    (z6 : PySem.W.nsIn K mainGlobals "all" = some none)
    (z7 : PySem.W.nsIn K mainGlobals "enumerate" = some none)
    (z8 : PySem.W.nsIn K mainGlobals "list" = some none)
    (pg : PySem.W.plainGet K C Str.empty = true) (hd : PySem.W.hasDictIn K C = true) (po : PySem.W.plainOver K C = true) (sa : PySem.W.findIn K (.ref C) "__setattr__" = some (some (.builtin "object.__setattr__"))) (mk : PySem.W.makesIn K C = true) (kc : PySem.W.keepIn K (.ref C) = true) (nH : PySem.W.findIn K (.ref C) "heights" = some none) :
    ∃ fd : FuncData, (∀ (s : Shared) (us : List Value), us.length = (["calls"] : List Str).length → BindsTo s fd ⟨us, []⟩ ((["calls"] : List Str).zip us)) ∧ ∀ base : Heap, K.In base → base.Ns mainGlobals mg → FnOk P w K mg base CX0 15 fa fd ["calls"] (spAnswers K) := by
  have e := hfa.symm.trans (PySem.W.mg_of X G a23)
  cases e
  have T : Txt K C := ⟨⟨pg, hd, po, sa⟩, nH⟩
  have F_largest_poster := fun_mk (st := sLargest) l0 c0 k0
  have b_largest_poster := F_largest_poster.binds (ps := ["heights"]) fun _ _ _ _ _ _ us hl => match us, hl with | [_], _ => rfl
  have g_largest_poster := PySem.W.mg_of X G a0
  have F_fitting_places := fun_mk (st := sFitting) l1 c1 k1
  have b_fitting_places := F_fitting_places.binds (ps := ["heights", "width", "height"]) fun _ _ _ _ _ _ us hl => match us, hl with | [_, _, _], _ => rfl
  have g_fitting_places := PySem.W.mg_of X G a1
  have F_missing_cells := fun_mk (st := sMissing) l2 c2 k2
  have b_missing_cells := F_missing_cells.binds (ps := ["heights", "board", "width", "height"]) fun _ _ _ _ _ _ us hl => match us, hl with | [_, _, _, _], _ => rfl
  have g_missing_cells := PySem.W.mg_of X G a2
  have F_least_raise := fun_mk (st := sLeast) l3 c3 k3
  have b_least_raise := F_least_raise.binds (ps := ["heights", "width", "height"]) fun _ _ _ _ _ _ us hl => match us, hl with | [_, _, _], _ => rfl
  have g_least_raise := PySem.W.mg_of X G a3
  have F_raised := fun_mk (st := sRaised) l4 c4 k4
  have b_raised := F_raised.binds (ps := ["heights", "board", "width", "height"]) fun _ _ _ _ _ _ us hl => match us, hl with | [_, _, _, _], _ => rfl
  have g_raised := PySem.W.mg_of X G a4
  have F_higher_parts := fun_mk (st := sHigher) l5 c5 k5
  have b_higher_parts := F_higher_parts.binds (ps := ["heights", "first", "past", "level"]) fun _ _ _ _ _ _ us hl => match us, hl with | [_, _, _, _], _ => rfl
  have g_higher_parts := PySem.W.mg_of X G a5
  have F_part_strokes := fun_mk (st := sPart) l6 c6 k6
  have b_part_strokes := F_part_strokes.binds (ps := ["heights", "first", "past", "painted"]) fun _ _ _ _ _ _ us hl => match us, hl with | [_, _, _, _], _ => rfl
  have g_part_strokes := PySem.W.mg_of X G a6
  have F_fence_strokes := fun_mk (st := sFence) l7 c7 k7
  have b_fence_strokes := F_fence_strokes.binds (ps := ["heights"]) fun _ _ _ _ _ _ us hl => match us, hl with | [_], _ => rfl
  have g_fence_strokes := PySem.W.mg_of X G a7
  have F_boards_from := fun_mk (st := sFrom) l8 c8 k8
  have b_boards_from := F_boards_from.binds (ps := ["heights", "end"]) fun _ _ _ _ _ _ us hl => match us, hl with | [_, _], _ => rfl
  have g_boards_from := PySem.W.mg_of X G a8
  have F_seen_boards := fun_mk (st := sSeenB) l9 c9 k9
  have b_seen_boards := F_seen_boards.binds (ps := ["heights", "end"]) fun _ _ _ _ _ _ us hl => match us, hl with | [_, _], _ => rfl
  have g_seen_boards := PySem.W.mg_of X G a9
  have F_has_board := fun_mk (st := sHas) l10 c10 k10
  have b_has_board := F_has_board.binds (ps := ["heights", "board"]) fun _ _ _ _ _ _ us hl => match us, hl with | [_, _], _ => rfl
  have g_has_board := PySem.W.mg_of X G a10
  have F_is_stroke := fun_mk (st := sIsStroke) l11 c11 k11
  have b_is_stroke := F_is_stroke.binds (ps := ["stroke"]) fun _ _ _ _ _ _ us hl => match us, hl with | [_], _ => rfl
  have g_is_stroke := PySem.W.mg_of X G a11
  have F_can_be_done := fun_mk (st := sCan) l12 c12 k12
  have b_can_be_done := F_can_be_done.binds (ps := ["heights", "stroke"]) fun _ _ _ _ _ _ us hl => match us, hl with | [_, _], _ => rfl
  have g_can_be_done := PySem.W.mg_of X G a12
  have F_paints := fun_mk (st := sPaints) l13 c13 k13
  have b_paints := F_paints.binds (ps := ["stroke", "board", "height"]) fun _ _ _ _ _ _ us hl => match us, hl with | [_, _, _], _ => rfl
  have g_paints := PySem.W.mg_of X G a13
  have F_bare_cells := fun_mk (st := sBare) l14 c14 k14
  have b_bare_cells := F_bare_cells.binds (ps := ["heights", "strokes"]) fun _ _ _ _ _ _ us hl => match us, hl with | [_, _], _ => rfl
  have g_bare_cells := PySem.W.mg_of X G a14
  have F_is_size := fun_mk (st := sSize) l15 c15 k15
  have b_is_size := F_is_size.binds (ps := ["number"]) fun _ _ _ _ _ _ us hl => match us, hl with | [_], _ => rfl
  have g_is_size := PySem.W.mg_of X G a15
  have F_places := fun_mk (st := sPlaces) l16 c16 k16
  have b_places := F_places.binds (ps := ["heights", "width", "height"]) fun _ _ _ _ _ _ us hl => match us, hl with | [_, _, _], _ => rfl
  have g_places := PySem.W.mg_of X G a16
  have F_raising := fun_mk (st := sRaising) l17 c17 k17
  have b_raising := F_raising.binds (ps := ["heights", "width", "height"]) fun _ _ _ _ _ _ us hl => match us, hl with | [_, _, _], _ => rfl
  have g_raising := PySem.W.mg_of X G a17
  have F_strokes := fun_mk (st := sStrokes) l18 c18 k18
  have b_strokes := F_strokes.binds (ps := ["heights"]) fun _ _ _ _ _ _ us hl => match us, hl with | [_], _ => rfl
  have g_strokes := PySem.W.mg_of X G a18
  have F_judge := fun_mk (st := sJudge) l19 c19 k19
  have b_judge := F_judge.binds (ps := ["heights", "handed"]) fun _ _ _ _ _ _ us hl => match us, hl with | [_, _], _ => rfl
  have g_judge := PySem.W.mg_of X G a19
  have F_seen := fun_mk (st := sSeen) l20 c20 k20
  have b_seen := F_seen.binds (ps := ["heights", "end"]) fun _ _ _ _ _ _ us hl => match us, hl with | [_, _], _ => rfl
  have g_seen := PySem.W.mg_of X G a20
  have F_counted := fun_mk (st := sCounted) l21 c21 k21
  have b_counted := F_counted.binds (ps := ["calls", "at"]) fun _ _ _ _ _ _ us hl => match us, hl with | [_, _], _ => rfl
  have g_counted := PySem.W.mg_of X G a21
  have F_read_calls := fun_mk (st := sRead) l22 c22 k22
  have b_read_calls := F_read_calls.binds (ps := ["calls"]) fun _ _ _ _ _ _ us hl => match us, hl with | [_], _ => rfl
  have g_read_calls := PySem.W.mg_of X G a22
  have F_answers := fun_mk (st := sAnswers) l23 c23 k23
  have b_answers := F_answers.binds (ps := ["calls"]) fun _ _ _ _ _ _ us hl => match us, hl with | [_], _ => rfl
  have g_answers := PySem.W.mg_of X G a23
  have F_init := fun_mk (st := sInit) l24 c24 k24
  have b_init := F_init.binds (ps := ["self"]) fun _ _ _ _ _ _ us hl => match us, hl with | [_], _ => rfl
  have m_init : Meth K C "__init__" f24 := ⟨a24, i24, k24⟩
  have M : Mk K C f24 := ⟨mk, a24, i24, kc⟩
  have F_begin := fun_mk (st := sBegin) l25 c25 k25
  have b_begin := F_begin.binds (ps := ["self", "heights"]) fun _ _ _ _ _ _ us hl => match us, hl with | [_, _], _ => rfl
  have m_begin : Meth K C "begin" f25 := ⟨a25, i25, k25⟩
  have F_change_board := fun_mk (st := sChange) l26 c26 k26
  have b_change_board := F_change_board.binds (ps := ["self", "board", "height"]) fun _ _ _ _ _ _ us hl => match us, hl with | [_, _, _], _ => rfl
  have m_change_board : Meth K C "change_board" f26 := ⟨a26, i26, k26⟩
  have F_swap := fun_mk (st := sSwap) l27 c27 k27
  have b_swap := F_swap.binds (ps := ["self", "board", "other"]) fun _ _ _ _ _ _ us hl => match us, hl with | [_, _, _], _ => rfl
  have m_swap : Meth K C "swap" f27 := ⟨a27, i27, k27⟩
  have F_hang := fun_mk (st := sHang) l28 c28 k28
  have b_hang := F_hang.binds (ps := ["self", "width", "height"]) fun _ _ _ _ _ _ us hl => match us, hl with | [_, _, _], _ => rfl
  have m_hang : Meth K C "hang" f28 := ⟨a28, i28, k28⟩
  have F_look := fun_mk (st := sLook) l29 c29 k29
  have b_look := F_look.binds (ps := ["self"]) fun _ _ _ _ _ _ us hl => match us, hl with | [_], _ => rfl
  have m_look : Meth K C "look" f29 := ⟨a29, i29, k29⟩
  have F_answer := fun_mk (st := sAnswer) l30 c30 k30
  have b_answer := F_answer.binds (ps := ["self", "number", "numbers", "lists"]) fun _ _ _ _ _ _ us hl => match us, hl with | [_, _, _, _], _ => rfl
  have m_answer : Meth K C "answer" f30 := ⟨a30, i30, k30⟩
  have F_answer_two := fun_mk (st := sTwo) l31 c31 k31
  have b_answer_two := F_answer_two.binds (ps := ["self", "number", "first", "second"]) fun _ _ _ _ _ _ us hl => match us, hl with | [_, _, _, _], _ => rfl
  have m_answer_two : Meth K C "answer_two" f31 := ⟨a31, i31, k31⟩
  have F_answer_none := fun_mk (st := sNone) l32 c32 k32
  have b_answer_none := F_answer_none.binds (ps := ["self", "number"]) fun _ _ _ _ _ _ us hl => match us, hl with | [_, _], _ => rfl
  have m_answer_none : Meth K C "answer_none" f32 := ⟨a32, i32, k32⟩
  have v_ALONG := PySem.W.mg_of X G n0
  have v_DOWN := PySem.W.mg_of X G n1
  have v_LEFT := PySem.W.mg_of X G n2
  have v_RIGHT := PySem.W.mg_of X G n3
  have v_BEGIN := PySem.W.mg_of X G n4
  have v_LARGEST := PySem.W.mg_of X G n5
  have v_PLACES := PySem.W.mg_of X G n6
  have v_RAISE := PySem.W.mg_of X G n7
  have v_STROKES := PySem.W.mg_of X G n8
  have v_JUDGE := PySem.W.mg_of X G n9
  have v_SEEN := PySem.W.mg_of X G n10
  have v_BOARD := PySem.W.mg_of X G n11
  have v_SWAP := PySem.W.mg_of X G n12
  have v_NOT_ALLOWED := PySem.W.mg_of X G n13
  have v_NO_SUCH_BOARD := PySem.W.mg_of X G n14
  have v_CANNOT_BE_DONE := PySem.W.mg_of X G n15
  have v_TOO_FEW_BOARDS := PySem.W.mg_of X G n16
  have v_NO_FENCE := PySem.W.mg_of X G n17
  have v_MOST := PySem.W.mg_of X G n18
  have z_len := PySem.W.mg_none_of X G z0
  have z_range := PySem.W.mg_none_of X G z1
  have z_min := PySem.W.mg_none_of X G z2
  have z_max := PySem.W.mg_none_of X G z3
  have z_sum := PySem.W.mg_none_of X G z4
  have z_any := PySem.W.mg_none_of X G z5
  have z_all := PySem.W.mg_none_of X G z6
  have z_enumerate := PySem.W.mg_none_of X G z7
  have z_list := PySem.W.mg_none_of X G z8
  have gC := PySem.W.mg_of X G aC
  refine ⟨PySem.W.fnOf "answers" "answers" (defArgs sAnswers) (defBody sAnswers) (defScope sAnswers) .none kV23 dc23 pm23 an23 cd23 ct23, fun s us hu => match us, hu with | [_], _ => .of_eq rfl, fun base _ _ => ?_⟩
  have h_missing : FnOk P w K mg base CX0 9 _ _ ["heights", "board", "width", "height"] (spMissing K) := ok_missing F_missing_cells z_sum z_max
  have h_least : FnOk P w K mg base CX0 10 _ _ ["heights", "width", "height"] (spLeast K) := ok_least F_least_raise h_missing b_missing_cells F_missing_cells.kp g_missing_cells z_len z_range
  have h_fit : FnOk P w K mg base CX0 10 _ _ ["heights", "width", "height"] (spFitting K) := ok_fitting F_fitting_places z_len z_range z_min
  have h_part := all_part (P := P) (w := w) (base := base) F_part_strokes b_part_strokes g_part_strokes F_higher_parts b_higher_parts g_higher_parts v_ALONG v_DOWN z_len z_range z_min 8
  have h_fence := ok_fence F_fence_strokes h_part b_part_strokes F_part_strokes.kp g_part_strokes z_len
  have h_is : FnOk P w K mg base CX0 10 _ _ ["stroke"] (spIs K) := ok_is F_is_stroke v_ALONG v_DOWN z_len
  have h_has : FnOk P w K mg base CX0 9 _ _ ["heights", "board"] (spHas K) := ok_has F_has_board z_len
  have h_can : FnOk P w K mg base CX0 10 _ _ ["heights", "stroke"] (spCan K) := ok_can F_can_be_done h_has b_has_board F_has_board.kp g_has_board v_DOWN z_min
  have h_paints : FnOk P w K mg base CX0 9 _ _ ["stroke", "board", "height"] (spPaints K) := ok_paints F_paints v_DOWN
  have h_bare : FnOk P w K mg base CX0 10 _ _ ["heights", "strokes"] (spBare K) := ok_bare F_bare_cells h_paints b_paints F_paints.kp g_paints z_len z_range z_any
  have h_size : FnOk P w K mg base CX0 10 _ _ ["number"] spSize := ok_size F_is_size v_MOST
  have h_from : FnOk P w K mg base CX0 11 _ _ ["heights", "end"] (spFrom K) := ok_from F_boards_from v_LEFT z_len z_range z_list
  have h_seenB : FnOk P w K mg base CX0 12 _ _ ["heights", "end"] (spSeenB K) := ok_seenB F_seen_boards h_from b_boards_from F_boards_from.kp g_boards_from
  have h_seen : FnOk P w K mg base CX0 13 _ _ ["heights", "end"] (spSeen K) := ok_seen F_seen h_seenB b_seen_boards F_seen_boards.kp g_seen_boards v_NOT_ALLOWED v_LEFT v_RIGHT z_len
  have h_lift : FnOk P w K mg base CX0 11 _ _ ["heights", "board", "width", "height"] (spLift K) := ok_lift F_raised z_max
  have h_largest : FnOk P w K mg base CX0 12 _ _ ["heights"] (spLargest K) := ok_largest F_largest_poster z_len z_range z_min
  have h_places := (ok_places F_places h_fit b_fitting_places F_fitting_places.kp g_fitting_places h_size b_is_size F_is_size.kp g_is_size v_NOT_ALLOWED z_len).mono (k := 12) (by decide)
  have h_raising := ok_raising F_raising h_least b_least_raise F_least_raise.kp g_least_raise h_size b_is_size F_is_size.kp g_is_size v_NOT_ALLOWED v_TOO_FEW_BOARDS z_len
  have h_strokes := (ok_strokes F_strokes h_fence b_fence_strokes F_fence_strokes.kp g_fence_strokes z_len).mono (k := 12) (by decide)
  have h_judge := (ok_judge F_judge h_is b_is_stroke F_is_stroke.kp g_is_stroke h_can b_can_be_done F_can_be_done.kp g_can_be_done h_bare b_bare_cells F_bare_cells.kp g_bare_cells h_fence b_fence_strokes F_fence_strokes.kp g_fence_strokes v_NOT_ALLOWED v_CANNOT_BE_DONE z_len z_all z_enumerate).mono (k := 13) (by decide)
  have h_begin := (ok_begin F_begin T h_size b_is_size F_is_size.kp g_is_size v_NOT_ALLOWED z_len z_all z_list).mono (k := 13) (by decide)
  have h_change := ok_change F_change_board T (h_size.mono (k := 11) (by decide)) b_is_size F_is_size.kp g_is_size (h_has.mono (k := 11) (by decide)) b_has_board F_has_board.kp g_has_board v_NOT_ALLOWED v_NO_SUCH_BOARD
  have h_swap := ok_swap F_swap T (h_has.mono (k := 11) (by decide)) b_has_board F_has_board.kp g_has_board v_NO_SUCH_BOARD
  have h_hang := ok_hang F_hang T h_raising b_raising F_raising.kp g_raising h_lift b_raised F_raised.kp g_raised
  have h_look : FnOk P w K mg base CX0 12 _ _ ["self"] (spLook C) := ok_look F_look T z_len
  have h_two := ok_two F_answer_two T h_places b_places F_places.kp g_places (h_raising.mono (k := 12) (by decide)) b_raising F_raising.kp g_raising h_change b_change_board m_change_board h_swap b_swap m_swap h_hang b_hang m_hang v_PLACES v_RAISE v_BOARD v_SWAP
  have h_none := ok_none F_answer_none T h_largest b_largest_poster F_largest_poster.kp g_largest_poster h_strokes b_strokes F_strokes.kp g_strokes h_look b_look m_look v_LARGEST v_STROKES
  have h_answer := ok_answer F_answer T h_begin b_begin m_begin h_two b_answer_two m_answer_two h_none b_answer_none m_answer_none h_judge b_judge F_judge.kp g_judge h_seen b_seen F_seen.kp g_seen v_BEGIN v_NO_FENCE v_JUDGE v_SEEN z_len
  have h_init : FnOk P w K mg base CX0 13 _ _ ["self"] (spInit C) := ok_init F_init T
  have h_counted : FnOk P w K mg base CX0 13 _ _ ["calls", "at"] (spCounted K) := ok_counted F_counted
  have h_read := ok_read F_read_calls h_counted b_counted F_counted.kp g_counted z_len
  exact ok_answers F_answers T M gC h_init b_init h_answer b_answer m_answer h_read b_read_calls F_read_calls.kp g_read_calls z_len
end Bf
open PySem PySem.W PyProof.Rows
set_option maxRecDepth 100000 in
set_option maxHeartbeats 0 in
theorem PySem.Challenge.cw_boardfence_s01_answers_holds : PySem.Challenge.rw_boardfence_s01_answers.Holds := by
  w_on; k_headS; (case hw => exact ⟨[.list [.int 10, .int 0, .int 0]], by decide +kernel, by decide +kernel⟩)
  k_fillS
  refine L2.walk_specK (r := PySem.Challenge.rw_boardfence_s01_answers) (k := 15) (CX := L2.CX0) (ps := ["calls"]) (sp := Bf.spAnswers) (by decide +kernel) rfl rfl ⟨rfl, by decide, by decide⟩ (fun w h Y => PySem.W.kIn_of Y) ?F ?S (fun _ _ _ _ z => z)
  case F =>
    intro w mg fa h Y KX G hmg
    refine' Bf.all_mk KX G hmg ?aC ?a0 ?l0 ?c0 ?k0 ?a1 ?l1 ?c1 ?k1 ?a2 ?l2 ?c2 ?k2 ?a3 ?l3 ?c3 ?k3 ?a4 ?l4 ?c4 ?k4 ?a5 ?l5 ?c5 ?k5 ?a6 ?l6 ?c6 ?k6 ?a7 ?l7 ?c7 ?k7 ?a8 ?l8 ?c8 ?k8 ?a9 ?l9 ?c9 ?k9 ?a10 ?l10 ?c10 ?k10 ?a11 ?l11 ?c11 ?k11 ?a12 ?l12 ?c12 ?k12 ?a13 ?l13 ?c13 ?k13 ?a14 ?l14 ?c14 ?k14 ?a15 ?l15 ?c15 ?k15 ?a16 ?l16 ?c16 ?k16 ?a17 ?l17 ?c17 ?k17 ?a18 ?l18 ?c18 ?k18 ?a19 ?l19 ?c19 ?k19 ?a20 ?l20 ?c20 ?k20 ?a21 ?l21 ?c21 ?k21 ?a22 ?l22 ?c22 ?k22 ?a23 ?l23 ?c23 ?k23 ?a24 ?i24 ?l24 ?c24 ?k24 ?a25 ?i25 ?l25 ?c25 ?k25 ?a26 ?i26 ?l26 ?c26 ?k26 ?a27 ?i27 ?l27 ?c27 ?k27 ?a28 ?i28 ?l28 ?c28 ?k28 ?a29 ?i29 ?l29 ?c29 ?k29 ?a30 ?i30 ?l30 ?c30 ?k30 ?a31 ?i31 ?l31 ?c31 ?k31 ?a32 ?i32 ?l32 ?c32 ?k32 ?n0 ?n1 ?n2 ?n3 ?n4 ?n5 ?n6 ?n7 ?n8 ?n9 ?n10 ?n11 ?n12 ?n13 ?n14 ?n15 ?n16 ?n17 ?n18 ?z0 ?z1 ?z2 ?z3 ?z4 ?z5 ?z6 ?z7 ?z8 ?pg ?hd ?po ?sa ?mk ?kc ?nH
    (case aC => k_is)
    (case a0 => k_is)
    (case l0 => k_is)
    (case c0 => k_is)
    (case k0 => k_is)
    (case a1 => k_is)
    (case l1 => k_is)
    (case c1 => k_is)
    (case k1 => k_is)
    (case a2 => k_is)
    (case l2 => k_is)
    (case c2 => k_is)
    (case k2 => k_is)
    (case a3 => k_is)
    (case l3 => k_is)
    (case c3 => k_is)
    (case k3 => k_is)
    (case a4 => k_is)
    (case l4 => k_is)
    (case c4 => k_is)
    (case k4 => k_is)
    (case a5 => k_is)
    (case l5 => k_is)
    (case c5 => k_is)
    (case k5 => k_is)
    (case a6 => k_is)
    (case l6 => k_is)
    (case c6 => k_is)
    (case k6 => k_is)
    (case a7 => k_is)
    (case l7 => k_is)
    (case c7 => k_is)
    (case k7 => k_is)
    (case a8 => k_is)
    (case l8 => k_is)
    (case c8 => k_is)
    (case k8 => k_is)
    (case a9 => k_is)
    (case l9 => k_is)
    (case c9 => k_is)
    (case k9 => k_is)
    (case a10 => k_is)
    (case l10 => k_is)
    (case c10 => k_is)
    (case k10 => k_is)
    (case a11 => k_is)
    (case l11 => k_is)
    (case c11 => k_is)
    (case k11 => k_is)
    (case a12 => k_is)
    (case l12 => k_is)
    (case c12 => k_is)
    (case k12 => k_is)
    (case a13 => k_is)
    (case l13 => k_is)
    (case c13 => k_is)
    (case k13 => k_is)
    (case a14 => k_is)
    (case l14 => k_is)
    (case c14 => k_is)
    (case k14 => k_is)
    (case a15 => k_is)
    (case l15 => k_is)
    (case c15 => k_is)
    (case k15 => k_is)
    (case a16 => k_is)
    (case l16 => k_is)
    (case c16 => k_is)
    (case k16 => k_is)
    (case a17 => k_is)
    (case l17 => k_is)
    (case c17 => k_is)
    (case k17 => k_is)
    (case a18 => k_is)
    (case l18 => k_is)
    (case c18 => k_is)
    (case k18 => k_is)
    (case a19 => k_is)
    (case l19 => k_is)
    (case c19 => k_is)
    (case k19 => k_is)
    (case a20 => k_is)
    (case l20 => k_is)
    (case c20 => k_is)
    (case k20 => k_is)
    (case a21 => k_is)
    (case l21 => k_is)
    (case c21 => k_is)
    (case k21 => k_is)
    (case a22 => k_is)
    (case l22 => k_is)
    (case c22 => k_is)
    (case k22 => k_is)
    (case a23 => k_is)
    (case l23 => k_is)
    (case c23 => k_is)
    (case k23 => k_is)
    (case a24 => k_is)
    (case i24 => k_is)
    (case l24 => k_is)
    (case c24 => k_is)
    (case k24 => k_is)
    (case a25 => k_is)
    (case i25 => k_is)
    (case l25 => k_is)
    (case c25 => k_is)
    (case k25 => k_is)
    (case a26 => k_is)
    (case i26 => k_is)
    (case l26 => k_is)
    (case c26 => k_is)
    (case k26 => k_is)
    (case a27 => k_is)
    (case i27 => k_is)
    (case l27 => k_is)
    (case c27 => k_is)
    (case k27 => k_is)
    (case a28 => k_is)
    (case i28 => k_is)
    (case l28 => k_is)
    (case c28 => k_is)
    (case k28 => k_is)
    (case a29 => k_is)
    (case i29 => k_is)
    (case l29 => k_is)
    (case c29 => k_is)
    (case k29 => k_is)
    (case a30 => k_is)
    (case i30 => k_is)
    (case l30 => k_is)
    (case c30 => k_is)
    (case k30 => k_is)
    (case a31 => k_is)
    (case i31 => k_is)
    (case l31 => k_is)
    (case c31 => k_is)
    (case k31 => k_is)
    (case a32 => k_is)
    (case i32 => k_is)
    (case l32 => k_is)
    (case c32 => k_is)
    (case k32 => k_is)
    (case n0 => k_is)
    (case n1 => k_is)
    (case n2 => k_is)
    (case n3 => k_is)
    (case n4 => k_is)
    (case n5 => k_is)
    (case n6 => k_is)
    (case n7 => k_is)
    (case n8 => k_is)
    (case n9 => k_is)
    (case n10 => k_is)
    (case n11 => k_is)
    (case n12 => k_is)
    (case n13 => k_is)
    (case n14 => k_is)
    (case n15 => k_is)
    (case n16 => k_is)
    (case n17 => k_is)
    (case n18 => k_is)
    (case z0 => k_is)
    (case z1 => k_is)
    (case z2 => k_is)
    (case z3 => k_is)
    (case z4 => k_is)
    (case z5 => k_is)
    (case z6 => k_is)
    (case z7 => k_is)
    (case z8 => k_is)
    (case pg => k_is)
    (case hd => k_is)
    (case po => k_is)
    (case sa => k_is)
    (case mk => k_is)
    (case kc => k_is)
    (case nH => k_is)
  case S =>
    intro K H xs a hO hwi hask hx
    cases hx with
    | cons h1 h2 =>
      cases h2
      cases h1 with
      | lst hs ha =>
        have e := L2.ints_dw a.1 _ ha
        subst e
        have q : ((Codec.inLen 0 7400 a.1 && a.1.all (Codec.inInt 0 20)) && true) = true := hwi
        rw [Bool.and_eq_true, Bool.and_eq_true] at q
        exact ⟨_, a.1, rfl, hs, (Codec.inNat_iff.mp q.1.1).2, hask, fun H' p hp => .lst (L2.SqL.of hp) (L2.dw_ints _)⟩
#print axioms PySem.Challenge.cw_boardfence_s01_answers_holds
