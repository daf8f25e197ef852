import PyProof.Rows.All
import Wide.All
import OpenK.AllK
import Wide.FinOn
import Open.SpecLaws
import KE.OsGo
import HandS.ForSpec
import HandS.ForMost
import HandS.Walk
import HandS.Sort
import HandS.SortOrd
import HandS.SortRule
import HandS.SortInts
import PyProof.SetRoads
import PyProof.Rows.SetFrom
import PyFlatLaws
import PySem.Challenge.RW_freebusy_s01_answers
set_option Elab.async false
set_option maxRecDepth 100000
set_option linter.all false
set_option maxHeartbeats 4000000
/-! Spans: minutes, plain rows, what the specification's words mean minute by minute. -/
namespace Fb
open Cl04

/-- a minute within a row of stretches -/
def Hs (l : List Span) (u : Nat) : Prop := ∃ x ∈ l, x.1 ≤ u ∧ u < x.2
/-- plain rows: in order, none empty, none touching -/
def Pl : List Span → Prop
  | [] => True
  | x :: r => x.1 < x.2 ∧ (∀ y ∈ r, x.2 < y.1) ∧ Pl r

theorem has_iff {l : List Span} {u : Nat} : has l u = true ↔ Hs l u := by
  unfold has Hs
  rw [List.any_eq_true]
  simp only [Bool.and_eq_true, decide_eq_true_eq]
theorem Hs_nil {u : Nat} : ¬ Hs [] u := fun ⟨_, h, _⟩ => by cases h
theorem Hs_cons {x : Span} {l : List Span} {u : Nat} : Hs (x :: l) u ↔ (x.1 ≤ u ∧ u < x.2) ∨ Hs l u := by
  unfold Hs
  simp only [List.mem_cons, exists_eq_or_imp]
theorem Hs_append {l m : List Span} {u : Nat} : Hs (l ++ m) u ↔ Hs l u ∨ Hs m u := by
  unfold Hs
  simp only [List.mem_append]
  constructor
  · rintro ⟨x, h | h, q⟩
    · exact .inl ⟨x, h, q⟩
    · exact .inr ⟨x, h, q⟩
  · rintro (⟨x, h, q⟩ | ⟨x, h, q⟩)
    · exact ⟨x, .inl h, q⟩
    · exact ⟨x, .inr h, q⟩
theorem Pl.ne {l : List Span} : Pl l → ∀ x ∈ l, x.1 < x.2 := by
  induction l with
  | nil => intro _ x h; cases h
  | cons y r ih =>
    intro h x hx
    rcases List.mem_cons.mp hx with rfl | hx
    · exact h.1
    · exact ih h.2.2 x hx
theorem Pl.append {l m : List Span} : Pl l → Pl m → (∀ x ∈ l, ∀ y ∈ m, x.2 < y.1) → Pl (l ++ m) := by
  induction l with
  | nil => intro _ h _; exact h
  | cons x r ih =>
    intro hl hm hd
    refine ⟨hl.1, fun y hy => ?_, ih hl.2.2 hm fun z hz => hd z (List.mem_cons_of_mem _ hz)⟩
    rcases List.mem_append.mp hy with hy | hy
    · exact hl.2.1 y hy
    · exact hd x (List.mem_cons_self ..) y hy
theorem pl_ext : ∀ {l m : List Span}, Pl l → Pl m → (∀ u, Hs l u ↔ Hs m u) → l = m
  | [], [], _, _, _ => rfl
  | [], y :: m, _, hm, h => absurd ((h y.1).mpr ⟨y, List.mem_cons_self .., Nat.le_refl _, hm.1⟩) Hs_nil
  | x :: l, [], hl, _, h => absurd ((h x.1).mp ⟨x, List.mem_cons_self .., Nat.le_refl _, hl.1⟩) Hs_nil
  | x :: l, y :: m, hl, hm, h => by
    have no_l : ∀ u, u ≤ x.2 → ¬ Hs l u := fun u hu ⟨z, hz, q, _⟩ => by
      have := hl.2.1 z hz; omega
    have no_m : ∀ u, u ≤ y.2 → ¬ Hs m u := fun u hu ⟨z, hz, q, _⟩ => by
      have := hm.2.1 z hz; omega
    have h1 := hl.1
    have h2 := hm.1
    have e1 : x.1 = y.1 := by
      have a1 := (h x.1).mp (Hs_cons.mpr (.inl ⟨Nat.le_refl _, h1⟩))
      have a2 := (h y.1).mpr (Hs_cons.mpr (.inl ⟨Nat.le_refl _, h2⟩))
      rcases Hs_cons.mp a1 with b1 | b1 <;> rcases Hs_cons.mp a2 with b2 | b2
      · omega
      · by_cases q : y.1 ≤ x.2
        · exact absurd b2 (no_l _ q)
        · omega
      · by_cases q : x.1 ≤ y.2
        · exact absurd b1 (no_m _ q)
        · omega
      · by_cases q : x.1 ≤ y.2
        · exact absurd b1 (no_m _ q)
        · by_cases q : y.1 ≤ x.2
          · exact absurd b2 (no_l _ q)
          · omega
    have e2 : x.2 = y.2 := by
      have c1 : ¬ x.2 < y.2 := fun c => by
        rcases Hs_cons.mp ((h x.2).mpr (Hs_cons.mpr (.inl ⟨by omega, c⟩))) with b | b
        · omega
        · exact no_l _ (Nat.le_refl _) b
      have c2 : ¬ y.2 < x.2 := fun c => by
        rcases Hs_cons.mp ((h y.2).mp (Hs_cons.mpr (.inl ⟨by omega, c⟩))) with b | b
        · omega
        · exact no_m _ (Nat.le_refl _) b
      omega
    have e : x = y := Prod.ext e1 e2
    subst e
    refine congrArg _ (pl_ext hl.2.2 hm.2.2 fun u => ?_)
    have hu := h u
    rw [Hs_cons, Hs_cons] at hu
    constructor
    · intro q
      rcases hu.mp (.inr q) with b | b
      · exact absurd q (no_l _ (by omega))
      · exact b
    · intro q
      rcases hu.mpr (.inr q) with b | b
      · exact absurd q (no_m _ (by omega))
      · exact b

/-! ### plain -/
theorem into_ok : ∀ (l : List Span) (a : Span), a.1 < a.2 → Pl l → (∀ y ∈ l, a.1 ≤ y.1) →
    Pl (into a l) ∧ (∀ u, Hs (into a l) u ↔ (a.1 ≤ u ∧ u < a.2) ∨ Hs l u) ∧ ∀ z ∈ into a l, a.1 ≤ z.1
  | [], a, h, _, _ => ⟨⟨h, fun y hy => (by cases hy), trivial⟩, fun u => Hs_cons, fun z hz => by
      rcases List.mem_cons.mp hz with rfl | hz
      · exact Nat.le_refl _
      · cases hz⟩
  | b :: l, a, h, hl, hb => by
    have hb0 := hb b (List.mem_cons_self ..)
    have hb1 := hl.1
    unfold into
    by_cases c : b.1 ≤ a.2
    · rw [if_pos c]
      have q := into_ok l (a.1, max a.2 b.2) (by show a.1 < max a.2 b.2; omega) hl.2.2 fun y hy => hb y (List.mem_cons_of_mem _ hy)
      refine ⟨q.1, fun u => ?_, q.2.2⟩
      rw [q.2.1 u, Hs_cons]
      show (a.1 ≤ u ∧ u < max a.2 b.2) ∨ _ ↔ _
      have : (a.1 ≤ u ∧ u < max a.2 b.2) ↔ (a.1 ≤ u ∧ u < a.2) ∨ (b.1 ≤ u ∧ u < b.2) := by omega
      rw [this, or_assoc]
    · rw [if_neg c]
      refine ⟨⟨h, fun y hy => ?_, hl⟩, fun u => Hs_cons, fun z hz => ?_⟩
      · rcases List.mem_cons.mp hy with rfl | hy
        · omega
        · have := hl.2.1 y hy; omega
      · rcases List.mem_cons.mp hz with rfl | hz
        · exact Nat.le_refl _
        · exact hb z hz
theorem merge_ok : ∀ (l : List Span), (∀ x ∈ l, x.1 < x.2) → l.Pairwise (fun x y => x.1 ≤ y.1) →
    Pl (merge l) ∧ (∀ u, Hs (merge l) u ↔ Hs l u) ∧ ∀ z ∈ merge l, ∃ x ∈ l, x.1 ≤ z.1
  | [], _, _ => ⟨trivial, fun _ => Iff.rfl, fun z hz => by cases hz⟩
  | a :: l, hn, hp => by
    have ih := merge_ok l (fun x hx => hn x (List.mem_cons_of_mem _ hx)) (List.pairwise_cons.mp hp).2
    have hge : ∀ y ∈ merge l, a.1 ≤ y.1 := fun y hy => by
      obtain ⟨x, hx, q⟩ := ih.2.2 y hy
      have := (List.pairwise_cons.mp hp).1 x hx
      omega
    have q := into_ok (merge l) a (hn a (List.mem_cons_self ..)) ih.1 hge
    show Pl (into a (merge l)) ∧ (∀ u, Hs (into a (merge l)) u ↔ Hs (a :: l) u) ∧ ∀ z ∈ into a (merge l), ∃ x ∈ a :: l, x.1 ≤ z.1
    exact ⟨q.1, fun u => by rw [q.2.1 u, Hs_cons, ih.2.1 u], fun z hz => ⟨a, List.mem_cons_self .., q.2.2 z hz⟩⟩
theorem plain_ok (l : List Span) : Pl (plain l) ∧ ∀ u, Hs (plain l) u ↔ Hs l u := by
  have hmem : ∀ x, x ∈ (l.filter fun (x : Span) => decide (x.1 < x.2)).mergeSort before ↔ x ∈ l ∧ x.1 < x.2 := fun x => by
    rw [List.mem_mergeSort, List.mem_filter, decide_eq_true_eq]
  have hs : ((l.filter fun (x : Span) => decide (x.1 < x.2)).mergeSort before).Pairwise (fun x y => x.1 ≤ y.1) := by
    have := List.pairwise_mergeSort (le := before) (fun a b c h1 h2 => by
      unfold before at *
      rw [decide_eq_true_eq] at *
      omega) (fun a b => by
      unfold before
      rw [Bool.or_eq_true, decide_eq_true_eq, decide_eq_true_eq]
      omega) (l.filter fun (x : Span) => decide (x.1 < x.2))
    refine this.imp fun h => ?_
    unfold before at h
    exact of_decide_eq_true h
  have q := merge_ok _ (fun x hx => ((hmem x).mp hx).2) hs
  refine ⟨q.1, fun u => (q.2.1 u).trans ?_⟩
  unfold Hs
  constructor
  · rintro ⟨x, hx, h⟩
    exact ⟨x, ((hmem x).mp hx).1, h⟩
  · rintro ⟨x, hx, h⟩
    exact ⟨x, (hmem x).mpr ⟨hx, by omega⟩, h⟩

/-! ### less, meet -/
theorem less1_ok : ∀ (m : List Span) (a : Span), a.1 < a.2 → Pl m →
    Pl (less1 a m) ∧ (∀ u, Hs (less1 a m) u ↔ (a.1 ≤ u ∧ u < a.2) ∧ ¬ Hs m u) ∧ ∀ z ∈ less1 a m, a.1 ≤ z.1 ∧ z.2 ≤ a.2
  | [], a, h, _ => ⟨⟨h, fun y hy => (by cases hy), trivial⟩, fun u => by
      show Hs [a] u ↔ _
      rw [Hs_cons]
      constructor
      · rintro (q | q)
        · exact ⟨q, Hs_nil⟩
        · exact absurd q Hs_nil
      · exact fun q => .inl q.1, fun z hz => by
      rcases List.mem_cons.mp hz with rfl | hz
      · exact ⟨Nat.le_refl _, Nat.le_refl _⟩
      · cases hz⟩
  | b :: l, a, h, hm => by
    have hb := hm.1
    have far : ∀ u, u ≤ b.2 → ¬ Hs l u := fun u hu ⟨z, hz, q, _⟩ => by
      have := hm.2.1 z hz; omega
    unfold less1
    by_cases c1 : b.2 ≤ a.1
    · rw [if_pos c1]
      have q := less1_ok l a h hm.2.2
      refine ⟨q.1, fun u => ?_, q.2.2⟩
      rw [q.2.1 u, Hs_cons]
      constructor
      · rintro ⟨x, y⟩
        refine ⟨x, fun z => ?_⟩
        rcases z with z | z
        · omega
        · exact y z
      · rintro ⟨x, y⟩
        exact ⟨x, fun z => y (.inr z)⟩
    · rw [if_neg c1]
      by_cases c2 : a.2 ≤ b.1
      · rw [if_pos c2]
        refine ⟨⟨h, fun y hy => (by cases hy), trivial⟩, fun u => ?_, fun z hz => ?_⟩
        · rw [Hs_cons, Hs_cons]
          constructor
          · rintro (q | q)
            · refine ⟨q, fun z => ?_⟩
              rcases z with z | z
              · omega
              · exact far u (by omega) z
            · exact absurd q Hs_nil
          · exact fun q => .inl q.1
        · rcases List.mem_cons.mp hz with rfl | hz
          · exact ⟨Nat.le_refl _, Nat.le_refl _⟩
          · cases hz
      · rw [if_neg c2]
        have left : ∀ z ∈ (if a.1 < b.1 then [(a.1, b.1)] else [] : List Span), z = (a.1, b.1) ∧ a.1 < b.1 := fun z hz => by
          by_cases c : a.1 < b.1
          · rw [if_pos c] at hz
            rcases List.mem_cons.mp hz with rfl | hz
            · exact ⟨rfl, c⟩
            · cases hz
          · rw [if_neg c] at hz
            cases hz
        have hleft : ∀ u, Hs (if a.1 < b.1 then [(a.1, b.1)] else [] : List Span) u ↔ a.1 ≤ u ∧ u < b.1 := fun u => by
          by_cases c : a.1 < b.1
          · rw [if_pos c, Hs_cons]
            constructor
            · rintro (q | q)
              · exact q
              · exact absurd q Hs_nil
            · exact .inl
          · rw [if_neg c]
            exact ⟨fun q => absurd q Hs_nil, fun q => by omega⟩
        have pleft : Pl (if a.1 < b.1 then [(a.1, b.1)] else [] : List Span) := by
          by_cases c : a.1 < b.1
          · rw [if_pos c]
            exact ⟨c, fun y hy => (by cases hy), trivial⟩
          · rw [if_neg c]
            trivial
        by_cases c3 : b.2 < a.2
        · rw [if_pos c3]
          have q := less1_ok l (b.2, a.2) c3 hm.2.2
          refine ⟨pleft.append q.1 fun x hx y hy => ?_, fun u => ?_, fun z hz => ?_⟩
          · obtain ⟨rfl, _⟩ := left x hx
            have := (q.2.2 y hy).1
            show b.1 < y.1
            have e : b.2 ≤ y.1 := this
            omega
          · rw [Hs_append, hleft, q.2.1 u, Hs_cons]
            show _ ∨ (b.2 ≤ u ∧ u < a.2) ∧ _ ↔ _
            constructor
            · rintro (x | ⟨x, y⟩)
              · refine ⟨by omega, fun z => ?_⟩
                rcases z with z | z
                · omega
                · exact far u (by omega) z
              · refine ⟨by omega, fun z => ?_⟩
                rcases z with z | z
                · omega
                · exact y z
            · rintro ⟨x, y⟩
              by_cases c : u < b.1
              · exact .inl (by omega)
              · refine .inr ⟨?_, fun z => y (.inr z)⟩
                have : ¬ (b.1 ≤ u ∧ u < b.2) := fun z => y (.inl z)
                omega
          · rcases List.mem_append.mp hz with hz | hz
            · obtain ⟨rfl, _⟩ := left z hz
              exact ⟨Nat.le_refl _, by show b.1 ≤ a.2; omega⟩
            · have := q.2.2 z hz
              have e1 : b.2 ≤ z.1 := this.1
              exact ⟨by omega, this.2⟩
        · rw [if_neg c3, List.append_nil]
          refine ⟨pleft, fun u => ?_, fun z hz => ?_⟩
          · rw [hleft, Hs_cons]
            constructor
            · intro x
              refine ⟨by omega, fun z => ?_⟩
              rcases z with z | z
              · omega
              · exact far u (by omega) z
            · rintro ⟨x, y⟩
              have : ¬ (b.1 ≤ u ∧ u < b.2) := fun z => y (.inl z)
              omega
          · obtain ⟨rfl, _⟩ := left z hz
            exact ⟨Nat.le_refl _, by show b.1 ≤ a.2; omega⟩
theorem less_cons (x : Span) (l m : List Span) : less (x :: l) m = less1 x m ++ less l m := by
  unfold less
  rw [List.flatMap_cons]
theorem less_ok : ∀ (l m : List Span), Pl l → Pl m →
    Pl (less l m) ∧ (∀ u, Hs (less l m) u ↔ Hs l u ∧ ¬ Hs m u) ∧ ∀ z ∈ less l m, ∃ x ∈ l, x.1 ≤ z.1 ∧ z.2 ≤ x.2
  | [], m, _, _ => ⟨trivial, fun u => ⟨fun q => absurd q Hs_nil, fun q => absurd q.1 Hs_nil⟩, fun z hz => by cases hz⟩
  | x :: l, m, hl, hm => by
    have q := less1_ok m x hl.1 hm
    have ih := less_ok l m hl.2.2 hm
    rw [less_cons]
    refine ⟨q.1.append ih.1 fun y hy z hz => ?_, fun u => ?_, fun z hz => ?_⟩
    · obtain ⟨w, hw, e⟩ := ih.2.2 z hz
      have := hl.2.1 w hw
      have := q.2.2 y hy
      omega
    · rw [Hs_append, q.2.1 u, ih.2.1 u, Hs_cons]
      constructor
      · rintro (⟨a, b⟩ | ⟨a, b⟩)
        · exact ⟨.inl a, b⟩
        · exact ⟨.inr a, b⟩
      · rintro ⟨a | a, b⟩
        · exact .inl ⟨a, b⟩
        · exact .inr ⟨a, b⟩
    · rcases List.mem_append.mp hz with hz | hz
      · exact ⟨x, List.mem_cons_self .., q.2.2 z hz⟩
      · obtain ⟨w, hw, e⟩ := ih.2.2 z hz
        exact ⟨w, List.mem_cons_of_mem _ hw, e⟩
def meet1 (a : Span) (m : List Span) : List Span := m.filterMap fun (b : Span) => if max a.1 b.1 < min a.2 b.2 then some (max a.1 b.1, min a.2 b.2) else none
theorem meet1_cons (a b : Span) (m : List Span) : meet1 a (b :: m) = (if max a.1 b.1 < min a.2 b.2 then [(max a.1 b.1, min a.2 b.2)] else []) ++ meet1 a m := by
  unfold meet1
  rw [List.filterMap_cons]
  by_cases c : max a.1 b.1 < min a.2 b.2
  · rw [if_pos c, if_pos c]
    rfl
  · rw [if_neg c, if_neg c]
    rfl
theorem meet1_ok (a : Span) : ∀ (m : List Span), Pl m →
    Pl (meet1 a m) ∧ (∀ u, Hs (meet1 a m) u ↔ (a.1 ≤ u ∧ u < a.2) ∧ Hs m u) ∧ ∀ z ∈ meet1 a m, a.1 ≤ z.1 ∧ z.2 ≤ a.2 ∧ ∃ b ∈ m, b.1 ≤ z.1 ∧ z.2 ≤ b.2
  | [], _ => ⟨trivial, fun u => ⟨fun q => absurd q Hs_nil, fun q => absurd q.2 Hs_nil⟩, fun z hz => by cases hz⟩
  | b :: m, hm => by
    have ih := meet1_ok a m hm.2.2
    rw [meet1_cons]
    by_cases c : max a.1 b.1 < min a.2 b.2
    · rw [if_pos c]
      refine ⟨⟨c, fun y hy => ?_, ih.1⟩, fun u => ?_, fun z hz => ?_⟩
      · obtain ⟨_, _, w, hw, e, _⟩ := ih.2.2 y hy
        have := hm.2.1 w hw
        show min a.2 b.2 < y.1
        omega
      · rw [List.singleton_append, Hs_cons, Hs_cons, ih.2.1 u]
        show (max a.1 b.1 ≤ u ∧ u < min a.2 b.2) ∨ _ ↔ _
        constructor
        · rintro (q | ⟨q, r⟩)
          · exact ⟨by omega, .inl (by omega)⟩
          · exact ⟨q, .inr r⟩
        · rintro ⟨q, r | r⟩
          · exact .inl (by omega)
          · exact .inr ⟨q, r⟩
      · rcases List.mem_cons.mp hz with rfl | hz
        · exact ⟨by show a.1 ≤ max a.1 b.1; omega, by show min a.2 b.2 ≤ a.2; omega, b, List.mem_cons_self .., by show b.1 ≤ max a.1 b.1; omega, by show min a.2 b.2 ≤ b.2; omega⟩
        · obtain ⟨h1, h2, w, hw, e⟩ := ih.2.2 z hz
          exact ⟨h1, h2, w, List.mem_cons_of_mem _ hw, e⟩
    · rw [if_neg c, List.nil_append]
      refine ⟨ih.1, fun u => ?_, fun z hz => ?_⟩
      · rw [Hs_cons, ih.2.1 u]
        constructor
        · rintro ⟨q, r⟩
          exact ⟨q, .inr r⟩
        · rintro ⟨q, r | r⟩
          · omega
          · exact ⟨q, r⟩
      · obtain ⟨h1, h2, w, hw, e⟩ := ih.2.2 z hz
        exact ⟨h1, h2, w, List.mem_cons_of_mem _ hw, e⟩
theorem meet_cons (x : Span) (l m : List Span) : meet (x :: l) m = meet1 x m ++ meet l m := by
  unfold meet
  rw [List.flatMap_cons]
  rfl
theorem meet_ok : ∀ (l m : List Span), Pl l → Pl m →
    Pl (meet l m) ∧ (∀ u, Hs (meet l m) u ↔ Hs l u ∧ Hs m u) ∧ ∀ z ∈ meet l m, ∃ x ∈ l, x.1 ≤ z.1 ∧ z.2 ≤ x.2
  | [], m, _, _ => ⟨trivial, fun u => ⟨fun q => absurd q Hs_nil, fun q => absurd q.1 Hs_nil⟩, fun z hz => by cases hz⟩
  | x :: l, m, hl, hm => by
    have q := meet1_ok x m hm
    have ih := meet_ok l m hl.2.2 hm
    rw [meet_cons]
    refine ⟨q.1.append ih.1 fun y hy z hz => ?_, fun u => ?_, fun z hz => ?_⟩
    · obtain ⟨w, hw, e⟩ := ih.2.2 z hz
      have := hl.2.1 w hw
      have := (q.2.2 y hy).2.1
      omega
    · rw [Hs_append, q.2.1 u, ih.2.1 u, Hs_cons]
      constructor
      · rintro (⟨a, b⟩ | ⟨a, b⟩)
        · exact ⟨.inl a, b⟩
        · exact ⟨.inr a, b⟩
      · rintro ⟨a | a, b⟩
        · exact .inl ⟨a, b⟩
        · exact .inr ⟨a, b⟩
    · rcases List.mem_append.mp hz with hz | hz
      · exact ⟨x, List.mem_cons_self .., (q.2.2 z hz).1, (q.2.2 z hz).2.1⟩
      · obtain ⟨w, hw, e⟩ := ih.2.2 z hz
        exact ⟨w, List.mem_cons_of_mem _ hw, e⟩
theorem pl_one {a b : Nat} (h : a < b) : Pl [(a, b)] := ⟨h, fun y hy => (by cases hy), trivial⟩
theorem Hs_one {a b u : Nat} : Hs [(a, b)] u ↔ a ≤ u ∧ u < b := by
  rw [Hs_cons]
  exact ⟨fun q => q.elim id fun q => absurd q Hs_nil, .inl⟩
theorem within_ok {l : List Span} {a b : Nat} (hl : Pl l) (h : a < b) : Pl (within l a b) ∧ ∀ u, Hs (within l a b) u ↔ Hs l u ∧ a ≤ u ∧ u < b := by
  have q := meet_ok l [(a, b)] hl (pl_one h)
  exact ⟨q.1, fun u => (q.2.1 u).trans (and_congr_right fun _ => Hs_one)⟩
theorem common_go (s : State) (hf : ∀ i, Pl (free s i)) : ∀ (l : List Nat) (m : List Span), Pl m →
    Pl (l.foldl (fun (m : List Span) (i : Nat) => meet m (free s i)) m) ∧ ∀ u, Hs (l.foldl (fun (m : List Span) (i : Nat) => meet m (free s i)) m) u ↔ Hs m u ∧ ∀ i ∈ l, Hs (free s i) u
  | [], m, hm => ⟨hm, fun u => ⟨fun q => ⟨q, fun i hi => by cases hi⟩, fun q => q.1⟩⟩
  | i :: l, m, hm => by
    have q := meet_ok m (free s i) hm (hf i)
    have ih := common_go s hf l (meet m (free s i)) q.1
    rw [List.foldl_cons]
    refine ⟨ih.1, fun u => (ih.2 u).trans ?_⟩
    rw [q.2.1 u]
    simp only [List.mem_cons, forall_eq_or_imp, and_assoc]
theorem work_pl (p : Person) : Pl (work p) := (plain_ok _).1
theorem busy_pl (s : State) (i : Nat) (b : Bool) : Pl (busyOf s i b) := (plain_ok _).1
theorem free_pl (s : State) (i : Nat) : Pl (free s i) := (less_ok _ _ (work_pl _) (busy_pl ..)).1
theorem Hs_free (s : State) (i u : Nat) : Hs (free s i) u ↔ Hs (work (person s i)) u ∧ ¬ Hs (busyOf s i true) u := (less_ok _ _ (work_pl _) (busy_pl ..)).2.1 u
theorem Hs_busy (s : State) (i : Nat) (b : Bool) (u : Nat) : Hs (busyOf s i b) u ↔ ∃ x ∈ s.busy, x.who = i ∧ x.sure = b ∧ x.from_ ≤ u ∧ u < x.to_ := by
  rw [busyOf, (plain_ok _).2 u]
  unfold Hs
  constructor
  · rintro ⟨z, hz, q⟩
    obtain ⟨x, hx, rfl⟩ := List.mem_map.mp hz
    rw [List.mem_filter, Bool.and_eq_true, beq_iff_eq, beq_iff_eq] at hx
    exact ⟨x, hx.1, hx.2.1, hx.2.2, q⟩
  · rintro ⟨x, hx, h1, h2, q⟩
    exact ⟨(x.from_, x.to_), List.mem_map.mpr ⟨x, List.mem_filter.mpr ⟨hx, by rw [Bool.and_eq_true, beq_iff_eq, beq_iff_eq]; exact ⟨h1, h2⟩⟩, rfl⟩, q⟩
/-- when someone works: by the days of their clock -/
def WorkAt (p : Person) (u : Int) : Prop := ∃ k : Nat, k < 102 ∧ ¬ ((k : Int) - 1) ∈ p.off ∧
  1440 * ((k : Int) - 1) + ((p.hours.getD (((k : Int) - 1) % 7).toNat (0, 0)).1 : Int) - p.ahead ≤ u ∧ u < 1440 * ((k : Int) - 1) + ((p.hours.getD (((k : Int) - 1) % 7).toNat (0, 0)).2 : Int) - p.ahead
theorem Hs_work (p : Person) (u : Nat) : Hs (work p) u ↔ u < END ∧ WorkAt p u := by
  rw [work, (plain_ok _).2 u]
  unfold Hs WorkAt
  constructor
  · rintro ⟨z, hz, q⟩
    obtain ⟨k, hk, e⟩ := List.mem_filterMap.mp hz
    rw [List.mem_range] at hk
    dsimp only at e
    by_cases c : p.off.contains ((k : Int) - 1) = true
    · rw [if_pos c] at e
      cases e
    · rw [if_neg c] at e
      have e := Option.some.inj e
      subst e
      unfold cut at q
      dsimp only at q
      refine ⟨by omega, k, hk, fun h => c (List.contains_iff_mem.mpr h), by omega, by omega⟩
  · rintro ⟨hu, k, hk, hc, h1, h2⟩
    refine ⟨cut (1440 * ((k : Int) - 1) + ((p.hours.getD (((k : Int) - 1) % 7).toNat (0, 0)).1 : Int) - p.ahead) (1440 * ((k : Int) - 1) + ((p.hours.getD (((k : Int) - 1) % 7).toNat (0, 0)).2 : Int) - p.ahead),
      List.mem_filterMap.mpr ⟨k, List.mem_range.mpr hk, ?_⟩, ?_⟩
    · dsimp only
      rw [if_neg fun h => hc (List.contains_iff_mem.mp h)]
    · unfold cut
      dsimp only
      omega
theorem common_pl (s : State) (l : List Nat) : Pl (common s l) := (common_go s (free_pl s) l [(0, END)] (pl_one (by decide))).1
theorem free_lt {s : State} {i u : Nat} (h : Hs (free s i) u) : u < END := ((Hs_work _ _).mp ((Hs_free ..).mp h).1).1
theorem Hs_common (s : State) (l : List Nat) (u : Nat) : Hs (common s l) u ↔ u < END ∧ ∀ i ∈ l, Hs (free s i) u := by
  rw [common, (common_go s (free_pl s) l [(0, END)] (pl_one (by decide))).2 u, Hs_one]
  exact ⟨fun q => ⟨q.1.2, q.2⟩, fun q => ⟨⟨Nat.zero_le _, q.1⟩, q.2⟩⟩
end Fb
/-! Counting minutes; the least; first, best, most by all moments. -/
namespace Fb
open Cl04

theorem foldl_add (l : List Nat) : ∀ k : Nat, l.foldl (fun (a b : Nat) => a + b) k = k + l.foldl (fun (a b : Nat) => a + b) 0 := by
  induction l with
  | nil => intro k; rfl
  | cons x r ih =>
    intro k
    rw [List.foldl_cons, List.foldl_cons, ih (k + x), ih (0 + x)]
    omega
theorem size_nil : size [] = 0 := rfl
theorem size_cons (x : Span) (l : List Span) : size (x :: l) = (x.2 - x.1) + size l := by
  unfold size
  rw [List.map_cons, List.foldl_cons, foldl_add]
  omega
theorem size_append (l m : List Span) : size (l ++ m) = size l + size m := by
  induction l with
  | nil => rw [List.nil_append, size_nil, Nat.zero_add]
  | cons x r ih => rw [List.cons_append, size_cons, size_cons, ih]; omega
/-- how many of the n moments from t on f holds -/
def cnt (f : Nat → Bool) (t : Nat) : Nat → Nat
  | 0 => 0
  | n + 1 => cnt f t n + (f (t + n)).toNat
theorem cnt_front (f : Nat → Bool) (t : Nat) : ∀ n, cnt f t (n + 1) = (f t).toNat + cnt f (t + 1) n
  | 0 => by
    unfold cnt cnt
    rw [Nat.add_zero, Nat.zero_add, Nat.add_zero]
  | n + 1 => by
    show cnt f t (n + 1) + (f (t + (n + 1))).toNat = (f t).toNat + (cnt f (t + 1) n + (f (t + 1 + n)).toNat)
    rw [cnt_front f t n, Nat.add_assoc, show t + (n + 1) = t + 1 + n by omega]
theorem cnt_add {f : Nat → Bool} {t : Nat} : ∀ {m n : Nat}, cnt f t (m + n) = cnt f t m + cnt f (t + m) n
  | m, 0 => rfl
  | m, n + 1 => by
    show cnt f t (m + n) + (f (t + (m + n))).toNat = cnt f t m + (cnt f (t + m) n + (f (t + m + n)).toNat)
    rw [cnt_add, Nat.add_assoc, Nat.add_assoc t m n]
theorem cnt_congr {f g : Nat → Bool} {t : Nat} : ∀ {n : Nat}, (∀ u, t ≤ u → u < t + n → f u = g u) → cnt f t n = cnt g t n
  | 0, _ => rfl
  | n + 1, h => by
    show cnt f t n + (f (t + n)).toNat = cnt g t n + (g (t + n)).toNat
    rw [cnt_congr fun u h1 h2 => h u h1 (by omega), h (t + n) (by omega) (by omega)]
theorem cnt_or {f g : Nat → Bool} {t : Nat} : ∀ {n : Nat}, (∀ u, t ≤ u → u < t + n → ¬ (f u = true ∧ g u = true)) → cnt (fun u => f u || g u) t n = cnt f t n + cnt g t n
  | 0, _ => rfl
  | n + 1, h => by
    show cnt (fun u => f u || g u) t n + (f (t + n) || g (t + n)).toNat = cnt f t n + (f (t + n)).toNat + (cnt g t n + (g (t + n)).toNat)
    rw [cnt_or fun u h1 h2 => h u h1 (by omega)]
    have q := h (t + n) (by omega) (by omega)
    have e : (f (t + n) || g (t + n)).toNat = (f (t + n)).toNat + (g (t + n)).toNat := by
      cases h1 : f (t + n) <;> cases h2 : g (t + n) <;> first | rfl | exact absurd ⟨h1, h2⟩ q
    omega
theorem cnt_zero {f : Nat → Bool} {t : Nat} : ∀ {n : Nat}, (∀ u, t ≤ u → u < t + n → f u = false) → cnt f t n = 0
  | 0, _ => rfl
  | n + 1, h => by
    show cnt f t n + (f (t + n)).toNat = 0
    rw [cnt_zero fun u h1 h2 => h u h1 (by omega), h (t + n) (by omega) (by omega)]
    rfl
theorem cnt_le (f : Nat → Bool) (t : Nat) : ∀ n : Nat, cnt f t n ≤ n
  | 0 => Nat.le_refl _
  | n + 1 => by
    show cnt f t n + (f (t + n)).toNat ≤ n + 1
    have := cnt_le f t n
    have : (f (t + n)).toNat ≤ 1 := Bool.toNat_le _
    omega
theorem cnt_span (x : Span) (t : Nat) : ∀ n, cnt (fun u => decide (x.1 ≤ u) && decide (u < x.2)) t n = min x.2 (t + n) - max x.1 t
  | 0 => by
    show 0 = _
    omega
  | n + 1 => by
    show cnt (fun u => decide (x.1 ≤ u) && decide (u < x.2)) t n + (decide (x.1 ≤ t + n) && decide (t + n < x.2)).toNat = _
    rw [cnt_span x t n]
    by_cases c1 : x.1 ≤ t + n <;> by_cases c2 : t + n < x.2
    · rw [decide_eq_true c1, decide_eq_true c2]
      show _ + 1 = _
      omega
    · rw [decide_eq_true c1, decide_eq_false c2]
      show _ + 0 = _
      omega
    · rw [decide_eq_false c1, decide_eq_true c2]
      show _ + 0 = _
      omega
    · rw [decide_eq_false c1, decide_eq_false c2]
      show _ + 0 = _
      omega
theorem has_cons (x : Span) (l : List Span) (u : Nat) : has (x :: l) u = ((decide (x.1 ≤ u) && decide (u < x.2)) || has l u) := rfl
theorem within_cons (x : Span) (l : List Span) (a b : Nat) : within (x :: l) a b = (if max x.1 a < min x.2 b then [(max x.1 a, min x.2 b)] else []) ++ within l a b := by
  unfold within
  rw [meet_cons, meet1_cons]
  show _ ++ meet1 x [] ++ _ = _
  rw [show meet1 x [] = [] from rfl, List.append_nil]
theorem size_within : ∀ {l : List Span}, Pl l → ∀ (t n : Nat), size (within l t (t + n)) = cnt (has l) t n
  | [], _, t, n => (cnt_zero fun _ _ _ => rfl).symm
  | x :: l, h, t, n => by
    rw [within_cons, size_append, size_within h.2.2 t n]
    have e : cnt (has (x :: l)) t n = cnt (fun u => decide (x.1 ≤ u) && decide (u < x.2)) t n + cnt (has l) t n :=
      cnt_or (f := fun u => decide (x.1 ≤ u) && decide (u < x.2)) (g := has l) fun u _ _ ⟨q1, q2⟩ => by
        rw [Bool.and_eq_true, decide_eq_true_eq, decide_eq_true_eq] at q1
        obtain ⟨z, hz, q3, _⟩ := has_iff.mp q2
        have := h.2.1 z hz
        omega
    rw [e, cnt_span]
    by_cases c : max x.1 t < min x.2 (t + n)
    · rw [if_pos c, size_cons, size_nil]
      show min x.2 (t + n) - max x.1 t + 0 + _ = _
      omega
    · rw [if_neg c, size_nil]
      omega
theorem within_all {l : List Span} (h : Pl l) {N : Nat} (hN : 0 < N) (hb : ∀ u, Hs l u → u < N) : within l 0 N = l :=
  pl_ext (within_ok h hN).1 h fun u => ((within_ok h hN).2 u).trans ⟨fun q => q.1, fun q => ⟨q, Nat.zero_le _, hb u q⟩⟩
theorem size_all {l : List Span} (h : Pl l) {N : Nat} (hN : 0 < N) (hb : ∀ u, Hs l u → u < N) : size l = cnt (has l) 0 N := by
  have e := size_within h 0 N
  rw [Nat.zero_add, within_all h hN hb] at e
  exact e

/-! ### the least -/
/-- t has the least worth, and of these is the first -/
def Least (f : Nat → Nat) (P : Nat → Prop) (t : Nat) : Prop := P t ∧ ∀ t', P t' → f t < f t' ∨ (f t = f t' ∧ t ≤ t')
theorem Least.uniq {f : Nat → Nat} {P : Nat → Prop} {t t' : Nat} (h : Least f P t) (h' : Least f P t') : t = t' := by
  have := h.2 t' h'.1
  have := h'.2 t h.1
  omega
theorem Least.ex (f : Nat → Nat) (P : Nat → Prop) {N : Nat} (hN : ∀ t, P t → t ≤ N) {t : Nat} (h : P t) : ∃ t', Least f P t' := by
  -- by the pair (worth, moment) as one number
  have key : ∀ (k : Nat) (t : Nat), P t → f t * (N + 1) + t ≤ k → ∃ t', Least f P t' := by
    intro k
    induction k with
    | zero =>
      intro t ht hk
      refine ⟨t, ht, fun t' _ => ?_⟩
      have e0 : f t * (N + 1) = 0 := by omega
      have e1 : f t = 0 := by
        rcases Nat.mul_eq_zero.mp e0 with q | q
        · exact q
        · omega
      omega
    | succ k ih =>
      intro t ht hk
      by_cases c : ∃ t', P t' ∧ ¬ (f t < f t' ∨ (f t = f t' ∧ t ≤ t'))
      · obtain ⟨t', ht', hn⟩ := c
        refine ih t' ht' ?_
        have b := hN t' ht'
        by_cases c2 : f t' = f t
        · rw [c2]
          omega
        · have c3 : f t' + 1 ≤ f t := by omega
          have := Nat.mul_le_mul_right (N + 1) c3
          rw [Nat.add_mul] at this
          omega
      · refine ⟨t, ht, fun t' ht' => ?_⟩
        by_cases d : f t < f t' ∨ (f t = f t' ∧ t ≤ t')
        · exact d
        · exact absurd ⟨t', ht', d⟩ c
  exact key _ t h (Nat.le_refl _)
def leastStep (f : Nat → Nat) (m : Option (Nat × Nat)) (t : Nat) : Option (Nat × Nat) := match m with
  | none => some (t, f t)
  | some y => let z := f t
    if z < y.2 ∨ (z = y.2 ∧ t < y.1) then some (t, z) else some y
theorem least_go (f : Nat → Nat) : ∀ (l : List Nat) (P : Nat → Prop) (t : Nat), Least f P t → ∃ t', l.foldl (leastStep f) (some (t, f t)) = some (t', f t') ∧ Least f (fun u => P u ∨ u ∈ l) t'
  | [], P, t, h => ⟨t, rfl, .inl h.1, fun t' q => h.2 t' (q.elim id fun q => by cases q)⟩
  | x :: l, P, t, h => by
    rw [List.foldl_cons]
    have h2 : Least f (fun u => P u ∨ u = x) (if f x < f t ∨ (f x = f t ∧ x < t) then x else t) := by
      by_cases c : f x < f t ∨ (f x = f t ∧ x < t)
      · rw [if_pos c]
        refine ⟨.inr rfl, fun t' q => ?_⟩
        rcases q with q | rfl
        · have := h.2 t' q
          omega
        · exact .inr ⟨rfl, Nat.le_refl _⟩
      · rw [if_neg c]
        refine ⟨.inl h.1, fun t' q => ?_⟩
        rcases q with q | rfl
        · exact h.2 t' q
        · omega
    have e : leastStep f (some (t, f t)) x = some ((if f x < f t ∨ (f x = f t ∧ x < t) then x else t), f (if f x < f t ∨ (f x = f t ∧ x < t) then x else t)) := by
      unfold leastStep
      dsimp only
      by_cases c : f x < f t ∨ (f x = f t ∧ x < t)
      · rw [if_pos c, if_pos c]
      · rw [if_neg c, if_neg c]
    rw [e]
    obtain ⟨t', q1, q2⟩ := least_go f l (fun u => P u ∨ u = x) _ h2
    refine ⟨t', q1, ?_, fun u hu => q2.2 u ?_⟩
    · rcases q2.1 with (q | q) | q
      · exact .inl q
      · exact .inr (q ▸ List.mem_cons_self ..)
      · exact .inr (List.mem_cons_of_mem _ q)
    · rcases hu with hu | hu
      · exact .inl (.inl hu)
      · rcases List.mem_cons.mp hu with hu | hu
        · exact .inl (.inr hu)
        · exact .inr hu
theorem least_some {f : Nat → Nat} {l : List Nat} (h : l ≠ []) : ∃ t, least f l = some (t, f t) ∧ Least f (· ∈ l) t := by
  match l, h with
  | x :: l, _ =>
    obtain ⟨t, q1, q2⟩ := least_go f l (· = x) x ⟨rfl, fun t' e => .inr ⟨by rw [e], by omega⟩⟩
    refine ⟨t, q1, ?_, fun u hu => q2.2 u ?_⟩
    · rcases q2.1 with q | q
      · exact q ▸ List.mem_cons_self ..
      · exact List.mem_cons_of_mem _ q
    · exact List.mem_cons.mp hu
theorem least_nil {f : Nat → Nat} : least f [] = none := rfl
/-- where the first least of all those with P stands among the list, and all of the list have P, it is what is found -/
theorem least_is {f : Nat → Nat} {l : List Nat} {P : Nat → Prop} (hl : ∀ t ∈ l, P t) {t : Nat} (h : Least f P t) (hm : t ∈ l) : least f l = some (t, f t) := by
  obtain ⟨t', q1, q2⟩ := least_some (f := f) (l := l) (fun e => by rw [e] at hm; cases hm)
  have e : t' = t := q2.uniq ⟨hm, fun u hu => h.2 u (hl u hu)⟩
  rw [q1, e]

/-! ### all through -/
/-- from t on so long, all minutes -/
def Thru (l : List Span) (t n : Nat) : Prop := ∀ u, t ≤ u → u < t + n → Hs l u
theorem thru_iff {l : List Span} (h : Pl l) {t n : Nat} (hn : 0 < n) : Thru l t n ↔ ∃ x ∈ l, x.1 ≤ t ∧ t + n ≤ x.2 := by
  constructor
  · induction l with
    | nil => intro q; exact absurd (q t (Nat.le_refl _) (by omega)) Hs_nil
    | cons x r ih =>
      intro q
      by_cases c : x.1 ≤ t ∧ t < x.2
      · refine ⟨x, List.mem_cons_self .., c.1, ?_⟩
        by_cases d : t + n ≤ x.2
        · exact d
        · rcases Hs_cons.mp (q x.2 (by omega) (by omega)) with b | ⟨z, hz, b, _⟩
          · omega
          · have := h.2.1 z hz
            omega
      · have q' : Thru r t n := fun u h1 h2 => by
          rcases Hs_cons.mp (q u h1 h2) with b | b
          · rcases Hs_cons.mp (q t (Nat.le_refl _) (by omega)) with d | ⟨z, hz, d, _⟩
            · exact absurd d c
            · have := h.2.1 z hz
              omega
          · exact b
        obtain ⟨z, hz, e⟩ := ih h.2.2 q'
        exact ⟨z, List.mem_cons_of_mem _ hz, e⟩
  · rintro ⟨x, hx, h1, h2⟩ u h3 h4
    exact ⟨x, hx, by omega, by omega⟩
theorem thru_any {l : List Span} (h : Pl l) {t n : Nat} (hn : 0 < n) : (l.any fun (x : Span) => decide (x.1 ≤ t) && decide (t + n ≤ x.2)) = true ↔ Thru l t n := by
  rw [thru_iff h hn, List.any_eq_true]
  simp only [Bool.and_eq_true, decide_eq_true_eq]
/-- so long within the window, all free -/
def Fit (c : List Span) (n a b t : Nat) : Prop := a ≤ t ∧ t + n ≤ b ∧ Thru c t n
theorem fits_iff {c : List Span} (h : Pl c) {n a b t : Nat} (hn : 0 < n) : fits c n a b t = true ↔ Fit c n a b t := by
  unfold fits Fit
  rw [Bool.and_eq_true, Bool.and_eq_true, decide_eq_true_eq, decide_eq_true_eq, thru_any h hn]

/-! ### first -/
theorem ceil_ok {m g : Nat} (hg : 0 < g) : g ∣ (m + g - 1) / g * g ∧ m ≤ (m + g - 1) / g * g ∧ ∀ t, g ∣ t → m ≤ t → (m + g - 1) / g * g ≤ t := by
  refine ⟨Nat.dvd_mul_left _ _, ?_, ?_⟩
  · have := Nat.div_add_mod (m + g - 1) g
    have := Nat.mod_lt (m + g - 1) hg
    rw [Nat.mul_comm]
    omega
  · rintro t ⟨k, rfl⟩ h
    rw [Nat.mul_comm]
    refine Nat.mul_le_mul_left _ ?_
    refine Nat.le_of_lt_succ ((Nat.div_lt_iff_lt_mul hg).mpr ?_)
    show _ < (k + 1) * g
    rw [Nat.add_mul, Nat.mul_comm k g]
    omega
theorem first_go {a b n g : Nat} (hg : 0 < g) (hn : 0 < n) : ∀ {c : List Span}, Pl c →
    match c.findSome? fun (x : Span) => let t := (max x.1 a + g - 1) / g * g; if t + n ≤ min x.2 b then some t else none with
    | none => ∀ t, Fit c n a b t → ¬ g ∣ t
    | some t => Fit c n a b t ∧ g ∣ t ∧ ∀ t', Fit c n a b t' → g ∣ t' → t ≤ t'
  | [], _ => fun t q _ => absurd (q.2.2 t (Nat.le_refl _) (by omega)) Hs_nil
  | x :: c, h => by
    have ih := first_go (a := a) (b := b) hg hn h.2.2
    have ce := ceil_ok (m := max x.1 a) hg
    rw [List.findSome?_cons]
    dsimp only at ih ⊢
    have split : ∀ t, Fit (x :: c) n a b t ↔ (a ≤ t ∧ t + n ≤ b ∧ x.1 ≤ t ∧ t + n ≤ x.2) ∨ Fit c n a b t := fun t => by
      unfold Fit
      rw [thru_iff h hn, thru_iff h.2.2 hn]
      simp only [List.mem_cons, exists_eq_or_imp]
      constructor
      · rintro ⟨q1, q2, q3 | q3⟩
        · exact .inl ⟨q1, q2, q3⟩
        · exact .inr ⟨q1, q2, q3⟩
      · rintro (⟨q1, q2, q3⟩ | ⟨q1, q2, q3⟩)
        · exact ⟨q1, q2, .inl q3⟩
        · exact ⟨q1, q2, .inr q3⟩
    have later : ∀ t, Fit c n a b t → x.2 < t := fun t q => by
      obtain ⟨z, hz, q1, _⟩ := (thru_iff h.2.2 hn).mp q.2.2
      have := h.2.1 z hz
      omega
    by_cases k : (max x.1 a + g - 1) / g * g + n ≤ min x.2 b
    · rw [if_pos k]
      dsimp only
      refine ⟨(split _).mpr (.inl ⟨by omega, by omega, by omega, by omega⟩), ce.1, fun t' q d => ?_⟩
      rcases (split t').mp q with q | q
      · exact ce.2.2 t' d (by omega)
      · have := later t' q
        omega
    · rw [if_neg k]
      dsimp only
      have no : ∀ t, g ∣ t → ¬ (a ≤ t ∧ t + n ≤ b ∧ x.1 ≤ t ∧ t + n ≤ x.2) := fun t d q => by
        have := ce.2.2 t d (by omega)
        omega
      cases e : c.findSome? fun (x : Span) => if (max x.1 a + g - 1) / g * g + n ≤ min x.2 b then some ((max x.1 a + g - 1) / g * g) else none with
      | none =>
        rw [e] at ih
        intro t q d
        rcases (split t).mp q with q | q
        · exact no t d q
        · exact ih t q d
      | some t =>
        rw [e] at ih
        refine ⟨(split _).mpr (.inr ih.1), ih.2.1, fun t' q d => ?_⟩
        rcases (split t').mp q with q | q
        · exact absurd q (no t' d)
        · exact ih.2.2 t' q d
theorem first_none {s : State} {l : List Nat} {n a b g : Nat} (hg : 0 < g) (hn : 0 < n) (h : ∀ t, Fit (common s l) n a b t → ¬ g ∣ t) : first s l n a b g = none := by
  have q := first_go (a := a) (b := b) (n := n) hg hn (common_pl s l)
  unfold first
  revert q
  cases (common s l).findSome? fun (x : Span) => let t := (max x.1 a + g - 1) / g * g; if t + n ≤ min x.2 b then some t else none with
  | none => intro _; rfl
  | some t => intro q; exact absurd q.2.1 (h t q.1)
theorem first_some {s : State} {l : List Nat} {n a b g t : Nat} (hg : 0 < g) (hn : 0 < n) (h1 : Fit (common s l) n a b t) (h2 : g ∣ t) (h3 : ∀ t', Fit (common s l) n a b t' → g ∣ t' → t ≤ t') : first s l n a b g = some t := by
  have q := first_go (a := a) (b := b) (n := n) hg hn (common_pl s l)
  unfold first
  revert q
  cases (common s l).findSome? fun (x : Span) => let t := (max x.1 a + g - 1) / g * g; if t + n ≤ min x.2 b then some t else none with
  | none => intro q; exact absurd h2 (q t h1)
  | some t' =>
    intro q
    have := q.2.2 t h1 h2
    have := h3 t' q.1 q.2.1
    exact congrArg some (by omega)

/-! ### best -/
theorem cost_nil (n t : Nat) : cost [] n t = 0 := rfl
theorem cost_cons (x : List Span) (p : List (List Span)) (n t : Nat) : cost (x :: p) n t = size (within x t (t + n)) + cost p n t := by
  unfold cost
  rw [List.map_cons, List.foldl_cons, foldl_add]
  omega
/-- how many of the rows have the minute -/
def many (p : List (List Span)) (u : Nat) : Nat := (p.filter fun l => has l u).length
theorem many_cons (x : List Span) (p : List (List Span)) (u : Nat) : many (x :: p) u = (has x u).toNat + many p u := by
  unfold many
  rw [List.filter_cons]
  cases has x u
  · exact (Nat.zero_add _).symm
  · show _ + 1 = 1 + _
    omega
theorem cost_shift : ∀ (p : List (List Span)), (∀ l ∈ p, Pl l) → ∀ n t, cost p n t + many p (t + n) = many p t + cost p n (t + 1)
  | [], _, n, t => rfl
  | x :: p, h, n, t => by
    have ih := cost_shift p (fun l hl => h l (List.mem_cons_of_mem _ hl)) n t
    rw [cost_cons, cost_cons, many_cons, many_cons, size_within (h x (List.mem_cons_self ..)), size_within (h x (List.mem_cons_self ..))]
    have e := cnt_front (has x) t n
    have e2 : cnt (has x) t (n + 1) = cnt (has x) t n + (has x (t + n)).toNat := rfl
    omega
theorem has_step {l : List Span} {u : Nat} (hu : 0 < u) (h : ∀ x ∈ l, x.1 ≠ u ∧ x.2 ≠ u) : has l (u - 1) = has l u := by
  rw [Bool.eq_iff_iff, has_iff, has_iff]
  constructor
  · rintro ⟨x, hx, q⟩
    exact ⟨x, hx, by have := h x hx; omega⟩
  · rintro ⟨x, hx, q⟩
    exact ⟨x, hx, by have := h x hx; omega⟩
theorem many_step {p : List (List Span)} {u : Nat} (hu : 0 < u) (h : ∀ l ∈ p, ∀ x ∈ l, x.1 ≠ u ∧ x.2 ≠ u) : many p (u - 1) = many p u := by
  unfold many
  congr 1
  refine List.filter_congr fun l hl => has_step hu (h l hl)
theorem mem_ends {c : List Span} {p : List (List Span)} {a b t : Nat} : t ∈ ends c p a b ↔ t = a ∨ t = b ∨ (∃ x ∈ c, t = x.1 ∨ t = x.2) ∨ ∃ l ∈ p, ∃ x ∈ l, t = x.1 ∨ t = x.2 := by
  unfold ends
  rw [List.mem_cons, List.mem_cons, List.mem_flatMap]
  refine or_congr_right (or_congr_right ?_)
  simp only [List.mem_append, List.mem_flatten, List.mem_cons, List.not_mem_nil, or_false]
  constructor
  · rintro ⟨x, hx | ⟨l, hl, hx⟩, q⟩
    · exact .inl ⟨x, hx, q⟩
    · exact .inr ⟨l, hl, x, hx, q⟩
  · rintro (⟨x, hx, q⟩ | ⟨l, hl, x, hx, q⟩)
    · exact ⟨x, .inl hx, q⟩
    · exact ⟨x, .inr ⟨l, hl, hx⟩, q⟩
/-- the first of the cheapest begins or ends at a moment that matters -/
theorem best_cand {c : List Span} {p : List (List Span)} {n a b t : Nat} (hc : Pl c) (hp : ∀ l ∈ p, Pl l) (hn : 0 < n) (h : Least (cost p n) (Fit c n a b) t) : t ∈ ends c p a b ∨ t + n ∈ ends c p a b := by
  by_cases q1 : t ∈ ends c p a b
  · exact .inl q1
  by_cases q2 : t + n ∈ ends c p a b
  · exact .inr q2
  exfalso
  rw [mem_ends] at q1 q2
  have ta : t ≠ a := fun e => q1 (.inl e)
  have tb : t + n ≠ b := fun e => q2 (.inr (.inl e))
  obtain ⟨f1, f2, f3⟩ := h.1
  obtain ⟨x, hx, x1, x2⟩ := (thru_iff hc hn).mp f3
  have tx : t ≠ x.1 := fun e => q1 (.inr (.inr (.inl ⟨x, hx, .inl e⟩)))
  have ty : t + n ≠ x.2 := fun e => q2 (.inr (.inr (.inl ⟨x, hx, .inr e⟩)))
  have fm : Fit c n a b (t - 1) := ⟨by omega, by omega, (thru_iff hc hn).mpr ⟨x, hx, by omega, by omega⟩⟩
  have fp : Fit c n a b (t + 1) := ⟨by omega, by omega, (thru_iff hc hn).mpr ⟨x, hx, by omega, by omega⟩⟩
  have m1 : many p (t - 1) = many p t := many_step (by omega) fun l hl x hx =>
    ⟨fun e => q1 (.inr (.inr (.inr ⟨l, hl, x, hx, .inl e.symm⟩))), fun e => q1 (.inr (.inr (.inr ⟨l, hl, x, hx, .inr e.symm⟩)))⟩
  have m2 : many p (t + n - 1) = many p (t + n) := many_step (by omega) fun l hl x hx =>
    ⟨fun e => q2 (.inr (.inr (.inr ⟨l, hl, x, hx, .inl e.symm⟩))), fun e => q2 (.inr (.inr (.inr ⟨l, hl, x, hx, .inr e.symm⟩)))⟩
  have s1 := cost_shift p hp n t
  have s2 := cost_shift p hp n (t - 1)
  rw [show t - 1 + 1 = t by omega, show t - 1 + n = t + n - 1 by omega, m1, m2] at s2
  have l1 := h.2 _ fm
  have l2 := h.2 _ fp
  omega
theorem fit_le {c : List Span} {n a b t : Nat} (h : Fit c n a b t) : t ≤ b := by
  have := h.2.1
  omega
theorem best_some {s : State} {l : List Nat} {n a b t : Nat} (hn : 0 < n) (h : Least (cost (l.map fun (i : Nat) => busyOf s i false) n) (Fit (common s l) n a b) t) :
    best s l n a b = some (t, cost (l.map fun (i : Nat) => busyOf s i false) n t) := by
  have hp : ∀ m ∈ l.map fun (i : Nat) => busyOf s i false, Pl m := fun m hm => by
    obtain ⟨i, _, rfl⟩ := List.mem_map.mp hm
    exact busy_pl ..
  unfold best
  dsimp only
  refine least_is (P := Fit (common s l) n a b) (fun u hu => ?_) h ?_
  · exact (fits_iff (common_pl s l) hn).mp (List.mem_filter.mp hu).2
  · refine List.mem_filter.mpr ⟨?_, (fits_iff (common_pl s l) hn).mpr h.1⟩
    rcases best_cand (common_pl s l) hp hn h with q | q
    · exact List.mem_append_left _ q
    · refine List.mem_append_right _ (List.mem_map.mpr ⟨t + n, List.mem_filter.mpr ⟨q, decide_eq_true (by omega)⟩, by omega⟩)
theorem best_none {s : State} {l : List Nat} {n a b : Nat} (hn : 0 < n) (h : ∀ t, ¬ Fit (common s l) n a b t) : best s l n a b = none := by
  unfold best
  dsimp only
  rw [List.filter_eq_nil_iff.mpr fun u _ q => h u ((fits_iff (common_pl s l) hn).mp q)]
  rfl

/-! ### most -/
def fr (s : State) (l : List Nat) : List (Nat × List Span) := l.map fun (i : Nat) => (i, free s i)
theorem through_eq (s : State) (l : List Nat) (t n : Nat) : through (fr s l) t n = l.filter fun i => (free s i).any fun (x : Span) => decide (x.1 ≤ t) && decide (t + n ≤ x.2) := by
  unfold through fr
  induction l with
  | nil => rfl
  | cons i r ih =>
    rw [List.map_cons, List.filter_cons, List.filter_cons]
    by_cases c : ((free s i).any fun (x : Span) => decide (x.1 ≤ t) && decide (t + n ≤ x.2)) = true
    · rw [if_pos c, if_pos c, List.map_cons, ih]
    · rw [if_neg c, if_neg c, ih]
theorem through_le (s : State) (l : List Nat) (t n : Nat) : (through (fr s l) t n).length ≤ l.length := by
  rw [through_eq]
  exact List.length_filter_le _ _
theorem filter_le {α : Type} {f g : α → Bool} : ∀ (l : List α), (∀ x ∈ l, f x = true → g x = true) → (l.filter f).length ≤ (l.filter g).length
  | [], _ => Nat.le_refl _
  | x :: l, h => by
    have ih := filter_le (f := f) (g := g) l fun y hy => h y (List.mem_cons_of_mem _ hy)
    rw [List.filter_cons, List.filter_cons]
    by_cases c : f x = true
    · rw [if_pos c, if_pos (h x (List.mem_cons_self ..) c), List.length_cons, List.length_cons]
      omega
    · rw [if_neg c]
      by_cases d : g x = true
      · rw [if_pos d, List.length_cons]
        omega
      · rw [if_neg d]
        exact ih
theorem most_cand {s : State} {l : List Nat} {n a b t : Nat} (h : Least (fun t => l.length - (through (fr s l) t n).length) (fun t => a ≤ t ∧ t + n ≤ b) t) :
    t = a ∨ ∃ i ∈ l, ∃ x ∈ free s i, t = x.1 := by
  by_cases q : t = a ∨ ∃ i ∈ l, ∃ x ∈ free s i, t = x.1
  · exact q
  exfalso
  have ta : t ≠ a := fun e => q (.inl e)
  have h1 := h.1
  have l1 := h.2 (t - 1) (by omega)
  have up : (through (fr s l) t n).length ≤ (through (fr s l) (t - 1) n).length := by
    rw [through_eq, through_eq]
    refine filter_le _ fun i hi e => ?_
    rw [List.any_eq_true] at e ⊢
    obtain ⟨x, hx, e⟩ := e
    rw [Bool.and_eq_true, decide_eq_true_eq, decide_eq_true_eq] at e
    have : t ≠ x.1 := fun z => q (.inr ⟨i, hi, x, hx, z⟩)
    exact ⟨x, hx, by rw [Bool.and_eq_true, decide_eq_true_eq, decide_eq_true_eq]; omega⟩
  dsimp only at l1
  omega
theorem most_some {s : State} {l : List Nat} {n a b t : Nat} (h : Least (fun t => l.length - (through (fr s l) t n).length) (fun t => a ≤ t ∧ t + n ≤ b) t) :
    most s l n a b = some (t, through (fr s l) t n) := by
  unfold most
  dsimp only
  have e : least (fun t => l.length - (through (fr s l) t n).length) ((a :: (fr s l).flatMap fun (y : Nat × List Span) => y.2.map fun (x : Span) => x.1).filter fun (t : Nat) => decide (a ≤ t) && decide (t + n ≤ b)) = some (t, l.length - (through (fr s l) t n).length) := by
    refine least_is (f := fun t => l.length - (through (fr s l) t n).length) (P := fun t => a ≤ t ∧ t + n ≤ b) (fun u hu => ?_) h ?_
    · have := (List.mem_filter.mp hu).2
      rw [Bool.and_eq_true, decide_eq_true_eq, decide_eq_true_eq] at this
      exact this
    · refine List.mem_filter.mpr ⟨?_, by rw [Bool.and_eq_true, decide_eq_true_eq, decide_eq_true_eq]; exact h.1⟩
      rcases most_cand h with q | ⟨i, hi, x, hx, q⟩
      · exact q ▸ List.mem_cons_self ..
      · exact List.mem_cons_of_mem _ (List.mem_flatMap.mpr ⟨(i, free s i), List.mem_map.mpr ⟨i, hi, rfl⟩, List.mem_map.mpr ⟨x, hx, q.symm⟩⟩)
  show (least (fun t => l.length - (through (fr s l) t n).length) ((a :: (fr s l).flatMap fun (y : Nat × List Span) => y.2.map fun (x : Span) => x.1).filter fun (t : Nat) => decide (a ≤ t) && decide (t + n ≤ b))).map (fun (m : Nat × Nat) => (m.1, through (fr s l) m.1 n)) = _
  rw [e]
  rfl
theorem most_none {s : State} {l : List Nat} {n a b : Nat} (h : b < a + n) : most s l n a b = none := by
  unfold most
  dsimp only
  rw [List.filter_eq_nil_iff.mpr fun u _ q => by
    rw [Bool.and_eq_true, decide_eq_true_eq, decide_eq_true_eq] at q
    omega]
  rfl
theorem through_mem {s : State} {l : List Nat} {t n : Nat} : through (fr s l) t n = l.filter fun i => decide (∃ x ∈ free s i, x.1 ≤ t ∧ t + n ≤ x.2) := by
  rw [through_eq]
  refine List.filter_congr fun i _ => ?_
  rw [Bool.eq_iff_iff, List.any_eq_true, decide_eq_true_eq]
  simp only [Bool.and_eq_true, decide_eq_true_eq]
end Fb
/-! The cheapest: candidates, the fold. -/
namespace Fb
open Cl04
def bestStep (f : Int → Int) (o : Option (Int × Int)) (m : Int) : Option (Int × Int) := match o with
  | none => some (m, f m)
  | some y => if f m < y.2 then some (m, f m) else some y
def bestM (f : Int → Int) (cs : List Int) : Option (Int × Int) := cs.foldl (bestStep f) none
theorem best_go (f : Int → Int) : ∀ (cs D : List Int) (t : Int), cs.Pairwise (· ≤ ·) → t ∈ D → (∀ d ∈ D, f t < f d ∨ (f t = f d ∧ t ≤ d)) → (∀ d ∈ D, ∀ c ∈ cs, d ≤ c) →
    ∃ t', cs.foldl (bestStep f) (some (t, f t)) = some (t', f t') ∧ t' ∈ D ++ cs ∧ ∀ d ∈ D ++ cs, f t' < f d ∨ (f t' = f d ∧ t' ≤ d)
  | [], D, t, _, h1, h2, _ => ⟨t, rfl, by rw [List.append_nil]; exact h1, by rw [List.append_nil]; exact h2⟩
  | c :: cs, D, t, hp, h1, h2, h3 => by
    obtain ⟨hp1, hp2⟩ := List.pairwise_cons.mp hp
    rw [List.foldl_cons]
    have hle : ∀ d ∈ D ++ [c], ∀ c' ∈ cs, d ≤ c' := fun d hd c' hc' => by
      rcases List.mem_append.mp hd with hd | hd
      · exact h3 d hd c' (List.mem_cons_of_mem _ hc')
      · rcases List.mem_cons.mp hd with rfl | hd
        · exact hp1 c' hc'
        · cases hd
    have app : D ++ c :: cs = D ++ [c] ++ cs := by rw [List.append_assoc]; rfl
    by_cases q : f c < f t
    · have e : bestStep f (some (t, f t)) c = some (c, f c) := if_pos q
      rw [e, app]
      refine best_go f cs (D ++ [c]) c hp2 (List.mem_append_right _ (List.mem_cons_self ..)) (fun d hd => ?_) hle
      rcases List.mem_append.mp hd with hd | hd
      · have := h2 d hd
        omega
      · rcases List.mem_cons.mp hd with rfl | hd
        · exact .inr ⟨rfl, Int.le_refl _⟩
        · cases hd
    · have e : bestStep f (some (t, f t)) c = some (t, f t) := if_neg q
      rw [e, app]
      refine best_go f cs (D ++ [c]) t hp2 (List.mem_append_left _ h1) (fun d hd => ?_) hle
      rcases List.mem_append.mp hd with hd | hd
      · exact h2 d hd
      · rcases List.mem_cons.mp hd with rfl | hd
        · have := h3 t h1 d (List.mem_cons_self ..)
          omega
        · cases hd
theorem bestM_some (f : Int → Int) {cs : List Int} (hs : cs.Pairwise (· ≤ ·)) (hne : cs ≠ []) : ∃ t, bestM f cs = some (t, f t) ∧ t ∈ cs ∧ ∀ d ∈ cs, f t < f d ∨ (f t = f d ∧ t ≤ d) := by
  match cs, hne with
  | c :: cs, _ =>
    obtain ⟨hp1, hp2⟩ := List.pairwise_cons.mp hs
    have q := best_go f cs [c] c hp2 (List.mem_cons_self ..) (fun d hd => by
      rcases List.mem_cons.mp hd with rfl | hd
      · exact .inr ⟨rfl, Int.le_refl _⟩
      · cases hd) (fun d hd c' hc' => by
      rcases List.mem_cons.mp hd with rfl | hd
      · exact hp1 c' hc'
      · cases hd)
    exact q
/-- where from on it may be, of one stretch -/
def cands1 (n : Int) (ns : List Int) (x : Int × Int) : List Int := if x.1 ≤ x.2 - n then [x.1] ++ ns.filter (fun k => decide (x.1 < k) && decide (k < x.2 - n)) ++ [x.2 - n] else []
def cands (n : Int) (ns : List Int) (l : List (Int × Int)) : List Int := l.flatMap (cands1 n ns)
theorem mem_cands1 {n : Int} {ns : List Int} {x : Int × Int} {t : Int} : t ∈ cands1 n ns x ↔ x.1 ≤ x.2 - n ∧ (t = x.1 ∨ t = x.2 - n ∨ (t ∈ ns ∧ x.1 < t ∧ t < x.2 - n)) := by
  unfold cands1
  by_cases c : x.1 ≤ x.2 - n
  · rw [if_pos c]
    simp only [List.mem_append, List.mem_cons, List.not_mem_nil, or_false, List.mem_filter, Bool.and_eq_true, decide_eq_true_eq]
    constructor
    · rintro ((h | h) | h)
      · exact ⟨c, .inl h⟩
      · exact ⟨c, .inr (.inr h)⟩
      · exact ⟨c, .inr (.inl h)⟩
    · rintro ⟨_, h | h | h⟩
      · exact .inl (.inl h)
      · exact .inr h
      · exact .inl (.inr h)
  · rw [if_neg c]
    exact ⟨fun h => (by cases h), fun h => absurd h.1 c⟩
theorem cands1_sorted {n : Int} {ns : List Int} (hs : ns.Pairwise (· ≤ ·)) (x : Int × Int) : (cands1 n ns x).Pairwise (· ≤ ·) := by
  unfold cands1
  by_cases c : x.1 ≤ x.2 - n
  · rw [if_pos c]
    rw [List.pairwise_append, List.pairwise_append]
    refine ⟨⟨List.pairwise_singleton _ _, hs.filter _, fun a ha b hb => ?_⟩, List.pairwise_singleton _ _, fun a ha b hb => ?_⟩
    · rcases List.mem_cons.mp ha with rfl | ha
      · have := (List.mem_filter.mp hb).2
        rw [Bool.and_eq_true, decide_eq_true_eq, decide_eq_true_eq] at this
        omega
      · cases ha
    · rcases List.mem_cons.mp hb with rfl | hb
      · rcases List.mem_append.mp ha with ha | ha
        · rcases List.mem_cons.mp ha with rfl | ha
          · exact c
          · cases ha
        · have := (List.mem_filter.mp ha).2
          rw [Bool.and_eq_true, decide_eq_true_eq, decide_eq_true_eq] at this
          omega
      · cases hb
  · rw [if_neg c]
    exact List.Pairwise.nil
theorem cands_sorted {n : Int} (hn : 0 < n) {ns : List Int} (hs : ns.Pairwise (· ≤ ·)) : ∀ {l : List (Int × Int)}, l.Pairwise (fun x y => x.2 ≤ y.1) → (cands n ns l).Pairwise (· ≤ ·)
  | [], _ => List.Pairwise.nil
  | x :: l, h => by
    obtain ⟨h1, h2⟩ := List.pairwise_cons.mp h
    unfold cands
    rw [List.flatMap_cons, List.pairwise_append]
    refine ⟨cands1_sorted hs x, cands_sorted hn hs h2, fun a ha b hb => ?_⟩
    obtain ⟨y, hy, hb⟩ := List.mem_flatMap.mp hb
    have q1 := mem_cands1.mp ha
    have q2 := mem_cands1.mp hb
    have := h1 y hy
    omega
/-! ### the first cheapest is a candidate -/
theorem has_of {l : List Span} {u v : Nat} (h : ∀ x ∈ l, x.1 ≤ u → u < x.2 → x.1 ≤ v ∧ v < x.2) : has l u = true → has l v = true := fun q => by
  rw [has_iff] at q ⊢
  obtain ⟨x, hx, q1, q2⟩ := q
  exact ⟨x, hx, h x hx q1 q2⟩
theorem many_le {p : List (List Span)} {u v : Nat} (h : ∀ l ∈ p, ∀ x ∈ l, x.1 ≤ u → u < x.2 → x.1 ≤ v ∧ v < x.2) : many p u ≤ many p v := by
  unfold many
  exact filter_le p fun l hl q => has_of (h l hl) q
theorem best_cand2 {c : List Span} {p : List (List Span)} {n a b t : Nat} (hc : Pl c) (hw : ∀ x ∈ c, a ≤ x.1 ∧ x.2 ≤ b) (hp : ∀ l ∈ p, Pl l) (hn : 0 < n) (h : Least (cost p n) (Fit c n a b) t) :
    ∃ x ∈ c, x.1 ≤ t ∧ t + n ≤ x.2 ∧ (t = x.1 ∨ t + n = x.2 ∨ ∃ l ∈ p, ∃ y ∈ l, t + n = y.1 ∨ t = y.2) := by
  obtain ⟨f1, f2, f3⟩ := h.1
  obtain ⟨x, hx, x1, x2⟩ := (thru_iff hc hn).mp f3
  refine ⟨x, hx, x1, x2, ?_⟩
  by_cases tx : t = x.1
  · exact .inl tx
  by_cases ty : t + n = x.2
  · exact .inr (.inl ty)
  by_cases q : ∃ l ∈ p, ∃ y ∈ l, t + n = y.1 ∨ t = y.2
  · exact .inr (.inr q)
  exfalso
  have hwx := hw x hx
  have fm : Fit c n a b (t - 1) := ⟨by omega, by omega, (thru_iff hc hn).mpr ⟨x, hx, by omega, by omega⟩⟩
  have fp : Fit c n a b (t + 1) := ⟨by omega, by omega, (thru_iff hc hn).mpr ⟨x, hx, by omega, by omega⟩⟩
  have m1 : many p (t - 1) ≤ many p t := many_le fun l hl y hy q1 q2 => by
    have : t ≠ y.2 := fun e => q ⟨l, hl, y, hy, .inr e⟩
    omega
  have m2 : many p (t + n) ≤ many p (t + n - 1) := many_le fun l hl y hy q1 q2 => by
    have : t + n ≠ y.1 := fun e => q ⟨l, hl, y, hy, .inl e⟩
    omega
  have s1 := cost_shift p hp n t
  have s2 := cost_shift p hp n (t - 1)
  rw [show t - 1 + 1 = t by omega, show t - 1 + n = t + n - 1 by omega] at s2
  have l1 := h.2 _ fm
  have l2 := h.2 _ fp
  omega
/-! ### what it takes, by whole numbers -/
def mt1 (b e : Int) (x : Int × Int) : Int := max 0 (min e x.2 - max b x.1)
theorem size_one (x : Span) (t n : Nat) : ((size (within [x] t (t + n)) : Nat) : Int) = mt1 t (t + n) ((x.1 : Int), (x.2 : Int)) := by
  rw [within_cons, size_append]
  show ((_ + size [] : Nat) : Int) = max 0 (min ((t : Int) + (n : Int)) (x.2 : Int) - max (t : Int) (x.1 : Int))
  rw [size_nil]
  by_cases c : max x.1 t < min x.2 (t + n)
  · rw [if_pos c, size_cons, size_nil]
    show ((min x.2 (t + n) - max x.1 t + 0 + 0 : Nat) : Int) = _
    omega
  · rw [if_neg c, size_nil]
    omega
def mtN (t n : Nat) (l : List Span) : Int := (l.map fun x => mt1 t (t + n) ((x.1 : Int), (x.2 : Int))).sum
theorem size_mt (t n : Nat) : ∀ l : List Span, ((size (within l t (t + n)) : Nat) : Int) = mtN t n l
  | [] => rfl
  | x :: l => by
    have ih := size_mt t n l
    have h1 := size_one x t n
    unfold mtN at ih ⊢
    rw [List.map_cons, List.sum_cons, ← ih, ← h1, within_cons, within_cons, size_append, size_append]
    show _ = ((_ + size [] : Nat) : Int) + _
    rw [size_nil]
    omega
theorem cost_mt (n t : Nat) : ∀ p : List (List Span), ((cost p n t : Nat) : Int) = mtN t n p.flatten
  | [] => rfl
  | l :: p => by
    have ih := cost_mt n t p
    have h1 := size_mt t n l
    rw [cost_cons]
    unfold mtN at *
    rw [List.flatten_cons, List.map_append, List.sum_append, ← ih, ← h1]
    omega
end Fb
/-! The most: steps in order, sums up to each. -/
namespace Fb
open Cl04
abbrev T3 := Int × Int × Int
def chg1 (n P : Int) (x : Int × Int) : List T3 := if x.1 + n ≤ x.2 then [(x.1, 1, P), (x.2 - n + 1, -1, P)] else []
def chg (n P : Int) (l : List (Int × Int)) : List T3 := l.flatMap (chg1 n P)
/-- the sum of the steps, each by a weight of its third -/
def sumOf (c : Int → Int) (ys : List T3) : Int := (ys.map fun y => y.2.1 * c y.2.2).sum
theorem sumOf_nil (c : Int → Int) : sumOf c [] = 0 := rfl
theorem sumOf_cons (c : Int → Int) (y : T3) (ys : List T3) : sumOf c (y :: ys) = y.2.1 * c y.2.2 + sumOf c ys := by
  unfold sumOf
  rw [List.map_cons, List.sum_cons]
theorem sumOf_append (c : Int → Int) (xs ys : List T3) : sumOf c (xs ++ ys) = sumOf c xs + sumOf c ys := by
  unfold sumOf
  rw [List.map_append, List.sum_append]
theorem sumOf_one (c : Int → Int) (y : T3) : sumOf c [y] = y.2.1 * c y.2.2 := by
  rw [sumOf_cons, sumOf_nil, Int.add_zero]
theorem sumOf_perm (c : Int → Int) {xs ys : List T3} (h : xs.Perm ys) : sumOf c xs = sumOf c ys := by
  induction h with
  | nil => rfl
  | cons x _ ih => rw [sumOf_cons, sumOf_cons, ih]
  | swap x y l => rw [sumOf_cons, sumOf_cons, sumOf_cons, sumOf_cons]; omega
  | trans _ _ h1 h2 => rw [h1, h2]
def upTo (t : Int) (ys : List T3) : List T3 := ys.filter fun y => decide (y.1 ≤ t)
theorem upTo_append (t : Int) (xs ys : List T3) : upTo t (xs ++ ys) = upTo t xs ++ upTo t ys := List.filter_append ..
theorem upTo_perm (t : Int) {xs ys : List T3} (h : xs.Perm ys) : (upTo t xs).Perm (upTo t ys) := h.filter _
/-- so long from t on within a stretch of the row -/
def In1 (n t : Int) (l : List (Int × Int)) : Bool := l.any fun x => decide (x.1 ≤ t) && decide (t + n ≤ x.2)
theorem chg1_sum (c : Int → Int) (n P t : Int) (x : Int × Int) : sumOf c (upTo t (chg1 n P x)) = if x.1 ≤ t ∧ t + n ≤ x.2 then c P else 0 := by
  unfold chg1
  by_cases q : x.1 + n ≤ x.2
  · rw [if_pos q]
    unfold upTo
    rw [List.filter_cons, List.filter_cons, List.filter_nil]
    dsimp only
    by_cases c1 : x.1 ≤ t
    · rw [if_pos (decide_eq_true c1)]
      by_cases c2 : x.2 - n + 1 ≤ t
      · rw [if_pos (decide_eq_true c2), if_neg (by omega), sumOf_cons, sumOf_one]
        dsimp only
        omega
      · rw [if_neg (fun h => c2 (of_decide_eq_true h)), if_pos (by omega), sumOf_one]
        dsimp only
        omega
    · rw [if_neg (fun h => c1 (of_decide_eq_true h)), if_neg (fun h => absurd (of_decide_eq_true h) (by omega)), if_neg (by omega)]
      rfl
  · rw [if_neg q, if_neg (by omega)]
    rfl
theorem chg_sum (c : Int → Int) {n : Int} (hn : 0 < n) (P t : Int) : ∀ {l : List (Int × Int)}, l.Pairwise (fun x y => x.2 ≤ y.1) → sumOf c (upTo t (chg n P l)) = if In1 n t l = true then c P else 0
  | [], _ => rfl
  | x :: l, h => by
    obtain ⟨h1, h2⟩ := List.pairwise_cons.mp h
    have ih := chg_sum c hn P t h2
    unfold chg at *
    rw [List.flatMap_cons, upTo_append, sumOf_append, chg1_sum, ih]
    have e : In1 n t (x :: l) = ((decide (x.1 ≤ t) && decide (t + n ≤ x.2)) || In1 n t l) := rfl
    rw [e]
    by_cases q : x.1 ≤ t ∧ t + n ≤ x.2
    · rw [if_pos q, decide_eq_true q.1, decide_eq_true q.2, if_pos (show ((true && true) || In1 n t l) = true from rfl)]
      have no : ¬ In1 n t l = true := fun z => by
        obtain ⟨y, hy, z⟩ := List.any_eq_true.mp z
        rw [Bool.and_eq_true, decide_eq_true_eq, decide_eq_true_eq] at z
        have := h1 y hy
        omega
      rw [if_neg no, Int.add_zero]
    · have f : (decide (x.1 ≤ t) && decide (t + n ≤ x.2)) = false := by
        rw [Bool.and_eq_false_iff]
        by_cases q1 : x.1 ≤ t
        · exact .inr (decide_eq_false fun q2 => q ⟨q1, q2⟩)
        · exact .inl (decide_eq_false q1)
      rw [if_neg q, f, Bool.false_or, Int.zero_add]
def all3 (n : Int) (F : Nat → List (Int × Int)) (ls : List Nat) : List T3 := ls.flatMap fun i => chg n ((2 : Int) ^ i) (F i)
def wsum (c : Int → Int) (ls : List Nat) : Int := (ls.map fun i => c ((2 : Int) ^ i)).sum
theorem all3_sum (c : Int → Int) {n : Int} (hn : 0 < n) (t : Int) {F : Nat → List (Int × Int)} : ∀ {ls : List Nat}, (∀ i ∈ ls, (F i).Pairwise (fun x y => x.2 ≤ y.1)) → sumOf c (upTo t (all3 n F ls)) = wsum c (ls.filter fun i => In1 n t (F i))
  | [], _ => rfl
  | i :: ls, h => by
    have ih := all3_sum c hn t (ls := ls) fun j hj => h j (List.mem_cons_of_mem _ hj)
    unfold all3 at *
    rw [List.flatMap_cons, upTo_append, sumOf_append, chg_sum c hn _ t (h i (List.mem_cons_self ..)), ih, List.filter_cons]
    by_cases q : In1 n t (F i) = true
    · rw [if_pos q, if_pos q]
      unfold wsum
      rw [List.map_cons, List.sum_cons]
    · rw [if_neg q, if_neg q, Int.zero_add]
theorem wsum_len : ∀ ls : List Nat, wsum (fun _ => 1) ls = (ls.length : Int)
  | [] => rfl
  | i :: ls => by
    have ih := wsum_len ls
    unfold wsum at *
    rw [List.map_cons, List.sum_cons, ih, List.length_cons]
    show (1 : Int) + (ls.length : Int) = _
    omega
theorem bits_cons (i : Nat) (l : List Nat) : bits (i :: l) = 2 ^ i + bits l := by
  unfold bits
  rw [List.map_cons, List.foldl_cons, foldl_add]
  omega
theorem wsum_bits : ∀ ls : List Nat, wsum (fun z => z) ls = ((bits ls : Nat) : Int)
  | [] => rfl
  | i :: ls => by
    have ih := wsum_bits ls
    rw [bits_cons]
    unfold wsum at *
    rw [List.map_cons, List.sum_cons, ih, Int.natCast_add, Int.natCast_pow]
    rfl
/-! ### the fold -/
abbrev MS := (Int × Int × Int) × Int × Int
def mostStep (st : MS) (y : T3) : MS := (if st.2.1 + y.2.1 > st.1.2.1 then (y.1, st.2.1 + y.2.1, st.2.2 + y.2.1 * y.2.2) else st.1, st.2.1 + y.2.1, st.2.2 + y.2.1 * y.2.2)
def mostM (a : Int) (ys : List T3) : MS := ys.foldl mostStep ((a, 0, 0), 0, 0)
abbrev sC (ys : List T3) : Int := sumOf (fun _ => 1) ys
abbrev sW (ys : List T3) : Int := sumOf (fun z => z) ys
theorem tk_more {α : Type} : ∀ {l : List α} {i : Nat} {x : α}, l[i]? = some x → l.take (i + 1) = l.take i ++ [x]
  | [], i, x, h => by simp at h
  | a :: l, 0, x, h => by
    have e : a = x := Option.some.inj h
    subst e
    rfl
  | a :: l, i + 1, x, h => by
    have ih := tk_more (l := l) (i := i) (x := x) h
    show a :: l.take (i + 1) = a :: l.take i ++ [x]
    rw [ih]
    rfl
theorem sC_more {ys : List T3} {i : Nat} {y : T3} (h : ys[i]? = some y) : sC (ys.take (i + 1)) = sC (ys.take i) + y.2.1 := by
  show sumOf _ _ = sumOf _ _ + _
  rw [tk_more h, sumOf_append, sumOf_one, Int.mul_one]
theorem sW_more {ys : List T3} {i : Nat} {y : T3} (h : ys[i]? = some y) : sW (ys.take (i + 1)) = sW (ys.take i) + y.2.1 * y.2.2 := by
  show sumOf _ _ = sumOf _ _ + _
  rw [tk_more h, sumOf_append, sumOf_one]
/-- what stands behind the first i steps -/
structure MFold (a : Int) (ys : List T3) (i : Nat) (st : MS) (k : Nat) : Prop where
  c : st.2.1 = sC (ys.take i)
  w : st.2.2 = sW (ys.take i)
  le : k ≤ i
  fc : st.1.2.1 = sC (ys.take k)
  fw : st.1.2.2 = sW (ys.take k)
  f0 : k = 0 → st.1.1 = a
  f1 : ∀ k', k = k' + 1 → ∃ y, ys[k']? = some y ∧ st.1.1 = y.1
  top : ∀ j, j ≤ i → sC (ys.take j) ≤ sC (ys.take k) ∧ (j < k → sC (ys.take j) < sC (ys.take k))
theorem most_fold (a : Int) (ys : List T3) : ∀ i, i ≤ ys.length → ∃ k, MFold a ys i (mostM a (ys.take i)) k
  | 0, _ => ⟨0, { c := rfl, w := rfl, le := Nat.le_refl _, fc := rfl, fw := rfl, f0 := fun _ => rfl, f1 := fun k' e => absurd e.symm (Nat.succ_ne_zero _), top := fun j hj => (Nat.le_zero.mp hj) ▸ ⟨Int.le_refl _, fun h => absurd h (Nat.lt_irrefl _)⟩ }⟩
  | i + 1, hi => by
    obtain ⟨k, m⟩ := most_fold a ys i (by omega)
    have hy := List.getElem?_eq_getElem (show i < ys.length by omega)
    generalize ys[i] = y at hy
    have e : mostM a (ys.take (i + 1)) = mostStep (mostM a (ys.take i)) y := by
      unfold mostM
      rw [tk_more hy, List.foldl_append]
      rfl
    have e1 := sC_more hy
    have e2 := sW_more hy
    rw [e]
    generalize mostM a (ys.take i) = st at m
    obtain ⟨mc, mw, mk, mfc, mfw, mf0, mf1, mt⟩ := m
    by_cases q : st.2.1 + y.2.1 > st.1.2.1
    · have es : mostStep st y = ((y.1, st.2.1 + y.2.1, st.2.2 + y.2.1 * y.2.2), st.2.1 + y.2.1, st.2.2 + y.2.1 * y.2.2) := by
        unfold mostStep
        rw [if_pos q]
      rw [es]
      refine ⟨i + 1, { c := ?_, w := ?_, le := Nat.le_refl _, fc := ?_, fw := ?_, f0 := fun z => absurd z (Nat.succ_ne_zero _), f1 := fun k' z => ?_, top := fun j hj => ?_ }⟩
      · show st.2.1 + y.2.1 = _
        rw [e1, mc]
      · show st.2.2 + y.2.1 * y.2.2 = _
        rw [e2, mw]
      · show st.2.1 + y.2.1 = _
        rw [e1, mc]
      · show st.2.2 + y.2.1 * y.2.2 = _
        rw [e2, mw]
      · have : k' = i := by omega
        subst this
        exact ⟨y, hy, rfl⟩
      · by_cases z : j ≤ i
        · have := (mt j z).1
          rw [e1]
          omega
        · have : j = i + 1 := by omega
          subst this
          exact ⟨Int.le_refl _, fun h => absurd h (Nat.lt_irrefl _)⟩
    · have es : mostStep st y = (st.1, st.2.1 + y.2.1, st.2.2 + y.2.1 * y.2.2) := by
        unfold mostStep
        rw [if_neg q]
      rw [es]
      refine ⟨k, { c := ?_, w := ?_, le := by omega, fc := mfc, fw := mfw, f0 := mf0, f1 := mf1, top := fun j hj => ?_ }⟩
      · show st.2.1 + y.2.1 = _
        rw [e1, mc]
      · show st.2.2 + y.2.1 * y.2.2 = _
        rw [e2, mw]
      · by_cases z : j ≤ i
        · exact mt j z
        · have : j = i + 1 := by omega
          subst this
          rw [e1]
          exact ⟨by omega, fun h => by omega⟩
/-! ### in order -/
def Ord3 (x y : T3) : Prop := x.1 < y.1 ∨ (x.1 = y.1 ∧ x.2.1 ≤ y.2.1)
theorem upTo_take (t : Int) : ∀ {ys : List T3}, ys.Pairwise Ord3 → ys.take (upTo t ys).length = upTo t ys
  | [], _ => rfl
  | y :: ys, h => by
    obtain ⟨h1, h2⟩ := List.pairwise_cons.mp h
    have ih := upTo_take t h2
    unfold upTo at *
    by_cases c : y.1 ≤ t
    · rw [List.filter_cons_of_pos (by exact decide_eq_true c), List.length_cons, List.take_succ_cons, ih]
    · have e : (y :: ys).filter (fun y => decide (y.1 ≤ t)) = [] := List.filter_eq_nil_iff.mpr fun z hz q => by
        have q := of_decide_eq_true q
        rcases List.mem_cons.mp hz with rfl | hz
        · exact c q
        · rcases h1 z hz with r | r <;> omega
      rw [e]
      rfl
theorem mem_all3 {n : Int} {F : Nat → List (Int × Int)} {ls : List Nat} {y : T3} (h : y ∈ all3 n F ls) : ∃ i ∈ ls, ∃ x ∈ F i, x.1 + n ≤ x.2 ∧ (y = (x.1, 1, (2 : Int) ^ i) ∨ y = (x.2 - n + 1, -1, (2 : Int) ^ i)) := by
  obtain ⟨i, hi, h⟩ := List.mem_flatMap.mp h
  obtain ⟨x, hx, h⟩ := List.mem_flatMap.mp h
  unfold chg1 at h
  by_cases c : x.1 + n ≤ x.2
  · rw [if_pos c] at h
    refine ⟨i, hi, x, hx, c, ?_⟩
    rcases List.mem_cons.mp h with h | h
    · exact .inl h
    · rcases List.mem_cons.mp h with h | h
      · exact .inr h
      · cases h
  · rw [if_neg c] at h
    cases h
/-- what the fold finds: the first moment of the most -/
theorem mostM_ok {n a : Int} (hn : 0 < n) {F : Nat → List (Int × Int)} {ls : List Nat} (hF : ∀ i ∈ ls, (F i).Pairwise (fun x y => x.2 ≤ y.1)) {ys : List T3} (hp : ys.Perm (all3 n F ls)) (hs : ys.Pairwise Ord3) :
    ∃ t : Int, (mostM a ys).1 = (t, ((ls.filter fun i => In1 n t (F i)).length : Int), ((bits (ls.filter fun i => In1 n t (F i)) : Nat) : Int)) ∧
      (t = a ∨ ∃ i ∈ ls, ∃ x ∈ F i, t = x.1 ∧ x.1 + n ≤ x.2) ∧ (∀ u, (ls.filter fun i => In1 n u (F i)).length ≤ (ls.filter fun i => In1 n t (F i)).length) ∧
      ∀ u, a ≤ u → u < t → (ls.filter fun i => In1 n u (F i)).length < (ls.filter fun i => In1 n t (F i)).length := by
  obtain ⟨k, m⟩ := most_fold a ys ys.length (Nat.le_refl _)
  rw [List.take_length] at m
  have hN : ∀ u : Int, sC (ys.take (upTo u ys).length) = ((ls.filter fun i => In1 n u (F i)).length : Int) := fun u => by
    rw [upTo_take u hs, ← wsum_len, ← all3_sum (fun _ => 1) hn u hF]
    exact sumOf_perm _ (upTo_perm u hp)
  have hW : ∀ u : Int, sW (ys.take (upTo u ys).length) = ((bits (ls.filter fun i => In1 n u (F i)) : Nat) : Int) := fun u => by
    rw [upTo_take u hs, ← wsum_bits, ← all3_sum (fun z => z) hn u hF]
    exact sumOf_perm _ (upTo_perm u hp)
  have hle : ∀ u : Int, (upTo u ys).length ≤ ys.length := fun u => List.length_filter_le _ _
  have top : ∀ u : Int, ((ls.filter fun i => In1 n u (F i)).length : Int) ≤ sC (ys.take k) := fun u => by
    rw [← hN u]
    exact (m.top _ (hle u)).1
  generalize hst : (mostM a ys) = st at m
  obtain ⟨⟨ft, fc, fw⟩, cc, ww⟩ := st
  have mfc : fc = sC (ys.take k) := m.fc
  have mfw : fw = sW (ys.take k) := m.fw
  cases k with
  | zero =>
    have e0 : ft = a := m.f0 rfl
    have z : sC (ys.take 0) = 0 := rfl
    have hz : ∀ u, (ls.filter fun i => In1 n u (F i)).length = 0 := fun u => by
      have := top u
      rw [z] at this
      omega
    refine ⟨a, ?_, .inl rfl, fun u => by rw [hz u]; exact Nat.zero_le _, fun u h1 h2 => by omega⟩
    have hb : ls.filter (fun i => In1 n a (F i)) = [] := List.eq_nil_of_length_eq_zero (hz a)
    rw [hb]
    show (ft, fc, fw) = _
    rw [e0, mfc, mfw]
    rfl
  | succ k' =>
    obtain ⟨y, hy, e1⟩ := m.f1 k' rfl
    have e1 : ft = y.1 := e1
    have hk : k' < ys.length := (List.getElem?_eq_some_iff.mp hy).1
    have ym : y ∈ ys := List.mem_of_getElem? hy
    have s1 := sC_more hy
    have t1 := (m.top k' (by omega)).2 (by omega)
    obtain ⟨i, hi, x, hx, hx2, hyx⟩ := mem_all3 (hp.mem_iff.mp ym)
    have y1 : y.1 = x.1 ∧ y.2.1 = 1 := by
      rcases hyx with q | q
      · rw [q]
        exact ⟨rfl, rfl⟩
      · exfalso
        have : y.2.1 = -1 := by rw [q]
        omega
    have step : ∀ z ∈ ys, z.2.1 = 1 ∨ z.2.1 = -1 := fun z hz => by
      obtain ⟨_, _, _, _, _, q⟩ := mem_all3 (hp.mem_iff.mp hz)
      rcases q with q | q
      · exact .inl (by rw [q])
      · exact .inr (by rw [q])
    have ix : ∀ {j : Nat} {z : T3} {u : Int}, ys[j]? = some z → j < (upTo u ys).length → z.1 ≤ u := fun {j z u} hz hj => by
      have q : (ys.take (upTo u ys).length)[j]? = some z := by
        rw [List.getElem?_take, if_pos hj]
        exact hz
      rw [upTo_take u hs] at q
      exact of_decide_eq_true (List.mem_filter.mp (List.mem_of_getElem? q)).2
    have ge : k' < (upTo y.1 ys).length := by
      rcases Nat.lt_or_ge k' (upTo y.1 ys).length with q | q
      · exact q
      · exfalso
        -- y is among them, so it stands in the part that is taken
        have e : y ∈ upTo y.1 ys := List.mem_filter.mpr ⟨ym, decide_eq_true (Int.le_refl _)⟩
        have hle : ∀ j z, ys[j]? = some z → j ≤ k' → z.1 ≤ y.1 := fun j z hz hj => by
          rcases Nat.lt_or_ge j k' with c | c
          · obtain ⟨hj1, ej⟩ := List.getElem?_eq_some_iff.mp hz
            obtain ⟨hk1, ek⟩ := List.getElem?_eq_some_iff.mp hy
            have := List.pairwise_iff_getElem.mp hs j k' hj1 hk1 c
            rw [ej, ek] at this
            rcases this with r | r <;> omega
          · have : j = k' := by omega
            subst this
            rw [hz] at hy
            rw [Option.some.inj hy]
            exact Int.le_refl _
        have e2 : ys.take (k' + 1) = (ys.take (k' + 1)).filter fun z => decide (z.1 ≤ y.1) := by
          refine (List.filter_eq_self.mpr fun z hz => ?_).symm
          obtain ⟨j, hj⟩ := List.getElem?_of_mem hz
          rw [List.getElem?_take] at hj
          by_cases c : j < k' + 1
          · rw [if_pos c] at hj
            exact decide_eq_true (hle j z hj (by omega))
          · rw [if_neg c] at hj
            cases hj
        have e3 : (upTo y.1 ys).length ≥ ((ys.take (k' + 1)).filter fun z => decide (z.1 ≤ y.1)).length := by
          unfold upTo
          exact (List.Sublist.filter _ (List.take_sublist _ _)).length_le
        rw [← e2, List.length_take] at e3
        omega
    have eqk : (upTo y.1 ys).length = k' + 1 := by
      rcases Nat.lt_or_ge (k' + 1) (upTo y.1 ys).length with q | q
      · exfalso
        have hl : k' + 1 < ys.length := Nat.lt_of_lt_of_le q (hle _)
        have hz := List.getElem?_eq_getElem hl
        generalize ys[k' + 1] = z at hz
        have z1 := ix hz q
        obtain ⟨hj1, ej⟩ := List.getElem?_eq_some_iff.mp hz
        obtain ⟨hk1, ek⟩ := List.getElem?_eq_some_iff.mp hy
        have o := List.pairwise_iff_getElem.mp hs k' (k' + 1) hk1 hj1 (by omega)
        rw [ej, ek] at o
        have s2 := sC_more hz
        have t2 := (m.top (k' + 1 + 1) hl).1
        have := step z (List.mem_of_getElem? hz)
        rcases o with r | r <;> omega
      · omega
    have eN := hN y.1
    have eW := hW y.1
    rw [eqk] at eN eW
    refine ⟨y.1, ?_, .inr ⟨i, hi, x, hx, y1.1, hx2⟩, fun u => ?_, fun u h1 h2 => ?_⟩
    · show (ft, fc, fw) = _
      rw [e1, mfc, mfw, eN, eW]
    · have := top u
      rw [eN] at this
      omega
    · have lt : (upTo u ys).length < k' + 1 := by
        rcases Nat.lt_or_ge k' (upTo u ys).length with q | q
        · have := ix hy q
          omega
        · omega
      have := (m.top _ (hle u)).2 lt
      rw [hN u, eN] at this
      omega
end Fb
/-! The heap: stretches as tuples; the text by places. -/
namespace Fb
open PySem PySem.Spec PyProof.Rows L2

def top (i : Nat) : Stmt := PySem.Challenge.pw_freebusy_s01_answers.main.body.getD i (.Pass ⟨0, 0, 0, 0⟩)

/-- a row of references to pairs of ints -/
def Tups (H : Hp) : List V → List (Int × Int) → Prop
  | [], [] => True
  | v :: vs, x :: l => (∃ t, v = .ref t ∧ H t = some (.tup [.int x.1, .int x.2])) ∧ Tups H vs l
  | _, _ => False
/-- tuples stay -/
def TS1 (H H' : Hp) : Prop := ∀ t xs, H t = some (.tup xs) → H' t = some (.tup xs)
theorem TS1.refl (H : Hp) : TS1 H H := fun _ _ h => h
theorem TS1.trans {H H1 H2 : Hp} (a : TS1 H H1) (b : TS1 H1 H2) : TS1 H H2 := fun t xs h => b t xs (a t xs h)
theorem TS1.same {H H' : Hp} (h : Same H H') : TS1 H H' := fun t _ e => h t _ e
theorem TS1.put {H : Hp} {a : Addr} {o : HO} (h : ∀ xs, H a ≠ some (.tup xs)) : TS1 H (upd H a o) := fun t xs e => by
  rw [upd_ne (b := t) (a := a) (fun q => h xs (q ▸ e))]
  exact e
theorem TS1.new {H : Hp} {a : Addr} {o : HO} (h : H a = none) : TS1 H (upd H a o) := TS1.put fun xs e => by
  rw [h] at e
  cases e
theorem TS1.lst {H : Hp} {a : Addr} {o : HO} {ys : List V} (h : H a = some (.lst ys)) : TS1 H (upd H a o) := TS1.put fun xs e => by
  rw [h] at e
  cases e
theorem Tups.mono {H H' : Hp} (h : TS1 H H') : ∀ {vs : List V} {l : List (Int × Int)}, Tups H vs l → Tups H' vs l
  | [], [], _ => trivial
  | v :: vs, x :: l, q => by
    obtain ⟨⟨t, e, ht⟩, r⟩ := q
    exact ⟨⟨t, e, h _ _ ht⟩, Tups.mono h r⟩
  | [], _ :: _, q => q.elim
  | _ :: _, [], q => q.elim
theorem Tups.length {H : Hp} : ∀ {vs : List V} {l : List (Int × Int)}, Tups H vs l → vs.length = l.length
  | [], [], _ => rfl
  | _ :: vs, _ :: l, q => congrArg (· + 1) (Tups.length (vs := vs) (l := l) q.2)
  | [], _ :: _, q => q.elim
  | _ :: _, [], q => q.elim
theorem Tups.get {H : Hp} : ∀ {vs : List V} {l : List (Int × Int)} {i : Nat} {v : V}, Tups H vs l → vs[i]? = some v → ∃ t x, v = .ref t ∧ l[i]? = some x ∧ H t = some (.tup [.int x.1, .int x.2])
  | [], [], i, v, _, e => by simp at e
  | w :: vs, x :: l, 0, v, q, e => by
    obtain ⟨⟨t, e1, ht⟩, r⟩ := q
    have e2 : w = v := Option.some.inj e
    exact ⟨t, x, e2 ▸ e1, rfl, ht⟩
  | w :: vs, x :: l, i + 1, v, q, e => Tups.get (vs := vs) (l := l) (i := i) q.2 e
  | [], _ :: _, _, _, q, _ => q.elim
  | _ :: _, [], _, _, q, _ => q.elim
theorem Tups.append {H : Hp} : ∀ {vs ws : List V} {l m : List (Int × Int)}, Tups H vs l → Tups H ws m → Tups H (vs ++ ws) (l ++ m)
  | [], _, [], _, _, r => r
  | _ :: vs, ws, _ :: l, m, q, r => ⟨q.1, Tups.append (vs := vs) (l := l) q.2 r⟩
  | [], _, _ :: _, _, q, _ => q.elim
  | _ :: _, _, [], _, q, _ => q.elim
theorem Tups.one {H : Hp} {t : Addr} {x y : Int} (h : H t = some (.tup [.int x, .int y])) : Tups H [.ref t] [(x, y)] := ⟨⟨t, rfl, h⟩, trivial⟩
theorem Tups.set {H : Hp} {t : Addr} {x : Int × Int} (h : H t = some (.tup [.int x.1, .int x.2])) : ∀ {vs : List V} {l : List (Int × Int)} (i : Nat), Tups H vs l → Tups H (vs.set i (.ref t)) (l.set i x)
  | [], [], _, _ => trivial
  | _ :: vs, _ :: l, 0, q => ⟨⟨t, rfl, h⟩, q.2⟩
  | _ :: vs, _ :: l, i + 1, q => ⟨q.1, Tups.set h (vs := vs) (l := l) i q.2⟩
  | [], _ :: _, _, q => q.elim
  | _ :: _, [], _, q => q.elim
theorem Tups.snocInv {H : Hp} {vs : List V} : ∀ {l : List (Int × Int)}, Tups H vs l → ∀ {m : List (Int × Int)} {x : Int × Int}, l = m ++ [x] → ∃ ws t, vs = ws ++ [.ref t] ∧ Tups H ws m ∧ H t = some (.tup [.int x.1, .int x.2]) := by
  induction vs with
  | nil =>
    intro l h m x e
    subst e
    have := h.length
    rw [List.length_append, List.length_singleton] at this
    simp at this
  | cons v vs ih =>
    intro l h m x e
    cases m with
    | nil =>
      subst e
      obtain ⟨⟨t, rfl, ht⟩, r⟩ := h
      have := r.length
      have e2 : vs = [] := List.eq_nil_of_length_eq_zero this
      subst e2
      exact ⟨[], t, rfl, trivial, ht⟩
    | cons y m =>
      subst e
      obtain ⟨q, r⟩ := h
      obtain ⟨ws, t, e1, e2, e3⟩ := ih r (m := m) (x := x) rfl
      exact ⟨v :: ws, t, by rw [e1]; rfl, ⟨q, e2⟩, e3⟩
theorem if_true_of {c : Bool} {A B : Prop} (hc : c = true) (h : A) : if c = true then A else B := by
  rw [if_pos hc]
  exact h
theorem if_false_of {c : Bool} {A B : Prop} (hc : c = false) (h : B) : if c = true then A else B := by
  rw [hc, if_neg Bool.false_ne_true]
  exact h
/-- all that was tracked, but at a, is as it was -/
def But (a : Addr) (H H' : Hp) : Prop := ∀ b o, H b = some o → b ≠ a → H' b = some o
theorem But.ts {a : Addr} {H H' : Hp} (h : But a H H') (ha : ∀ xs, H a ≠ some (.tup xs)) : TS1 H H' := fun t xs e => h t _ e fun q => ha xs (q ▸ e)
end Fb
namespace Fb
open PySem PySem.Spec PyProof.Rows L2
abbrev sPut : Stmt := top 9
def putB (l : List (Int × Int)) (b e : Int) : List (Int × Int) := if b ≥ e then l else match l.getLast? with
  | none => [(b, e)]
  | some x => if x.2 = b then l.dropLast ++ [(x.1, e)] else l ++ [(b, e)]
def spPut : Sp := fun vs H Q _ => ∃ (a : Addr) (ws : List V) (l : List (Int × Int)) (b e : Int), vs = [.ref a, .int b, .int e] ∧ H a = some (.lst ws) ∧ Tups H ws l ∧ l.length ≤ 1000000 ∧
  ∀ (H' : Hp) (ws' : List V), H' a = some (.lst ws') → Tups H' ws' (putB l b e) → But a H H' → Q .non H'
structure TxtB (mg : Str → Option Value) : Prop where
  len : mg "len" = none
section
variable {P : Program} {w : World} {K : PySem.W.Frag} {mg : Str → Option Value} {base : Heap}
theorem scPut : FnScope ["stretches", "begin", "end"] ["stretches", "begin", "end"] (defScope sPut) := ⟨rfl, rfl, rfl, by decide +kernel, rfl, by decide +kernel, by decide +kernel⟩
theorem ok_put {f : Addr} {fd : FuncData} (F : Fun K "put_behind" "put_behind" sPut f fd) (T : TxtB mg) : FnOk P w K mg base CX0 1 f fd ["stretches", "begin", "end"] spPut := by
  refine F.ok scPut (fun vs H Q E h => ?_) (fun cdv A outer s H vs Q E hr h => ?_)
  · obtain ⟨a, ws, l, b, e, rfl, _⟩ := h
    rfl
  · obtain ⟨a, ws, l, b, e, rfl, ha, ht, hl, k⟩ := h
    refine ⟨_, pss_cons (ps_if (pt_cmpR op_ge (pv 1) (pv 2) (nomark _)) (pss_one ps_retN) pss_nil)
      (pss_one (ps_if (PW.pt (pw_and (pt_cmpR op_gt (pe_callB call_len_seq (by rfl) T.len PySem.boot_len (pa_cons (pv 0) pa_nil)) pe_int (nomark _))
          (pw_and1 (pt_cmpR op_eq (pe_ix ix_tup (pe_ix ix_list (pv 0) (pe_un un_neg pe_int) (fun _ _ => rfl)) pe_int (fun _ _ => rfl)) (pv 1) (nomark _)))))
        (pss_one (ps_asg (pe_tup (pa_cons (pe_ix ix_tup (pe_ix ix_list (pv 0) (pe_un un_neg pe_int) (fun _ _ => rfl)) pe_int (fun _ _ => rfl)) (pa_cons (pv 2) pa_nil))) (pg_sub (pv 0) (pe_un un_neg pe_int) set_list)))
        (pss_one (ps_expr (pe_bm PySem.F.plainAttrs_list PySem.F.slot_list_append PySem.F.type_list_append mt_append (pv 0) (pa_cons (pe_tup (pa_cons (pv 1) (pa_cons (pv 2) pa_nil))) pa_nil)))))), ?_⟩
    refine ⟨_, rfl, _, rfl, _, _, rfl, rfl, _, rfl, ?_⟩
    by_cases c : b ≥ e
    · refine if_true_of (decide_eq_true c) ?_
      refine k H ws ha ?_ (fun _ _ h _ => h)
      rw [putB, if_pos c]
      exact ht
    · refine if_false_of (decide_eq_false c) ?_
      have hwl := ht.length
      refine ⟨_, rfl, a, ws, rfl, .inl (SqL.of ha), _, _, rfl, rfl, _, rfl, ?_⟩
      rcases List.eq_nil_or_concat l with rfl | ⟨m, x, rfl⟩
      · have e0 : ws = [] := List.eq_nil_of_length_eq_zero hwl
        subst e0
        refine if_false_of (by decide) ?_
        refine if_false_of rfl ?_
        refine ⟨_, rfl, .inl ⟨rfl, _, SqL.of ha⟩, _, rfl, _, rfl, (by show 2 ≤ sizeLine; decide), fun t nt => ?_⟩
        have nta : a ≠ t := ne_of_none ha nt
        refine ⟨a, _, _, rfl, rfl, (upd_ne nta).trans ha, (by show 0 < sizeLine; decide), ?_⟩
        refine k _ _ upd_same ?_ fun b o h hb => ?_
        · rw [putB, if_neg c]
          exact Tups.one ((upd_ne nta.symm).trans upd_same)
        · rw [upd_ne hb, upd_ne (ne_of_none h nt)]
          exact h
      · rw [List.concat_eq_append] at *
        obtain ⟨us, t, rfl, h1, h2⟩ := ht.snocInv rfl
        refine if_true_of (decide_eq_true (by rw [List.length_append, List.length_singleton]; omega)) ?_
        refine ⟨_, rfl, _, rfl, a, _, _, _, rfl, rfl, SqL.of ha, atI_last us (.ref t), t, _, _, _, rfl, rfl, SqT.of h2, rfl, _, rfl, rfl, _, rfl, ?_⟩
        have el : putB (m ++ [x]) b e = if x.2 = b then m ++ [(x.1, e)] else m ++ [x] ++ [(b, e)] := by
          rw [putB, if_neg c, List.getLast?_concat, List.dropLast_concat]
        have hlen : (us ++ [V.ref t]).length ≤ 1000000 := by omega
        by_cases d : x.2 = b
        · refine if_true_of (decide_eq_true (congrArg V.int d)) ?_
          refine ⟨_, rfl, _, rfl, a, _, _, _, rfl, rfl, SqL.of ha, atI_last us (.ref t), t, _, _, _, rfl, rfl, SqT.of h2, rfl, _, rfl, (by show 2 ≤ sizeLine; decide), fun q nq => ?_⟩
          have nqa : a ≠ q := ne_of_none ha nq
          refine ⟨_, rfl, _, rfl, a, _, _, us.length, rfl, rfl, (upd_ne nqa).trans ha, ?_, ?_⟩
          · show (if (0 : Int) ≤ -1 then _ else _) = some us.length
            rw [if_neg (by decide), List.length_append, List.length_singleton, if_pos (by omega)]
            exact congrArg some (by omega)
          · refine k _ _ upd_same ?_ fun b' o h hb => ?_
            · rw [el, if_pos d, List.set_append_right _ _ (Nat.le_refl _), Nat.sub_self]
              have tt : TS1 H (upd (upd H q (.tup [.int x.1, .int e])) a (.lst ((us ++ [V.ref t]).set us.length (.ref q)))) := (TS1.new nq).trans (TS1.lst ((upd_ne nqa).trans ha))
              rw [List.set_append_right _ _ (Nat.le_refl _), Nat.sub_self] at tt
              exact (h1.mono tt).append (Tups.one ((upd_ne nqa.symm).trans upd_same))
            · rw [upd_ne hb, upd_ne (ne_of_none h nq)]
              exact h
        · refine if_false_of (decide_eq_false fun q => d (V.int.inj q)) ?_
          refine ⟨_, rfl, .inl ⟨rfl, _, SqL.of ha⟩, _, rfl, _, rfl, (by show 2 ≤ sizeLine; decide), fun q nq => ?_⟩
          have nqa : a ≠ q := ne_of_none ha nq
          refine ⟨a, _, _, rfl, rfl, (upd_ne nqa).trans ha, Nat.lt_of_le_of_lt hlen (by decide), ?_⟩
          refine k _ _ upd_same ?_ fun b' o h hb => ?_
          · rw [el, if_neg d]
            have tt : TS1 H (upd (upd H q (.tup [.int b, .int e])) a (.lst ((us ++ [V.ref t]) ++ [.ref q]))) := (TS1.new nq).trans (TS1.lst ((upd_ne nqa).trans ha))
            exact ((h1.append (show Tups H [.ref t] [x] from Tups.one h2)).mono tt).append (Tups.one ((upd_ne nqa.symm).trans upd_same))
          · rw [upd_ne hb, upd_ne (ne_of_none h nq)]
            exact h
end
end Fb
namespace Fb
open PySem PySem.Spec PyProof.Rows L2
abbrev sWo : Stmt := top 12
abbrev sTot : Stmt := top 13
abbrev sTold : Stmt := top 14
def wo1 (b e : Int) (x : Int × Int) : List (Int × Int) := (if x.1 < b then [(x.1, if b < x.2 then b else x.2)] else []) ++ (if e < x.2 then [(if e > x.1 then e else x.1, x.2)] else [])
def wo (l : List (Int × Int)) (b e : Int) : List (Int × Int) := l.flatMap (wo1 b e)
theorem wo1_le (b e : Int) (x : Int × Int) : (wo1 b e x).length ≤ 2 := by
  unfold wo1
  rw [List.length_append]
  have h1 : (if x.1 < b then [(x.1, if b < x.2 then b else x.2)] else [] : List (Int × Int)).length ≤ 1 := by
    by_cases c : x.1 < b
    · rw [if_pos c]
      exact Nat.le_refl _
    · rw [if_neg c]
      exact Nat.zero_le _
  have h2 : (if e < x.2 then [(if e > x.1 then e else x.1, x.2)] else [] : List (Int × Int)).length ≤ 1 := by
    by_cases c : e < x.2
    · rw [if_pos c]
      exact Nat.le_refl _
    · rw [if_neg c]
      exact Nat.zero_le _
  omega
theorem wo_le (b e : Int) : ∀ l : List (Int × Int), (wo l b e).length ≤ 2 * l.length
  | [] => Nat.le_refl _
  | x :: l => by
    have := wo_le b e l
    have := wo1_le b e x
    unfold wo at *
    rw [List.flatMap_cons, List.length_append, List.length_cons]
    omega
theorem take_more {α : Type} : ∀ {l : List α} {i : Nat} {x : α}, l[i]? = some x → l.take (i + 1) = l.take i ++ [x]
  | [], i, x, h => by simp at h
  | a :: l, 0, x, h => by
    have e : a = x := Option.some.inj h
    subst e
    rfl
  | a :: l, i + 1, x, h => by
    have ih := take_more (l := l) (i := i) (x := x) h
    show a :: l.take (i + 1) = a :: l.take i ++ [x]
    rw [ih]
    rfl
theorem wo_more {l : List (Int × Int)} {i : Nat} {x : Int × Int} {b e : Int} (h : l[i]? = some x) : wo (l.take (i + 1)) b e = wo (l.take i) b e ++ wo1 b e x := by
  unfold wo
  rw [take_more h, List.flatMap_append, List.flatMap_cons, List.flatMap_nil, List.append_nil]
/-- a new list of stretches at p -/
def NewSt (H : Hp) (Q : VK) (l : List (Int × Int)) : Prop := ∀ (H' : Hp) (p : Addr) (ws : List V), Same H H' → H p = none → H' p = some (.lst ws) → Tups H' ws l → Q (.ref p) H'
def spWo (K : PySem.W.Frag) : Sp := fun vs H Q _ => ∃ (a : Addr) (ws : List V) (l : List (Int × Int)) (b e : Int), vs = [.ref a, .int b, .int e] ∧ SqL K H a ws ∧ Tups H ws l ∧ l.length ≤ 1000000 ∧ NewSt H Q (wo l b e)
structure TxtS (mg : Str → Option Value) : Prop where
  len : mg "len" = none
  min : mg "min" = none
  max : mg "max" = none
  sum : mg "sum" = none
  told : ∃ t, mg "TOLD_AT_MOST" = some (.int 30 t)
section
variable {P : Program} {w : World} {K : PySem.W.Frag} {mg : Str → Option Value} {base : Heap}
def t_wo2 (K : PySem.W.Frag) : TS := tIfS (tTest (tOp (rI0 fun i j => V.bl (decide (j < i))) (tVar 5) (tVar 2))) (tDrop (tBM K "list" rAppend (tVar 3) (tCons (tTup (tCons (tCB (fun xs H Q => ∃ i j, xs = [V.int i, V.int j] ∧ Q (V.int (if j > i then j else i)) H) (tCons (tVar 4) (tCons (tVar 2) tNil))) (tCons (tVar 5) tNil))) tNil))) tNext
theorem scWo : FnScope ["stretches", "begin", "end", "left", "start", "stop"] ["stretches", "begin", "end"] (defScope sWo) := ⟨rfl, rfl, rfl, by decide +kernel, rfl, by decide +kernel, by decide +kernel⟩
theorem ok_wo {f : Addr} {fd : FuncData} (F : Fun K "without" "without" sWo f fd) (T : TxtS mg) : FnOk P w K mg base CX0 1 f fd ["stretches", "begin", "end"] (spWo K) := by
  refine F.ok scWo (fun vs H Q E h => ?_) (fun cdv A outer s H vs Q E hr h => ?_)
  · obtain ⟨a, ws, l, b, e, rfl, _⟩ := h
    rfl
  · obtain ⟨a, ws, l, b, e, rfl, ha, ht, hl, k⟩ := h
    refine ⟨_, pss_cons (ps_set (i := 3) scWo.nd rfl (Or.inl rfl) (pe_lst pa_nil))
      (pss_cons (ps_for PassesOwn.never rfl (pi_list (pv 0)) (pg_tup rfl (pgs_cons (pg_name (i := 4) scWo.nd rfl (Or.inl rfl)) (pgs_cons (pg_name (i := 5) scWo.nd rfl (Or.inl rfl)) pgs_nil)))
        (pss_cons (ps_if (pt_cmpR op_lt (pv 4) (pv 1) (nomark _))
            (pss_one (ps_expr (pe_bm PySem.F.plainAttrs_list PySem.F.slot_list_append PySem.F.type_list_append mt_append (pv 3) (pa_cons (pe_tup (pa_cons (pv 4) (pa_cons (pe_callB (call_min2 rfl) (by rfl) T.min (by decide +kernel) (pa_cons (pv 5) (pa_cons (pv 1) pa_nil))) pa_nil))) pa_nil)))) pss_nil)
          (pss_one (ps_if (pt_cmpR op_gt (pv 5) (pv 2) (nomark _))
            (pss_one (ps_expr (pe_bm PySem.F.plainAttrs_list PySem.F.slot_list_append PySem.F.type_list_append mt_append (pv 3) (pa_cons (pe_tup (pa_cons (pe_callB (call_max2 rfl) (by rfl) T.max (by decide +kernel) (pa_cons (pv 4) (pa_cons (pv 2) pa_nil))) (pa_cons (pv 5) pa_nil))) pa_nil)))) pss_nil))))
      (pss_one (ps_ret (pv 3)))), ?_⟩
    refine ⟨Nat.zero_le _, fun p np => ?_⟩
    have s1 : Same H (upd H p (.lst [])) := fun c o h => by
      rw [upd_ne (ne_of_none h np)]
      exact h
    refine ⟨_, rfl, a, rfl, ⟨_, s1.seq ha⟩, for_list (K := K) (a := a) (xs := ws) (fun i σ H' => ∃ (v1 v2 : Option V) (us : List V), σ = [some (.ref a), some (.int b), some (.int e), some (.ref p), v1, v2] ∧ Same H H' ∧ H' p = some (.lst us) ∧ Tups H' us (wo (l.take i) b e))
      ⟨none, none, [], rfl, s1, upd_same, trivial⟩ (fun i σ H' _ ⟨_, _, _, _, s5, _⟩ => s5.seq ha) ?_ ?_⟩
    · rintro i y σ H' hi ⟨v1, v2, us, rfl, s5, hp, hu⟩
      obtain ⟨t, x, rfl, hx, h2⟩ := ht.get hi
      have e1 := wo_more (b := b) (e := e) hx
      have hil : i < l.length := (List.getElem?_eq_some_iff.mp hx).1
      have hul := hu.length
      have hwl := wo_le b e (l.take i)
      rw [List.length_take] at hwl
      have h2' := s5 _ _ h2
      refine ⟨t, _, rfl, SqT.of h2', rfl, _, _, rfl, _, _, rfl, rfl, ?_⟩
      refine ⟨_, rfl, _, rfl, _, _, rfl, rfl, _, rfl, ?_⟩
      -- one more at the end of the list
      have push : ∀ (H1 : Hp) (us : List V) (m : List (Int × Int)) (u v : Int) (q : Addr), Same H H1 → H1 p = some (.lst us) → Tups H1 us m → H1 q = none →
          Same H (upd (upd H1 q (.tup [.int u, .int v])) p (.lst (us ++ [.ref q]))) ∧ Tups (upd (upd H1 q (.tup [.int u, .int v])) p (.lst (us ++ [.ref q]))) (us ++ [.ref q]) (m ++ [(u, v)]) := by
        intro H1 us m u v q s6 hp hu nq
        have npq : p ≠ q := ne_of_none hp nq
        refine ⟨fun c o h => ?_, ?_⟩
        · rw [upd_ne (ne_of_none h np), upd_ne (ne_of_none (s6 _ _ h) nq)]
          exact s6 _ _ h
        · exact (hu.mono ((TS1.new nq).trans (TS1.lst ((upd_ne npq).trans hp)))).append (Tups.one ((upd_ne npq.symm).trans upd_same))
      have second : ∀ (D : Ends) (H1 : Hp) (us : List V) (m : List (Int × Int)), (∀ H2 us2, Same H H2 → H2 p = some (.lst us2) → Tups H2 us2 (wo (l.take (i + 1)) b e) → D.nx [some (.ref a), some (.int b), some (.int e), some (.ref p), some (.int x.1), some (.int x.2)] H2) →
          Same H H1 → H1 p = some (.lst us) → Tups H1 us m → us.length ≤ 2000001 → wo (l.take (i + 1)) b e = m ++ (if e < x.2 then [(if e > x.1 then e else x.1, x.2)] else []) →
          t_wo2 K D [some (.ref a), some (.int b), some (.int e), some (.ref p), some (.int x.1), some (.int x.2)] H1 := by
        intro D H1 us m kD s6 hp hu hlen em
        refine ⟨_, rfl, _, rfl, _, _, rfl, rfl, _, rfl, ?_⟩
        refine ite2 (fun c => ?_) (fun c => ?_)
        · have c : e < x.2 := of_decide_eq_true c
          rw [if_pos c] at em
          refine ⟨_, rfl, .inl ⟨rfl, _, SqL.of hp⟩, _, rfl, _, rfl, _, _, rfl, _, rfl, (by show 2 ≤ sizeLine; decide), fun q nq => ?_⟩
          have npq : p ≠ q := ne_of_none hp nq
          obtain ⟨z1, z2⟩ := push H1 us m (if e > x.1 then e else x.1) x.2 q s6 hp hu nq
          refine ⟨p, _, _, rfl, rfl, (upd_ne npq).trans hp, Nat.lt_of_le_of_lt hlen (by decide), ?_⟩
          exact kD _ _ z1 upd_same (em ▸ z2)
        · have c : ¬ e < x.2 := fun h => c (decide_eq_true h)
          rw [if_neg c, List.append_nil] at em
          exact kD _ _ s6 hp (em ▸ hu)
      refine ite2 (fun c => ?_) (fun c => ?_)
      · have c : x.1 < b := of_decide_eq_true c
        refine ⟨_, rfl, .inl ⟨rfl, _, SqL.of hp⟩, _, rfl, _, rfl, _, rfl, _, _, rfl, (by show 2 ≤ sizeLine; decide), fun q nq => ?_⟩
        have npq : p ≠ q := ne_of_none hp nq
        obtain ⟨z1, z2⟩ := push H' us _ x.1 (if b < x.2 then b else x.2) q s5 hp hu nq
        refine ⟨p, _, _, rfl, rfl, (upd_ne npq).trans hp, Nat.lt_of_le_of_lt (show us.length ≤ 2000000 by omega) (by decide), ?_⟩
        refine second _ _ _ _ (fun H2 us2 q1 q2 q3 => ⟨_, _, _, rfl, q1, q2, q3⟩) z1 upd_same z2 (by rw [List.length_append, List.length_singleton]; omega) ?_
        rw [e1, wo1, if_pos c, List.append_assoc]
      · have c : ¬ x.1 < b := fun h => c (decide_eq_true h)
        refine second _ _ _ _ (fun H2 us2 q1 q2 q3 => ⟨_, _, _, rfl, q1, q2, q3⟩) s5 hp hu (by omega) ?_
        rw [e1, wo1, if_neg c, List.nil_append]
    · rintro σ H' ⟨v1, v2, us, rfl, s5, hp, hu⟩
      rw [ht.length, List.take_length] at hu
      exact ⟨_, rfl, k H' p us s5 np hp hu⟩
end
end Fb
namespace Fb
open PySem PySem.Spec PyProof.Rows L2
/-- a new list of ints at p -/
def NewInts (H : Hp) (Q : VK) (l : List Int) : Prop := ∀ (H' : Hp) (p : Addr), Same H H' → H p = none → H' p = some (.lst (l.map V.int)) → Q (.ref p) H'
def totI (l : List (Int × Int)) : Int := (l.map fun x => x.2 - x.1).sum
def toldI (l : List (Int × Int)) : List Int := (l.length : Int) :: (l.take 30).flatMap fun x => [x.1, x.2]
def spTot (K : PySem.W.Frag) : Sp := fun vs H Q _ => ∃ (a : Addr) (ws : List V) (l : List (Int × Int)), vs = [.ref a] ∧ SqL K H a ws ∧ Tups H ws l ∧ l.length ≤ 1000000 ∧ ∀ H', Same H H' → Q (.int (totI l)) H'
def spTold (K : PySem.W.Frag) : Sp := fun vs H Q _ => ∃ (a : Addr) (ws : List V) (l : List (Int × Int)), vs = [.ref a] ∧ SqL K H a ws ∧ Tups H ws l ∧ NewInts H Q (toldI l)
section
variable {P : Program} {w : World} {K : PySem.W.Frag} {mg : Str → Option Value} {base : Heap}
theorem scTot : FnScope ["stretches", "begin", "end"] ["stretches"] (defScope sTot) := ⟨rfl, rfl, rfl, by decide +kernel, rfl, by decide +kernel, by decide +kernel⟩
theorem ok_tot {f : Addr} {fd : FuncData} (F : Fun K "total" "total" sTot f fd) (T : TxtS mg) : FnOk P w K mg base CX0 1 f fd ["stretches"] (spTot K) := by
  refine F.ok scTot (fun vs H Q E h => ?_) (fun cdv A outer s H vs Q E hr h => ?_)
  · obtain ⟨a, ws, l, rfl, _⟩ := h
    rfl
  · obtain ⟨a, ws, l, rfl, ha, ht, hl, k⟩ := h
    refine ⟨_, pss_one (ps_ret (pe_callB (cr_sum rfl) (by rfl) T.sum (by decide +kernel) (pa_cons
      (pe_lc (own := [("begin", 1), ("end", 2)]) (g := gTup K 2 (gCons (gName 1) (gCons (gName 2) gNil))) (by rfl) scTot.nd (pi_list (pv 0)) (blkOk_by (own := [("begin", 1), ("end", 2)]) (N := ["stretches", "begin", "end"]) (sc := defScope sTot) (by decide +kernel))
        (fun _ _ _ _ _ => pg_tup rfl (pgs_cons (pg_name (i := 1) scTot.nd rfl (Or.inl rfl)) (pgs_cons (pg_name (i := 2) scTot.nd rfl (Or.inl rfl)) pgs_nil)))
        (fun _ _ _ _ _ => pts_nil) (fun _ _ _ _ _ => pe_op op_sub (pv 2) (pv 1))) pa_nil))), ?_⟩
    refine ⟨_, rfl, a, rfl, ⟨_, ha⟩, fun D nD => ?_⟩
    have s1 : Same H (upd H D (.lst [])) := fun c o h => by
      rw [upd_ne (ne_of_none h nD)]
      exact h
    refine lc_list (K := K) (a := a) (xs := ws) (fun i H' => Same H H' ∧ H' D = some (.lst (((l.take i).map fun x => x.2 - x.1).map V.int))) ⟨s1, upd_same⟩ (fun i H' _ q => q.1.seq ha) ?_ ?_
    · rintro i y H' hi ⟨s5, hD⟩
      obtain ⟨t, x, rfl, hx, h2⟩ := ht.get hi
      have hil : i < l.length := (List.getElem?_eq_some_iff.mp hx).1
      have h2' := s5 _ _ h2
      refine ⟨t, _, rfl, SqT.of h2', rfl, _, _, rfl, _, _, rfl, rfl, rfl, ?_⟩
      refine ⟨_, rfl, _, rfl, _, _, rfl, rfl, _, hD, ?_, ?_⟩
      · rw [List.length_map, List.length_map, List.length_take]
        exact Nat.lt_of_le_of_lt (show min i l.length ≤ 1000000 by omega) (by decide)
      · refine ⟨fun c o h => ?_, ?_⟩
        · rw [upd_ne (ne_of_none h nD)]
          exact s5 _ _ h
        · rw [upd_same, take_more hx, List.map_append, List.map_append]
          rfl
    · rintro H' ⟨s5, hD⟩
      rw [ht.length, List.take_length] at hD
      exact ⟨_, _, rfl, SqL.of hD, k _ s5⟩
theorem cutV_mid (xs : List V) (i j : Nat) : cutV xs (some (i : Int)) (some (j : Int)) = (xs.drop i).take (j - i) := by
  unfold cutV
  rw [HT.sIx_nat, HT.sIx_nat]
  by_cases c : i ≤ xs.length
  · rw [Nat.min_eq_left c]
    by_cases d : j ≤ xs.length
    · rw [Nat.min_eq_left d]
    · rw [Nat.min_eq_right (by omega), List.take_of_length_le (by rw [List.length_drop]; omega), List.take_of_length_le (by rw [List.length_drop]; omega)]
  · rw [show min i xs.length = xs.length by omega, List.drop_of_length_le (Nat.le_refl _), List.drop_of_length_le (show xs.length ≤ i by omega), List.take_nil, List.take_nil]
theorem cutV_take (xs : List V) (n : Nat) : cutV xs none (some (n : Int)) = xs.take n := by
  unfold cutV
  rw [HT.sIx_nat, HT.sIx_none, List.drop_zero, Nat.sub_zero]
  by_cases c : n ≤ xs.length
  · rw [Nat.min_eq_left c]
  · rw [Nat.min_eq_right (by omega), List.take_of_length_le (Nat.le_refl _), List.take_of_length_le (by omega)]
theorem Tups.take {H : Hp} : ∀ {vs : List V} {l : List (Int × Int)} (n : Nat), Tups H vs l → Tups H (vs.take n) (l.take n)
  | _, _, 0, _ => trivial
  | [], [], _ + 1, _ => trivial
  | _ :: vs, _ :: l, n + 1, q => ⟨q.1, Tups.take (vs := vs) (l := l) n q.2⟩
  | [], _ :: _, _ + 1, q => q.elim
  | _ :: _, [], _ + 1, q => q.elim
theorem flat_le : ∀ l : List (Int × Int), (l.flatMap fun x => [x.1, x.2]).length = 2 * l.length
  | [] => rfl
  | x :: l => by
    have ih := flat_le l
    rw [List.flatMap_cons, List.length_append, ih]
    show 2 + 2 * l.length = 2 * (l.length + 1)
    omega
theorem scTold : FnScope ["stretches", "numbers", "begin", "end"] ["stretches"] (defScope sTold) := ⟨rfl, rfl, rfl, by decide +kernel, rfl, by decide +kernel, by decide +kernel⟩
theorem ok_told {f : Addr} {fd : FuncData} (F : Fun K "told" "told" sTold f fd) (T : TxtS mg) : FnOk P w K mg base CX0 1 f fd ["stretches"] (spTold K) := by
  refine F.ok scTold (fun vs H Q E h => ?_) (fun cdv A outer s H vs Q E hr h => ?_)
  · obtain ⟨a, ws, l, rfl, _⟩ := h
    rfl
  · obtain ⟨a, ws, l, rfl, ha, ht, k⟩ := h
    obtain ⟨tk, htk⟩ := T.told
    refine ⟨_, pss_cons (ps_set (i := 1) scTold.nd rfl (Or.inl rfl) (pe_lst (pa_cons (pe_callB call_len_seq (by rfl) T.len PySem.boot_len (pa_cons (pv 0) pa_nil)) pa_nil)))
      (pss_cons (ps_for PassesOwn.never rfl (pi_list (pe_slice sl_list (pv 0) po_none (po_some (pe_glob (v := .int 30) rfl htk ⟨_, rfl⟩)))) (pg_tup rfl (pgs_cons (pg_name (i := 2) scTold.nd rfl (Or.inl rfl)) (pgs_cons (pg_name (i := 3) scTold.nd rfl (Or.inl rfl)) pgs_nil)))
        (pss_cons (ps_expr (pe_bm PySem.F.plainAttrs_list PySem.F.slot_list_append PySem.F.type_list_append mt_append (pv 1) (pa_cons (pv 2) pa_nil)))
          (pss_one (ps_expr (pe_bm PySem.F.plainAttrs_list PySem.F.slot_list_append PySem.F.type_list_append mt_append (pv 1) (pa_cons (pv 3) pa_nil))))))
      (pss_one (ps_ret (pv 1)))), ?_⟩
    refine ⟨_, rfl, a, ws, rfl, .inl ha, (by show 1 ≤ sizeLine; decide), fun p np => ?_⟩
    have s1 : Same H (upd H p (.lst [.int ws.length])) := fun c o h => by
      rw [upd_ne (ne_of_none h np)]
      exact h
    refine ⟨_, rfl, _, rfl, a, ws, rfl, s1.seq ha, fun q nq => ?_⟩
    have npq : p ≠ q := ne_of_none upd_same nq
    have nqH : H q = none := s1.free nq
    have ec : cutV ws none (some 30) = ws.take 30 := cutV_take ws 30
    have s2 : Same H (upd (upd H p (.lst [.int ws.length])) q (.lst (cutV ws none (some 30)))) := fun c o h => by
      rw [upd_ne (ne_of_none h nqH)]
      exact s1 _ _ h
    rw [ec] at s2 ⊢
    refine ⟨q, rfl, ⟨_, SqL.of upd_same⟩, for_list (K := K) (a := q) (xs := ws.take 30) (fun i σ H' => ∃ (v1 v2 : Option V), σ = [some (.ref a), some (.ref p), v1, v2] ∧ Same H H' ∧ H' q = some (.lst (ws.take 30)) ∧ H' p = some (.lst (((l.length : Int) :: ((l.take 30).take i).flatMap fun x => [x.1, x.2]).map V.int)))
      ⟨none, none, rfl, s2, upd_same, ?_⟩ (fun i σ H' _ ⟨_, _, _, _, q, _⟩ => SqL.of q) ?_ ?_⟩
    · rw [upd_ne npq, upd_same, ht.length]
      rfl
    · rintro i y σ H' hi ⟨v1, v2, rfl, s5, hq, hp⟩
      obtain ⟨t, x, rfl, hx, h2⟩ := (ht.take 30).get hi
      have hil : i < (l.take 30).length := (List.getElem?_eq_some_iff.mp hx).1
      rw [List.length_take] at hil
      have h2' := s5 _ _ h2
      have hlen : (((l.take 30).take i).flatMap fun x => [x.1, x.2]).length ≤ 60 := by
        rw [flat_le, List.length_take, List.length_take]
        omega
      refine ⟨t, _, rfl, SqT.of h2', rfl, _, _, rfl, _, _, rfl, rfl, ?_⟩
      refine ⟨_, rfl, .inl ⟨rfl, _, SqL.of hp⟩, _, rfl, p, _, _, rfl, rfl, hp, ?_, ?_⟩
      · rw [List.length_map, List.length_cons]
        exact Nat.lt_of_le_of_lt (Nat.succ_le_succ hlen) (by decide)
      refine ⟨_, rfl, .inl ⟨rfl, _, SqL.of upd_same⟩, _, rfl, p, _, _, rfl, rfl, upd_same, ?_, ?_⟩
      · rw [List.length_append, List.length_map, List.length_cons, List.length_singleton]
        exact Nat.lt_of_le_of_lt (Nat.succ_le_succ (Nat.succ_le_succ hlen)) (by decide)
      · refine ⟨_, _, rfl, fun c o h => ?_, ?_, ?_⟩
        · rw [upd_ne (ne_of_none h np), upd_ne (ne_of_none h np)]
          exact s5 _ _ h
        · rw [upd_ne npq.symm, upd_ne npq.symm]
          exact hq
        · rw [upd_same, take_more hx, List.flatMap_append, List.flatMap_cons, List.flatMap_nil, List.append_nil]
          refine congrArg (fun z => some (HO.lst z)) ?_
          simp only [List.map_cons, List.map_append, List.map_nil, List.append_assoc, List.cons_append, List.nil_append]
    · rintro σ H' ⟨v1, v2, rfl, s5, hq, hp⟩
      have e : (l.take 30).take (ws.take 30).length = l.take 30 := List.take_of_length_le (by rw [List.length_take, List.length_take, ht.length]; omega)
      rw [e] at hp
      exact ⟨_, rfl, k H' p s5 np hp⟩
end
end Fb
namespace Fb
open PySem PySem.Spec PyProof.Rows L2
/-- what the module's names stand for -/
structure TxtC (mg : Str → Option Value) : Prop where
  day : ∃ t, mg "DAY" = some (.int 1440 t)
  moments : ∃ t, mg "MOMENTS" = some (.int 144000 t)
  firstDay : ∃ t, mg "FIRST_DAY" = some (.int (-1) t)
  lastDay : ∃ t, mg "LAST_DAY" = some (.int 100 t)
  range : mg "range" = none
  max : mg "max" = none
  min : mg "min" = none
  len : mg "len" = none
/-- a class Person at C -/
structure TxtP (K : PySem.W.Frag) (C : Addr) : Prop where
  cl : Cls K C
  nA : NoAttr K C "ahead"
  nW : NoAttr K C "week"
  nO : NoAttr K C "days_off"
/-- a def of the module by its name -/
def GFun (P : Program) (w : World) (K : PySem.W.Frag) (mg : Str → Option Value) (base : Heap) (x : Str) (ps : List Str) (k : Nat) (sp : Sp) : Prop :=
  ∃ (f : Addr) (fd : FuncData), FnOk P w K mg base CX0 k f fd ps sp ∧ mg x = some (.ref f) ∧ PySem.W.keepIn K (.ref f) = true ∧ Binds K fd ps []
def GMeth (P : Program) (w : World) (K : PySem.W.Frag) (mg : Str → Option Value) (base : Heap) (C : Addr) (x : Str) (ps : List Str) (k : Nat) (sp : Sp) : Prop :=
  ∃ (f : Addr) (fd : FuncData), FnOk P w K mg base CX0 k f fd ps sp ∧ Meth K C x f ∧ Binds K fd ps []
def GMake (P : Program) (w : World) (K : PySem.W.Frag) (mg : Str → Option Value) (base : Heap) (C : Addr) (x : Str) (ps : List Str) (k : Nat) (sp : Sp) : Prop :=
  ∃ (f : Addr) (fd : FuncData), FnOk P w K mg base CX0 k f fd ps sp ∧ Mk K C f ∧ mg x = some (.ref C) ∧ Binds K fd ps []

theorem lk_here {k : Str} {v : V} {r : List (Str × V)} : List.lookup k ((k, v) :: r) = some v := by
  have e : (k == k) = true := beq_self_eq_true k
  simp only [List.lookup, e]
theorem lk_past {k g : Str} {v : V} {r : List (Str × V)} (h : (k == g) = false) : List.lookup k ((g, v) :: r) = List.lookup k r := by
  simp only [List.lookup, h]
theorem put_here {f : Str} {v x : V} {r : List (Str × V)} : putF f v ((f, x) :: r) = (f, v) :: r := if_pos rfl
theorem put_past {f g : Str} {v x : V} {r : List (Str × V)} (h : ¬ g = f) : putF f v ((g, x) :: r) = (g, x) :: putF f v r := if_neg h
theorem put_nil {f : Str} {v : V} : putF f v [] = [(f, v)] := rfl

abbrev sPer : Stmt := top 29
abbrev sPInit : Stmt := inClass sPer 0
abbrev sWorks : Stmt := inClass sPer 1
def up (x : Cl04.Span) : Int × Int := ((x.1 : Int), (x.2 : Int))
def offK (l : List Int) : List (Key × V) := l.map fun d => (Sum.inl d, V.bl true)
def pF (ah : Int) (w o : Addr) : List (Str × V) := [("ahead", .int ah), ("week", .ref w), ("days_off", .ref o)]
theorem pF_ahead (ah : Int) (w o : Addr) : (pF ah w o).lookup ("ahead" : Str) = some (.int ah) := lk_here
theorem pF_week (ah : Int) (w o : Addr) : (pF ah w o).lookup ("week" : Str) = some (.ref w) := (lk_past (by decide +kernel)).trans lk_here
theorem pF_off (ah : Int) (w o : Addr) : (pF ah w o).lookup ("days_off" : Str) = some (.ref o) := (lk_past (by decide +kernel)).trans ((lk_past (by decide +kernel)).trans lk_here)
theorem pF_no (ah : Int) (w o : Addr) {m : Str} (h1 : (m == "ahead") = false) (h2 : (m == "week") = false) (h3 : (m == "days_off") = false) : (pF ah w o).lookup m = none := (lk_past h1).trans ((lk_past h2).trans ((lk_past h3).trans rfl))
theorem pF_new (ah : Int) (w o : Addr) : putF "days_off" (.ref o) (putF "week" (.ref w) (putF "ahead" (.int ah) [])) = pF ah w o := by
  rw [put_nil, put_past (by decide +kernel), put_nil, put_past (by decide +kernel), put_past (by decide +kernel), put_nil]
  rfl
/-- a person at a, their week's list at w, their days off at o -/
structure PerAt (C : Addr) (H : Hp) (a w o : Addr) (p : Cl04.Person) : Prop where
  ins : ∃ dx, H a = some (.ins C dx (pF p.ahead w o))
  week : ∃ ws, H w = some (.lst ws) ∧ Tups H ws (p.hours.map up)
  off : H o = some (.dK (offK p.off))
theorem PerAt.same {C : Addr} {H H' : Hp} {a w o : Addr} {p : Cl04.Person} (h : PerAt C H a w o p) (s : Same H H') : PerAt C H' a w o p := by
  obtain ⟨⟨dx, h1⟩, ⟨ws, h2, h3⟩, h4⟩ := h
  exact ⟨⟨dx, s _ _ h1⟩, ⟨ws, s _ _ h2, h3.mono (TS1.same s)⟩, s _ _ h4⟩
def newPer (r : Int) : Cl04.Person := ⟨r, List.replicate 7 (0, 0), []⟩
def spPInit (C : Addr) : Sp := fun vs H Q _ => ∃ (p dx : Addr) (r : Int), vs = [.ref p, .int r] ∧ H p = some (.ins C dx []) ∧
  ∀ (H' : Hp) (w o : Addr), PerAt C H' p w o (newPer r) → H w = none → H o = none → But p H H' → Q .non H'
def mx (i j : Int) : Int := if j > i then j else i
def mn (i j : Int) : Int := if j < i then j else i
def dayStep (p : Cl04.Person) (a b : Int) (acc : List (Int × Int)) (k : Nat) : List (Int × Int) :=
  if ((-1 : Int) + (k : Int)) ∈ p.off then acc else
    putB acc (mx a (((-1 : Int) + (k : Int)) * 1440 - p.ahead + ((p.hours.getD (((-1 : Int) + (k : Int)) % 7).toNat (0, 0)).1 : Int)))
      (mn b (((-1 : Int) + (k : Int)) * 1440 - p.ahead + ((p.hours.getD (((-1 : Int) + (k : Int)) % 7).toNat (0, 0)).2 : Int)))
def worksM (p : Cl04.Person) (a b : Int) (n : Nat) : List (Int × Int) := (List.range n).foldl (dayStep p a b) []
theorem worksM_more (p : Cl04.Person) (a b : Int) (n : Nat) : worksM p a b (n + 1) = dayStep p a b (worksM p a b n) n := by
  unfold worksM
  rw [List.range_succ, List.foldl_append]
  rfl
theorem putB_le (l : List (Int × Int)) (b e : Int) : (putB l b e).length ≤ l.length + 1 := by
  unfold putB
  split
  · omega
  · split
    · exact Nat.succ_le_succ (Nat.zero_le _)
    · split
      · rw [List.length_append, List.length_dropLast, List.length_singleton]
        omega
      · rw [List.length_append, List.length_singleton]
        omega
theorem worksM_le (p : Cl04.Person) (a b : Int) : ∀ n : Nat, (worksM p a b n).length ≤ n
  | 0 => Nat.le_refl _
  | n + 1 => by
    rw [worksM_more]
    unfold dayStep
    have ih := worksM_le p a b n
    split
    · omega
    · exact Nat.le_trans (putB_le _ _ _) (Nat.succ_le_succ ih)
def spWorks (C : Addr) : Sp := fun vs H Q _ => ∃ (q w o : Addr) (p : Cl04.Person) (a b : Int), vs = [.ref q, .int a, .int b] ∧ PerAt C H q w o p ∧ p.hours.length = 7 ∧ NewSt H Q (worksM p a b 102)
theorem valV_off {l : List Int} {d : Int} : valV (offK l) (Sum.inl d) = if d ∈ l then some (.bl true) else none := by
  induction l with
  | nil => rfl
  | cons x r ih =>
    by_cases e : x = d
    · rw [if_pos (e ▸ List.mem_cons_self ..)]
      exact valV_pos (p := (Sum.inl x, V.bl true)) (congrArg Sum.inl e)
    · have : valV (offK (x :: r)) (Sum.inl d) = valV (offK r) (Sum.inl d) := valV_neg (p := (Sum.inl x, V.bl true)) (fun q => e (Sum.inl.inj q))
      rw [this, ih]
      by_cases c : d ∈ r
      · rw [if_pos c, if_pos (List.mem_cons_of_mem _ c)]
      · rw [if_neg c, if_neg fun h => (List.mem_cons.mp h).elim (fun q => e q.symm) c]
section
variable {P : Program} {w : World} {K : PySem.W.Frag} {mg : Str → Option Value} {base : Heap}
theorem scPInit : FnScope ["self", "ahead"] ["self", "ahead"] (defScope sPInit) := ⟨rfl, rfl, rfl, by decide +kernel, rfl, by decide +kernel, by decide +kernel⟩
theorem ok_pInit {f C : Addr} {fd : FuncData} (F : Fun K "__init__" "Person.__init__" sPInit f fd) (T : TxtP K C) : FnOk P w K mg base CX0 1 f fd ["self", "ahead"] (spPInit C) := by
  refine F.ok scPInit (fun vs H Q E h => ?_) (fun cdv A outer s H vs Q E hr h => ?_)
  · obtain ⟨p, dx, r, rfl, _⟩ := h
    rfl
  · obtain ⟨p, dx, r, rfl, hp, k⟩ := h
    refine ⟨_, pss_cons (ps_fld (pv 0) (pv 1) rfl) (pss_cons (ps_fld (pv 0) (pe_op op_rep (pe_lst (pa_cons (pe_tup (pa_cons pe_int (pa_cons pe_int pa_nil))) pa_nil)) pe_int) rfl) (pss_one (ps_fld (pv 0) pe_dnewK rfl))), ?_⟩
    refine ⟨_, rfl, _, rfl, p, C, dx, [], rfl, hp, T.cl, T.nA, (by show 0 < 1000; decide), ?_⟩
    refine ⟨(by show 2 ≤ sizeLine; decide), fun t nt => ⟨(by show 1 ≤ sizeLine; decide), fun l nl => ?_⟩⟩
    have npt : p ≠ t := ne_of_none upd_same nt
    have ntl : t ≠ l := ne_of_none upd_same nl
    have npl : p ≠ l := ne_of_none ((upd_ne npt).trans upd_same) nl
    refine ⟨l, 7, [.ref t], rfl, rfl, upd_same, by decide, by decide, (by show 1 * 7 ≤ sizeLine; decide), fun w nw => ?_⟩
    have nlw : l ≠ w := ne_of_none upd_same nw
    have ntw : t ≠ w := ne_of_none ((upd_ne ntl).trans upd_same) nw
    have npw : p ≠ w := ne_of_none ((upd_ne npl).trans ((upd_ne npt).trans upd_same)) nw
    have ep : upd (upd (upd (upd H p (.ins C dx (putF "ahead" (.int r) []))) t (.tup [.int 0, .int 0])) l (.lst [.ref t])) w (.lst (List.replicate (Int.toNat 7) [V.ref t]).flatten) p = some (.ins C dx (putF "ahead" (.int r) [])) := by
      rw [upd_ne npw, upd_ne npl, upd_ne npt, upd_same]
    refine ⟨_, rfl, p, C, dx, _, rfl, ep, T.cl, T.nW, (by show 1 < 1000; decide), ?_⟩
    intro o no
    have npo : p ≠ o := ne_of_none upd_same no
    have now : w ≠ o := ne_of_none ((upd_ne npw.symm).trans upd_same) no
    have nto : t ≠ o := ne_of_none ((upd_ne npt.symm).trans ((upd_ne ntw).trans ((upd_ne ntl).trans upd_same))) no
    refine ⟨_, rfl, p, C, dx, _, rfl, (upd_ne npo).trans upd_same, T.cl, T.nO, (by rw [put_nil, put_past (by decide +kernel), put_nil]; show 2 < 1000; decide), ?_⟩
    refine k _ w o ⟨⟨dx, ?_⟩, ⟨(List.replicate (Int.toNat 7) [V.ref t]).flatten, ?_, ?_⟩, ?_⟩ ?_ ?_ fun b o' h hb => ?_
    · rw [upd_same, pF_new]
      rfl
    · rw [upd_ne npw.symm, upd_ne now, upd_ne npw.symm, upd_same]
    · have ht : upd (upd (upd (upd (upd (upd (upd H p (.ins C dx (putF "ahead" (.int r) []))) t (.tup [.int 0, .int 0])) l (.lst [.ref t])) w (.lst (List.replicate (Int.toNat 7) [V.ref t]).flatten)) p (.ins C dx (putF "week" (.ref w) (putF "ahead" (.int r) [])))) o (.dK [])) p (.ins C dx (putF "days_off" (.ref o) (putF "week" (.ref w) (putF "ahead" (.int r) [])))) t = some (.tup [.int 0, .int 0]) := by
        rw [upd_ne npt.symm, upd_ne nto, upd_ne npt.symm, upd_ne ntw, upd_ne ntl, upd_same]
      have x : ∃ q, V.ref t = V.ref q ∧ upd (upd (upd (upd (upd (upd (upd H p (.ins C dx (putF "ahead" (.int r) []))) t (.tup [.int 0, .int 0])) l (.lst [.ref t])) w (.lst (List.replicate (Int.toNat 7) [V.ref t]).flatten)) p (.ins C dx (putF "week" (.ref w) (putF "ahead" (.int r) [])))) o (.dK [])) p (.ins C dx (putF "days_off" (.ref o) (putF "week" (.ref w) (putF "ahead" (.int r) [])))) q = some (.tup [.int 0, .int 0]) := ⟨t, rfl, ht⟩
      exact ⟨x, x, x, x, x, x, x, trivial⟩
    · rw [upd_ne npo.symm, upd_same]
      rfl
    · cases q : H w with
      | none => rfl
      | some z =>
        rw [upd_ne nlw.symm, upd_ne ntw.symm, upd_ne npw.symm, q] at nw
        cases nw
    · cases q : H o with
      | none => rfl
      | some z =>
        have nol : o ≠ l := fun e => by
          rw [e, upd_ne npl.symm, upd_ne nlw, upd_same] at no
          cases no
        rw [upd_ne npo.symm, upd_ne now.symm, upd_ne nol, upd_ne nto.symm, upd_ne npo.symm, q] at no
        cases no
    · have h1 : b ≠ t := ne_of_none (H := upd H p (.ins C dx (putF "ahead" (.int r) []))) ((upd_ne hb).trans h) nt
      have h2 : b ≠ l := ne_of_none (H := upd (upd H p (.ins C dx (putF "ahead" (.int r) []))) t (.tup [.int 0, .int 0])) ((upd_ne h1).trans ((upd_ne hb).trans h)) nl
      have h3 : b ≠ w := ne_of_none ((upd_ne h2).trans ((upd_ne h1).trans ((upd_ne hb).trans h))) nw
      have h4 : b ≠ o := ne_of_none ((upd_ne hb).trans ((upd_ne h3).trans ((upd_ne h2).trans ((upd_ne h1).trans ((upd_ne hb).trans h))))) no
      rw [upd_ne hb, upd_ne h4, upd_ne hb, upd_ne h3, upd_ne h2, upd_ne h1, upd_ne hb]
      exact h
end
end Fb
namespace Fb
open PySem PySem.Spec PyProof.Rows L2
section
variable {P : Program} {w : World} {K : PySem.W.Frag} {mg : Str → Option Value} {base : Heap}
theorem scWorks : FnScope ["self", "a", "b", "found", "day", "midnight", "span"] ["self", "a", "b"] (defScope sWorks) := ⟨rfl, rfl, rfl, by decide +kernel, rfl, by decide +kernel, by decide +kernel⟩
theorem ok_works {f C : Addr} {fd : FuncData} (F : Fun K "works" "Person.works" sWorks f fd) (T : TxtP K C) (TC : TxtC mg) (GP : GFun P w K mg base "put_behind" ["stretches", "begin", "end"] 1 spPut) : FnOk P w K mg base CX0 2 f fd ["self", "a", "b"] (spWorks C) := by
  refine F.ok scWorks (fun vs H Q E h => ?_) (fun cdv A outer s H vs Q E hr h => ?_)
  · obtain ⟨q, w, o, p, a, b, rfl, _⟩ := h
    rfl
  · obtain ⟨q, wk, o, p, a, b, rfl, hp, h7, k⟩ := h
    obtain ⟨fp, fdp, GP, mgp, kpp, bp⟩ := GP
    obtain ⟨t1, e1⟩ := TC.firstDay
    obtain ⟨t2, e2⟩ := TC.lastDay
    obtain ⟨t3, e3⟩ := TC.day
    have hu := hu_of hr
    refine ⟨_, pss_cons (ps_set (i := 3) scWorks.nd rfl (Or.inl rfl) (pe_lst pa_nil))
      (pss_cons (ps_for PassesOwn.never rfl (pi_range2 rfl TC.range (pa_cons (pe_glob (v := .int (-1)) rfl e1 ⟨_, rfl⟩) (pa_cons (pe_op op_add (pe_glob (v := .int 100) rfl e2 ⟨_, rfl⟩) pe_int) pa_nil))) (pg_name (i := 4) scWorks.nd rfl (Or.inl rfl))
        (pss_one (ps_if (pt_cmp (pc_dnotin hu (pv 4) (pe_fld (pv 0) rfl)))
          (pss_cons (ps_set (i := 5) scWorks.nd rfl (Or.inl rfl) (pe_op op_sub (pe_op op_mul (pv 4) (pe_glob (v := .int 1440) rfl e3 ⟨_, rfl⟩)) (pe_fld (pv 0) rfl)))
          (pss_cons (ps_set (i := 6) scWorks.nd rfl (Or.inl rfl) (pe_ix ix_list (pe_fld (pv 0) rfl) (pe_op op_mod (pv 4) pe_int) (fun _ _ => rfl)))
          (pss_one (ps_expr (pe_call GP hr rfl mgp kpp bp .nil pass0 (pa_cons (pv 3) (pa_cons (pe_callB (call_max2 rfl) (by rfl) TC.max (by decide +kernel) (pa_cons (pv 1) (pa_cons (pe_op op_add (pv 5) (pe_ix ix_tup (pv 6) pe_int (fun _ _ => rfl))) pa_nil)))
            (pa_cons (pe_callB (call_min2 rfl) (by rfl) TC.min (by decide +kernel) (pa_cons (pv 2) (pa_cons (pe_op op_add (pv 5) (pe_ix ix_tup (pv 6) pe_int (fun _ _ => rfl))) pa_nil))) pa_nil))))))))
          pss_nil)))
      (pss_one (ps_ret (pv 3)))), ?_⟩
    refine ⟨Nat.zero_le _, fun fo nf => ?_⟩
    have s1 : Same H (upd H fo (.lst [])) := fun c o h => by
      rw [upd_ne (ne_of_none h nf)]
      exact h
    refine ⟨_, _, rfl, rfl, -1, 101, rfl, by decide, ?_⟩
    refine for_range (lo := -1) (n := 102) (fun i σ H' => ∃ (v1 v2 v3 : Option V) (us : List V), σ = [some (.ref q), some (.int a), some (.int b), some (.ref fo), v1, v2, v3] ∧ Same H H' ∧ H' fo = some (.lst us) ∧ Tups H' us (worksM p a b i))
      ⟨none, none, none, [], rfl, s1, upd_same, trivial⟩ ?_ ?_
    · rintro i σ H' hi ⟨v1, v2, v3, us, rfl, s5, hf, hus⟩
      have hp' := hp.same s5
      obtain ⟨⟨dx, h1⟩, ⟨ws, h2, h3⟩, h4⟩ := hp'
      refine ⟨_, rfl, _, rfl, q, C, dx, _, _, rfl, h1, T.cl, T.nO, pF_off _ _ _, o, _, rfl, DGet.k (k := Sum.inl (-1 + (i : Int))) h4, _, rfl, ?_⟩
      rw [valV_off]
      have em := worksM_more p a b i
      by_cases c : (-1 + (i : Int)) ∈ p.off
      · rw [if_pos c]
        refine if_false_of rfl ?_
        refine ⟨_, _, _, us, rfl, s5, hf, ?_⟩
        rw [em, dayStep, if_pos c]
        exact hus
      · rw [if_neg c]
        refine if_true_of rfl ?_
        refine ⟨_, rfl, _, _, rfl, rfl, .inl (by omega), _, rfl, q, C, dx, _, _, rfl, h1, T.cl, T.nA, pF_ahead _ _ _, _, _, rfl, rfl, ?_⟩
        have hm : ((-1 + (i : Int)) % 7).toNat < p.hours.length := by omega
        have hm2 : ((((-1 + (i : Int)) % 7).toNat : Nat) : Int) = (-1 + (i : Int)) % 7 := by omega
        have hwl := h3.length
        rw [List.length_map] at hwl
        obtain ⟨v, hv⟩ : ∃ v, ws[((-1 + (i : Int)) % 7).toNat]? = some v := ⟨_, List.getElem?_eq_getElem (by omega)⟩
        obtain ⟨t, x, rfl, hx, ht⟩ := h3.get hv
        have hx2 : x = up (p.hours.getD ((-1 + (i : Int)) % 7).toNat (0, 0)) := by
          rw [List.getElem?_map, List.getElem?_eq_getElem hm] at hx
          rw [List.getD_eq_getElem?_getD, List.getElem?_eq_getElem hm]
          exact (Option.some.inj hx).symm
        refine ⟨_, rfl, q, C, dx, _, _, rfl, h1, T.cl, T.nW, pF_week _ _ _, _, rfl, _, _, rfl, rfl, (by show (0 : Int) < 7; decide), wk, ws, _, .ref t, rfl, rfl, SqL.of h2, ?_, ?_⟩
        · have := atI_nat hv
          rw [hm2] at this
          exact this
        refine ⟨_, rfl, _, rfl, _, rfl, _, rfl, t, _, _, _, rfl, rfl, SqT.of ht, rfl, _, _, rfl, rfl, _, _, rfl, ?_⟩
        refine ⟨_, rfl, _, rfl, _, rfl, t, _, _, _, rfl, rfl, SqT.of ht, rfl, _, _, rfl, rfl, _, _, rfl, ?_⟩
        refine ⟨fo, us, _, _, _, rfl, hf, hus, Nat.le_trans (worksM_le p a b i) (by omega), fun H2 us2 k1 k2 k3 => ?_⟩
        refine ⟨_, _, _, us2, rfl, fun c' o' hc' => k3 _ _ (s5 _ _ hc') (ne_of_none hc' nf), k1, ?_⟩
        rw [em, dayStep, if_neg c]
        rw [hx2] at k2
        exact k2
    · rintro σ H' ⟨v1, v2, v3, us, rfl, s5, hf, hus⟩
      exact ⟨_, rfl, k H' fo us s5 nf hf hus⟩
end
end Fb
/-! Stretches of whole numbers: the program's own rows, minute by minute. -/
namespace Fb
open Cl04 (Span END)
def HsI (l : List (Int × Int)) (u : Int) : Prop := ∃ x ∈ l, x.1 ≤ u ∧ u < x.2
def PlI : List (Int × Int) → Prop
  | [] => True
  | x :: r => x.1 < x.2 ∧ (∀ y ∈ r, x.2 < y.1) ∧ PlI r
theorem HsI_nil {u : Int} : ¬ HsI [] u := fun ⟨_, h, _⟩ => by cases h
theorem HsI_cons {x : Int × Int} {l : List (Int × Int)} {u : Int} : HsI (x :: l) u ↔ (x.1 ≤ u ∧ u < x.2) ∨ HsI l u := by
  unfold HsI
  simp only [List.mem_cons, exists_eq_or_imp]
theorem HsI_append {l m : List (Int × Int)} {u : Int} : HsI (l ++ m) u ↔ HsI l u ∨ HsI m u := by
  unfold HsI
  simp only [List.mem_append]
  constructor
  · rintro ⟨x, h | h, q⟩
    · exact .inl ⟨x, h, q⟩
    · exact .inr ⟨x, h, q⟩
  · rintro (⟨x, h, q⟩ | ⟨x, h, q⟩)
    · exact ⟨x, .inl h, q⟩
    · exact ⟨x, .inr h, q⟩
theorem HsI_one {a b u : Int} : HsI [(a, b)] u ↔ a ≤ u ∧ u < b := by
  rw [HsI_cons]
  exact ⟨fun q => q.elim id fun q => absurd q HsI_nil, .inl⟩
theorem PlI.ne {l : List (Int × Int)} : PlI l → ∀ x ∈ l, x.1 < x.2 := by
  induction l with
  | nil => intro _ x h; cases h
  | cons y r ih =>
    intro h x hx
    rcases List.mem_cons.mp hx with rfl | hx
    · exact h.1
    · exact ih h.2.2 x hx
theorem PlI.append {l m : List (Int × Int)} : PlI l → PlI m → (∀ x ∈ l, ∀ y ∈ m, x.2 < y.1) → PlI (l ++ m) := by
  induction l with
  | nil => intro _ h _; exact h
  | cons x r ih =>
    intro hl hm hd
    refine ⟨hl.1, fun y hy => ?_, ih hl.2.2 hm fun z hz => hd z (List.mem_cons_of_mem _ hz)⟩
    rcases List.mem_append.mp hy with hy | hy
    · exact hl.2.1 y hy
    · exact hd x (List.mem_cons_self ..) y hy
theorem PlI.parts {l m : List (Int × Int)} : PlI (l ++ m) → PlI l ∧ PlI m ∧ ∀ x ∈ l, ∀ y ∈ m, x.2 < y.1 := by
  induction l with
  | nil => intro h; exact ⟨trivial, h, fun x hx => by cases hx⟩
  | cons x r ih =>
    intro h
    obtain ⟨h1, h2, h3⟩ := h
    obtain ⟨q1, q2, q3⟩ := ih h3
    refine ⟨⟨h1, fun y hy => h2 y (List.mem_append_left _ hy), q1⟩, q2, fun z hz y hy => ?_⟩
    rcases List.mem_cons.mp hz with rfl | hz
    · exact h2 y (List.mem_append_right _ hy)
    · exact q3 z hz y hy
theorem plI_one {a b : Int} (h : a < b) : PlI [(a, b)] := ⟨h, fun y hy => (by cases hy), trivial⟩
theorem plI_ext : ∀ {l m : List (Int × Int)}, PlI l → PlI m → (∀ u, HsI l u ↔ HsI m u) → l = m
  | [], [], _, _, _ => rfl
  | [], y :: m, _, hm, h => absurd ((h y.1).mpr ⟨y, List.mem_cons_self .., Int.le_refl _, hm.1⟩) HsI_nil
  | x :: l, [], hl, _, h => absurd ((h x.1).mp ⟨x, List.mem_cons_self .., Int.le_refl _, hl.1⟩) HsI_nil
  | x :: l, y :: m, hl, hm, h => by
    have no_l : ∀ u, u ≤ x.2 → ¬ HsI l u := fun u hu ⟨z, hz, q, _⟩ => by
      have := hl.2.1 z hz; omega
    have no_m : ∀ u, u ≤ y.2 → ¬ HsI m u := fun u hu ⟨z, hz, q, _⟩ => by
      have := hm.2.1 z hz; omega
    have h1 := hl.1
    have h2 := hm.1
    have e1 : x.1 = y.1 := by
      have a1 := (h x.1).mp (HsI_cons.mpr (.inl ⟨Int.le_refl _, h1⟩))
      have a2 := (h y.1).mpr (HsI_cons.mpr (.inl ⟨Int.le_refl _, h2⟩))
      rcases HsI_cons.mp a1 with b1 | b1 <;> rcases HsI_cons.mp a2 with b2 | b2
      · omega
      · by_cases q : y.1 ≤ x.2
        · exact absurd b2 (no_l _ q)
        · omega
      · by_cases q : x.1 ≤ y.2
        · exact absurd b1 (no_m _ q)
        · omega
      · by_cases q : x.1 ≤ y.2
        · exact absurd b1 (no_m _ q)
        · by_cases q : y.1 ≤ x.2
          · exact absurd b2 (no_l _ q)
          · omega
    have e2 : x.2 = y.2 := by
      have c1 : ¬ x.2 < y.2 := fun c => by
        rcases HsI_cons.mp ((h x.2).mpr (HsI_cons.mpr (.inl ⟨by omega, c⟩))) with b | b
        · omega
        · exact no_l _ (Int.le_refl _) b
      have c2 : ¬ y.2 < x.2 := fun c => by
        rcases HsI_cons.mp ((h y.2).mp (HsI_cons.mpr (.inl ⟨by omega, c⟩))) with b | b
        · omega
        · exact no_m _ (Int.le_refl _) b
      omega
    have e : x = y := Prod.ext e1 e2
    subst e
    refine congrArg _ (plI_ext hl.2.2 hm.2.2 fun u => ?_)
    have hu := h u
    rw [HsI_cons, HsI_cons] at hu
    constructor
    · intro q
      rcases hu.mp (.inr q) with b | b
      · exact absurd q (no_l _ (by omega))
      · exact b
    · intro q
      rcases hu.mpr (.inr q) with b | b
      · exact absurd q (no_m _ (by omega))
      · exact b
/-- no more stretches than minutes -/
theorem PlI.len {l : List (Int × Int)} : PlI l → ∀ {a b : Int}, (∀ x ∈ l, a ≤ x.1 ∧ x.2 ≤ b) → a ≤ b → (l.length : Int) ≤ b - a := by
  induction l with
  | nil => intro _ a b _ h; show ((0 : Nat) : Int) ≤ _; omega
  | cons x r ih =>
    intro h a b hb hab
    have hx := hb x (List.mem_cons_self ..)
    have h1 := h.1
    have := ih h.2.2 (a := x.2) (b := b) (fun y hy => ⟨by have := h.2.1 y hy; omega, (hb y (List.mem_cons_of_mem _ hy)).2⟩) hx.2
    rw [List.length_cons]
    omega
/-! ### from the specification's rows -/
theorem plI_up {l : List Span} : Pl l → PlI (l.map up) := by
  induction l with
  | nil => intro _; trivial
  | cons x r ih =>
    intro h
    refine ⟨?_, fun y hy => ?_, ih h.2.2⟩
    · have := h.1
      show ((x.1 : Nat) : Int) < ((x.2 : Nat) : Int)
      omega
    · obtain ⟨z, hz, rfl⟩ := List.mem_map.mp hy
      have := h.2.1 z hz
      show ((x.2 : Nat) : Int) < ((z.1 : Nat) : Int)
      omega
theorem HsI_up {l : List Span} {u : Int} : HsI (l.map up) u ↔ 0 ≤ u ∧ Hs l u.toNat := by
  constructor
  · rintro ⟨y, hy, q⟩
    obtain ⟨x, hx, rfl⟩ := List.mem_map.mp hy
    have q1 : ((x.1 : Nat) : Int) ≤ u := q.1
    have q2 : u < ((x.2 : Nat) : Int) := q.2
    exact ⟨by omega, x, hx, by omega⟩
  · rintro ⟨h, x, hx, q⟩
    refine ⟨up x, List.mem_map.mpr ⟨x, hx, rfl⟩, ?_, ?_⟩
    · show ((x.1 : Nat) : Int) ≤ u
      omega
    · show u < ((x.2 : Nat) : Int)
      omega
/-- a row of the program's is one of the specification's, if its minutes are -/
theorem row_is {l : List (Int × Int)} {m : List Span} (hl : PlI l) (hm : Pl m) (h : ∀ u : Int, HsI l u ↔ 0 ≤ u ∧ Hs m u.toNat) : l = m.map up :=
  plI_ext hl (plI_up hm) fun u => (h u).trans HsI_up.symm
/-! ### put_behind -/
theorem putB_ok {l : List (Int × Int)} {b e : Int} (h : PlI l) (hb : ∀ x ∈ l, x.2 ≤ b) :
    PlI (putB l b e) ∧ (∀ u, HsI (putB l b e) u ↔ HsI l u ∨ (b ≤ u ∧ u < e)) ∧ ∀ M : Int, (∀ x ∈ l, x.2 ≤ M) → e ≤ M → ∀ x ∈ putB l b e, x.2 ≤ M := by
  unfold putB
  by_cases c : b ≥ e
  · rw [if_pos c]
    exact ⟨h, fun u => ⟨.inl, fun q => q.elim id fun q => by omega⟩, fun M hM _ => hM⟩
  · rw [if_neg c]
    rcases List.eq_nil_or_concat l with rfl | ⟨m, x, rfl⟩
    · refine ⟨plI_one (by omega), fun u => ?_, fun M _ hM x hx => ?_⟩
      · show HsI [(b, e)] u ↔ _
        rw [HsI_one]
        exact ⟨.inr, fun q => q.elim (fun q => absurd q HsI_nil) id⟩
      · rcases List.mem_cons.mp hx with rfl | hx
        · exact hM
        · cases hx
    · rw [List.concat_eq_append] at *
      rw [List.getLast?_concat, List.dropLast_concat]
      obtain ⟨p1, p2, p3⟩ := h.parts
      have hx := hb x (List.mem_append_right _ (List.mem_cons_self ..))
      have hx1 := p2.1
      dsimp only
      by_cases d : x.2 = b
      · rw [if_pos d]
        refine ⟨p1.append (plI_one (by omega)) fun z hz y hy => ?_, fun u => ?_, fun M hM he y hy => ?_⟩
        · rcases List.mem_cons.mp hy with rfl | hy
          · exact p3 z hz x (List.mem_cons_self ..)
          · cases hy
        · rw [HsI_append, HsI_append, HsI_one, show [x] = [(x.1, x.2)] from rfl, HsI_one]
          constructor
          · rintro (q | q)
            · exact .inl (.inl q)
            · by_cases z : u < b
              · exact .inl (.inr (by omega))
              · exact .inr (by omega)
          · rintro ((q | q) | q)
            · exact .inl q
            · exact .inr (by omega)
            · exact .inr (by omega)
        · rcases List.mem_append.mp hy with hy | hy
          · exact hM y (List.mem_append_left _ hy)
          · rcases List.mem_cons.mp hy with rfl | hy
            · exact he
            · cases hy
      · rw [if_neg d]
        refine ⟨h.append (plI_one (by omega)) fun z hz y hy => ?_, fun u => ?_, fun M hM he y hy => ?_⟩
        · rcases List.mem_cons.mp hy with rfl | hy
          · show z.2 < b
            rcases List.mem_append.mp hz with hz | hz
            · have := p3 z hz x (List.mem_cons_self ..)
              omega
            · rcases List.mem_cons.mp hz with rfl | hz
              · omega
              · cases hz
          · cases hy
        · rw [HsI_append (l := m ++ [x]), HsI_one]
        · rcases List.mem_append.mp hy with hy | hy
          · exact hM y hy
          · rcases List.mem_cons.mp hy with rfl | hy
            · exact he
            · cases hy
/-! ### works -/
structure WFp (p : Cl04.Person) : Prop where
  ahead : -840 ≤ p.ahead ∧ p.ahead ≤ 840
  seven : p.hours.length = 7
  hours : ∀ h ∈ p.hours, h.1 ≤ h.2 ∧ h.2 ≤ 1440
  off : ∀ d ∈ p.off, -1 ≤ d ∧ d ≤ 100
  nd : p.off.Nodup
theorem WFp.day {p : Cl04.Person} (h : WFp p) (i : Nat) : (p.hours.getD i (0, 0)).1 ≤ (p.hours.getD i (0, 0)).2 ∧ (p.hours.getD i (0, 0)).2 ≤ 1440 := by
  rw [List.getD_eq_getElem?_getD]
  cases e : p.hours[i]? with
  | none => exact ⟨Nat.le_refl _, Nat.zero_le _⟩
  | some x => exact h.hours x (List.mem_of_getElem? e)
theorem worksM_go {p : Cl04.Person} (hp : WFp p) (a b : Int) : ∀ n : Nat, PlI (worksM p a b n) ∧
    (∀ u, HsI (worksM p a b n) u ↔ a ≤ u ∧ u < b ∧ ∃ k : Nat, k < n ∧ ¬ ((k : Int) - 1) ∈ p.off ∧
      1440 * ((k : Int) - 1) + ((p.hours.getD (((k : Int) - 1) % 7).toNat (0, 0)).1 : Int) - p.ahead ≤ u ∧ u < 1440 * ((k : Int) - 1) + ((p.hours.getD (((k : Int) - 1) % 7).toNat (0, 0)).2 : Int) - p.ahead) ∧
    ∀ x ∈ worksM p a b n, x.2 ≤ (-1 + (n : Int)) * 1440 - p.ahead
  | 0 => ⟨trivial, fun u => ⟨fun q => absurd q HsI_nil, fun ⟨_, _, k, hk, _⟩ => absurd hk (Nat.not_lt_zero _)⟩, fun x hx => by cases hx⟩
  | n + 1 => by
    obtain ⟨h1, h2, h3⟩ := worksM_go hp a b n
    have hd := hp.day (((n : Int) - 1) % 7).toNat
    have en : (-1 : Int) + (n : Int) = (n : Int) - 1 := by omega
    rw [worksM_more, dayStep, en]
    rw [en] at h3
    have later : (∀ x ∈ worksM p a b n, x.2 ≤ (-1 + ((n + 1 : Nat) : Int)) * 1440 - p.ahead) := fun x hx => by
      have := h3 x hx
      omega
    by_cases c : ((n : Int) - 1) ∈ p.off
    · rw [if_pos c]
      refine ⟨h1, fun u => (h2 u).trans ?_, later⟩
      constructor
      · rintro ⟨q1, q2, k, hk, q3⟩
        exact ⟨q1, q2, k, by omega, q3⟩
      · rintro ⟨q1, q2, k, hk, q3, q4⟩
        refine ⟨q1, q2, k, ?_, q3, q4⟩
        rcases Nat.lt_succ_iff_lt_or_eq.mp hk with hk | rfl
        · exact hk
        · exact absurd c q3
    · rw [if_neg c]
      have k1 : ∀ i j : Int, mx i j = max i j := fun i j => by unfold mx; omega
      have k2 : ∀ i j : Int, mn i j = min i j := fun i j => by unfold mn; omega
      rw [k1, k2]
      have q := putB_ok (b := max a (((n : Int) - 1) * 1440 - p.ahead + ((p.hours.getD (((n : Int) - 1) % 7).toNat (0, 0)).1 : Int)))
        (e := min b (((n : Int) - 1) * 1440 - p.ahead + ((p.hours.getD (((n : Int) - 1) % 7).toNat (0, 0)).2 : Int))) h1 (fun x hx => by
        have := h3 x hx
        omega)
      refine ⟨q.1, fun u => ?_, q.2.2 _ later (by omega)⟩
      rw [q.2.1 u, h2 u]
      constructor
      · rintro (⟨q1, q2, k, hk, q3⟩ | q1)
        · exact ⟨q1, q2, k, by omega, q3⟩
        · exact ⟨by omega, by omega, n, by omega, c, by omega, by omega⟩
      · rintro ⟨q1, q2, k, hk, q3, q4⟩
        rcases Nat.lt_succ_iff_lt_or_eq.mp hk with hk | rfl
        · exact .inl ⟨q1, q2, k, hk, q3, q4⟩
        · exact .inr (by omega)
theorem worksM_ok {p : Cl04.Person} (hp : WFp p) (a b : Int) : PlI (worksM p a b 102) ∧ ∀ u, HsI (worksM p a b 102) u ↔ a ≤ u ∧ u < b ∧ WorkAt p u := ⟨(worksM_go hp a b 102).1, (worksM_go hp a b 102).2.1⟩
theorem works_is {p : Cl04.Person} (hp : WFp p) {a b : Nat} (h : a < b) (hb : b ≤ END) : worksM p a b 102 = (Cl04.within (Cl04.work p) a b).map up := by
  have q := worksM_ok hp a b
  refine row_is q.1 (within_ok (work_pl p) h).1 fun u => ?_
  rw [q.2 u, (within_ok (work_pl p) h).2, Hs_work]
  constructor
  · rintro ⟨h1, h2, h3⟩
    have e : ((u.toNat : Nat) : Int) = u := by omega
    exact ⟨by omega, ⟨by omega, e.symm ▸ h3⟩, by omega, by omega⟩
  · rintro ⟨h0, ⟨_, h3⟩, h1, h2⟩
    have e : ((u.toNat : Nat) : Int) = u := by omega
    exact ⟨by omega, by omega, e ▸ h3⟩
theorem works_all {p : Cl04.Person} (hp : WFp p) : worksM p 0 144000 102 = (Cl04.work p).map up := by
  have e := works_is hp (a := 0) (b := END) (by decide) (Nat.le_refl _)
  rw [within_all (work_pl p) (by decide) fun u hu => ((Hs_work p u).mp hu).1] at e
  exact e
theorem totI_cons (x : Int × Int) (l : List (Int × Int)) : totI (x :: l) = (x.2 - x.1) + totI l := by
  unfold totI
  rw [List.map_cons, List.sum_cons]
theorem totI_up : ∀ {l : List Span}, (∀ x ∈ l, x.1 < x.2) → totI (l.map up) = (Cl04.size l : Int)
  | [], _ => rfl
  | x :: l, h => by
    have ih := totI_up (l := l) fun y hy => h y (List.mem_cons_of_mem _ hy)
    have h1 := h x (List.mem_cons_self ..)
    rw [List.map_cons, totI_cons, ih, size_cons]
    show ((x.2 : Nat) : Int) - ((x.1 : Nat) : Int) + _ = _
    omega
theorem toldI_up (l : List Span) : toldI (l.map up) = Cl04.spans l := by
  unfold toldI Cl04.spans Cl04.nums
  rw [List.length_map, List.map_cons, ← List.map_take]
  refine congrArg _ ?_
  generalize l.take 30 = m
  induction m with
  | nil => rfl
  | cons x r ih =>
    rw [List.map_cons, List.flatMap_cons, List.flatMap_cons, List.map_append, ih]
    rfl
/-! ### without -/
theorem wo1_ok {b e : Int} (hbe : b < e) {x : Int × Int} (hx : x.1 < x.2) : PlI (wo1 b e x) ∧ (∀ u, HsI (wo1 b e x) u ↔ (x.1 ≤ u ∧ u < x.2) ∧ ¬ (b ≤ u ∧ u < e)) ∧ ∀ z ∈ wo1 b e x, x.1 ≤ z.1 ∧ z.2 ≤ x.2 := by
  have key : ∀ (c1 c2 : Bool), decide (x.1 < b) = c1 → decide (e < x.2) = c2 → PlI (wo1 b e x) ∧ (∀ u, HsI (wo1 b e x) u ↔ (x.1 ≤ u ∧ u < x.2) ∧ ¬ (b ≤ u ∧ u < e)) ∧ ∀ z ∈ wo1 b e x, x.1 ≤ z.1 ∧ z.2 ≤ x.2 := by
    have m1 : (if b < x.2 then b else x.2) = min b x.2 := by omega
    have m2 : (if e > x.1 then e else x.1) = max e x.1 := by omega
    unfold wo1
    rw [m1, m2]
    intro c1 c2 h1 h2
    cases c1 <;> cases c2
    · have h1 := of_decide_eq_false h1
      have h2 := of_decide_eq_false h2
      rw [if_neg h1, if_neg h2, List.nil_append]
      exact ⟨trivial, fun u => ⟨fun q => absurd q HsI_nil, fun q => by omega⟩, fun z hz => by cases hz⟩
    · have h1 := of_decide_eq_false h1
      have h2 := of_decide_eq_true h2
      rw [if_neg h1, if_pos h2, List.nil_append]
      refine ⟨plI_one (by omega), fun u => by rw [HsI_one]; omega, fun z hz => ?_⟩
      rcases List.mem_cons.mp hz with rfl | hz
      · exact ⟨by show x.1 ≤ max e x.1; omega, Int.le_refl _⟩
      · cases hz
    · have h1 := of_decide_eq_true h1
      have h2 := of_decide_eq_false h2
      rw [if_pos h1, if_neg h2, List.append_nil]
      refine ⟨plI_one (by omega), fun u => by rw [HsI_one]; omega, fun z hz => ?_⟩
      rcases List.mem_cons.mp hz with rfl | hz
      · exact ⟨Int.le_refl _, by show min b x.2 ≤ x.2; omega⟩
      · cases hz
    · have h1 := of_decide_eq_true h1
      have h2 := of_decide_eq_true h2
      rw [if_pos h1, if_pos h2]
      refine ⟨(plI_one (by omega)).append (plI_one (by omega)) fun z hz y hy => ?_, fun u => by rw [HsI_append, HsI_one, HsI_one]; omega, fun z hz => ?_⟩
      · rcases List.mem_cons.mp hz with rfl | hz
        · rcases List.mem_cons.mp hy with rfl | hy
          · show min b x.2 < max e x.1
            omega
          · cases hy
        · cases hz
      · rcases List.mem_cons.mp hz with rfl | hz
        · exact ⟨Int.le_refl _, by show min b x.2 ≤ x.2; omega⟩
        · rcases List.mem_cons.mp hz with rfl | hz
          · exact ⟨by show x.1 ≤ max e x.1; omega, Int.le_refl _⟩
          · cases hz
  exact key _ _ rfl rfl
theorem wo_cons (x : Int × Int) (l : List (Int × Int)) (b e : Int) : wo (x :: l) b e = wo1 b e x ++ wo l b e := by
  unfold wo
  rw [List.flatMap_cons]
theorem wo_ok {b e : Int} (hbe : b < e) : ∀ {l : List (Int × Int)}, PlI l → PlI (wo l b e) ∧ (∀ u, HsI (wo l b e) u ↔ HsI l u ∧ ¬ (b ≤ u ∧ u < e)) ∧ ∀ z ∈ wo l b e, ∃ x ∈ l, x.1 ≤ z.1 ∧ z.2 ≤ x.2
  | [], _ => ⟨trivial, fun u => ⟨fun q => absurd q HsI_nil, fun q => absurd q.1 HsI_nil⟩, fun z hz => by cases hz⟩
  | x :: l, h => by
    have q := wo1_ok hbe h.1
    have ih := wo_ok hbe (l := l) h.2.2
    rw [wo_cons]
    refine ⟨q.1.append ih.1 fun y hy z hz => ?_, fun u => ?_, fun z hz => ?_⟩
    · obtain ⟨w, hw, e⟩ := ih.2.2 z hz
      have := h.2.1 w hw
      have := q.2.2 y hy
      omega
    · rw [HsI_append, q.2.1 u, ih.2.1 u, HsI_cons]
      constructor
      · rintro (⟨a, b⟩ | ⟨a, b⟩)
        · exact ⟨.inl a, b⟩
        · exact ⟨.inr a, b⟩
      · rintro ⟨a | a, b⟩
        · exact .inl ⟨a, b⟩
        · exact .inr ⟨a, b⟩
    · rcases List.mem_append.mp hz with hz | hz
      · exact ⟨x, List.mem_cons_self .., q.2.2 z hz⟩
      · obtain ⟨w, hw, e⟩ := ih.2.2 z hz
        exact ⟨w, List.mem_cons_of_mem _ hw, e⟩
end Fb
/-! The diary in the heap. -/
namespace Fb
open PySem PySem.Spec PyProof.Rows L2
abbrev sEnt : Stmt := top 30
abbrev sEInit : Stmt := inClass sEnt 0
abbrev sIs : Stmt := top 28
/-- the three classes' places -/
structure Cs where
  D : Addr
  P : Addr
  E : Addr
structure TxtD (K : PySem.W.Frag) (mg : Str → Option Value) (C : Cs) : Prop where
  per : TxtP K C.P
  clE : Cls K C.E
  eW : NoAttr K C.E "whose"
  eB : NoAttr K C.E "begin"
  eE : NoAttr K C.E "end"
  eS : NoAttr K C.E "for_sure"
  clD : Cls K C.D
  dP : NoAttr K C.D "people"
  dE : NoAttr K C.D "entries"
  dN : NoAttr K C.D "entries_so_far"
  nDP : C.D ≠ C.P
  nDE : C.D ≠ C.E
  nPE : C.P ≠ C.E
  unfit : ∃ t, mg "UNFIT" = some (.int (-1) t)
  nobody : ∃ t, mg "NOBODY" = some (.int (-3) t)
  notBusy : ∃ t, mg "NOT_BUSY" = some (.int (-4) t)
  full : ∃ t, mg "FULL" = some (.int (-5) t)
  aheadMost : ∃ t, mg "AHEAD_AT_MOST" = some (.int 840 t)
  peopleMost : ∃ t, mg "PEOPLE_AT_MOST" = some (.int 8 t)
  busyMost : ∃ t, mg "BUSY_AT_MOST" = some (.int 50 t)
def eF (x : Cl04.Busy) : List (Str × V) := [("whose", .int x.who), ("begin", .int x.from_), ("end", .int x.to_), ("for_sure", .bl x.sure)]
theorem eF_who (x : Cl04.Busy) : (eF x).lookup ("whose" : Str) = some (.int x.who) := lk_here
theorem eF_begin (x : Cl04.Busy) : (eF x).lookup ("begin" : Str) = some (.int x.from_) := (lk_past (by decide +kernel)).trans lk_here
theorem eF_end (x : Cl04.Busy) : (eF x).lookup ("end" : Str) = some (.int x.to_) := (lk_past (by decide +kernel)).trans ((lk_past (by decide +kernel)).trans lk_here)
theorem eF_sure (x : Cl04.Busy) : (eF x).lookup ("for_sure" : Str) = some (.bl x.sure) := (lk_past (by decide +kernel)).trans ((lk_past (by decide +kernel)).trans ((lk_past (by decide +kernel)).trans lk_here))
theorem eF_put (x : Cl04.Busy) (b : Bool) : putF "for_sure" (.bl b) (eF x) = eF { x with sure := b } := by
  unfold eF
  rw [put_past (by decide +kernel), put_past (by decide +kernel), put_past (by decide +kernel), put_here]
def dF (lp de : Addr) (n : Int) : List (Str × V) := [("people", .ref lp), ("entries", .ref de), ("entries_so_far", .int n)]
theorem dF_people (lp de : Addr) (n : Int) : (dF lp de n).lookup ("people" : Str) = some (.ref lp) := lk_here
theorem dF_entries (lp de : Addr) (n : Int) : (dF lp de n).lookup ("entries" : Str) = some (.ref de) := (lk_past (by decide +kernel)).trans lk_here
theorem dF_next (lp de : Addr) (n : Int) : (dF lp de n).lookup ("entries_so_far" : Str) = some (.int n) := (lk_past (by decide +kernel)).trans ((lk_past (by decide +kernel)).trans lk_here)
theorem dF_no (lp de : Addr) (n : Int) {m : Str} (h1 : (m == "people") = false) (h2 : (m == "entries") = false) (h3 : (m == "entries_so_far") = false) : (dF lp de n).lookup m = none := (lk_past h1).trans ((lk_past h2).trans ((lk_past h3).trans rfl))
theorem dF_put (lp de : Addr) (n m : Int) : putF "entries_so_far" (.int m) (dF lp de n) = dF lp de m := by
  unfold dF
  rw [put_past (by decide +kernel), put_past (by decide +kernel), put_here]
/-- a person's record: where they stand -/
structure PR where
  a : Addr
  w : Addr
  o : Addr
  p : Cl04.Person
abbrev ER := Addr × Cl04.Busy
def entK (es : List ER) : List (Key × V) := es.map fun y => (Sum.inl (y.2.id : Int), V.ref y.1)
structure DAt (C : Cs) (H : Hp) (d lp de : Addr) (ps : List PR) (es : List ER) (s : Cl04.State) : Prop where
  ins : ∃ dx, H d = some (.ins C.D dx (dF lp de s.next))
  ppl : H lp = some (.lst (ps.map fun y => V.ref y.a))
  ent : H de = some (.dK (entK es))
  per : ∀ y ∈ ps, PerAt C.P H y.a y.w y.o y.p
  enA : ∀ y ∈ es, ∃ dx, H y.1 = some (.ins C.E dx (eF y.2))
  sp : s.people = ps.map (·.p)
  sb : s.busy = es.map (·.2)
  ndW : (ps.map (·.w)).Nodup
  ndO : (ps.map (·.o)).Nodup
  ndE : (es.map (·.1)).Nodup
  lpW : ¬ lp ∈ ps.map (·.w)
  deO : ¬ de ∈ ps.map (·.o)
def foot (d lp de : Addr) (ps : List PR) (es : List ER) : List Addr := d :: lp :: de :: (ps.map (·.w) ++ (ps.map (·.o) ++ es.map (·.1)))
def DA (C : Cs) (H : Hp) (d : Addr) (F : List Addr) (s : Cl04.State) : Prop := ∃ lp de ps es, DAt C H d lp de ps es s ∧ F = foot d lp de ps es
def Frame (F : List Addr) (H H' : Hp) : Prop := ∀ b o, H b = some o → ¬ b ∈ F → H' b = some o
theorem DAt.same {C : Cs} {H H' : Hp} {d lp de : Addr} {ps : List PR} {es : List ER} {s : Cl04.State} (h : DAt C H d lp de ps es s) (e : Same H H') : DAt C H' d lp de ps es s :=
  { ins := h.ins.imp fun _ q => e _ _ q, ppl := e _ _ h.ppl, ent := e _ _ h.ent, per := fun y hy => (h.per y hy).same e, enA := fun y hy => (h.enA y hy).imp fun _ q => e _ _ q,
    sp := h.sp, sb := h.sb, ndW := h.ndW, ndO := h.ndO, ndE := h.ndE, lpW := h.lpW, deO := h.deO }
theorem DA.same {C : Cs} {H H' : Hp} {d : Addr} {F : List Addr} {s : Cl04.State} (h : DA C H d F s) (e : Same H H') : DA C H' d F s := by
  obtain ⟨lp, de, ps, es, q, r⟩ := h
  exact ⟨lp, de, ps, es, q.same e, r⟩
theorem frame_of {F : List Addr} {H H' : Hp} (h : Same H H') : Frame F H H' := fun b o e _ => h b o e
theorem same_new {H : Hp} {p : Addr} {o : HO} (h : H p = none) : Same H (upd H p o) := fun c u e => by
  rw [upd_ne (ne_of_none e h)]
  exact e
/-- what a call hands back: the specification's step -/
def Ret (C : Cs) (H : Hp) (d : Addr) (F : List Addr) (Q : VK) (r : Cl04.State × List Int) : Prop := ∀ (H' : Hp) (F' : List Addr) (p : Addr), DA C H' d F' r.1 → (∀ x ∈ F', x ∈ F ∨ H x = none) → Frame F H H' → H p = none → H' p = some (.lst (r.2.map V.int)) → Q (.ref p) H'
/-- nothing changes, a new list -/
theorem Ret.just {C : Cs} {H H1 : Hp} {d : Addr} {F : List Addr} {Q : VK} {s : Cl04.State} {r : Cl04.State × List Int} {l : List Int} (k : Ret C H d F Q r) (h : DA C H d F s) (e : Same H H1) (p : Addr) (np : H1 p = none) (er : r = (s, l)) : Q (.ref p) (upd H1 p (.lst (l.map V.int))) := by
  subst er
  have e2 : Same H (upd H1 p (.lst (l.map V.int))) := e.trans (same_new np)
  exact k _ F p (h.same e2) (fun x hx => .inl hx) (frame_of e2) (e.free np) upd_same
/-! ### well formed -/
structure WF (s : Cl04.State) : Prop where
  per : ∀ p ∈ s.people, WFp p
  np : s.people.length ≤ 8
  bus : ∀ x ∈ s.busy, x.from_ < x.to_ ∧ x.to_ ≤ Cl04.END ∧ x.id < s.next ∧ x.who < s.people.length
  nb : s.busy.length ≤ 50
  ids : (s.busy.map (·.id)).Nodup
section
variable {P : Program} {w : World} {K : PySem.W.Frag} {mg : Str → Option Value} {base : Heap}
/-! ### Entry -/
def spEInit (C : Cs) : Sp := fun vs H Q _ => ∃ (p dx : Addr) (who b e : Nat) (sure : Bool), vs = [.ref p, .int who, .int b, .int e, .bl sure] ∧ H p = some (.ins C.E dx []) ∧
  ∀ (H' : Hp), (∀ id : Nat, H' p = some (.ins C.E dx (eF ⟨id, who, b, e, sure⟩))) → But p H H' → Q .non H'
theorem scEInit : FnScope ["self", "whose", "begin", "end", "for_sure"] ["self", "whose", "begin", "end", "for_sure"] (defScope sEInit) := ⟨rfl, rfl, rfl, by decide +kernel, rfl, by decide +kernel, by decide +kernel⟩
theorem ok_eInit {f : Addr} {C : Cs} {fd : FuncData} (F : Fun K "__init__" "Entry.__init__" sEInit f fd) (T : TxtD K mg C) : FnOk P w K mg base CX0 1 f fd ["self", "whose", "begin", "end", "for_sure"] (spEInit C) := by
  refine F.ok scEInit (fun vs H Q E h => ?_) (fun cdv A outer s H vs Q E hr h => ?_)
  · obtain ⟨p, dx, who, b, e, sure, rfl, _⟩ := h
    rfl
  · obtain ⟨p, dx, who, b, e, sure, rfl, hp, k⟩ := h
    refine ⟨_, pss_cons (ps_fld (pv 0) (pv 1) rfl) (pss_cons (ps_fld (pv 0) (pv 2) rfl) (pss_cons (ps_fld (pv 0) (pv 3) rfl) (pss_one (ps_fld (pv 0) (pv 4) rfl)))), ?_⟩
    have e2 : putF "begin" (.int b) (putF "whose" (.int who) []) = ([("whose", .int who), ("begin", .int b)] : List (Str × V)) := by
      rw [put_nil, put_past (by decide +kernel), put_nil]
    have e3 : putF "end" (.int e) (putF "begin" (.int b) (putF "whose" (.int who) [])) = ([("whose", .int who), ("begin", .int b), ("end", .int e)] : List (Str × V)) := by
      rw [e2, put_past (by decide +kernel), put_past (by decide +kernel), put_nil]
    have e4 : putF "for_sure" (.bl sure) (putF "end" (.int e) (putF "begin" (.int b) (putF "whose" (.int who) []))) = ([("whose", .int who), ("begin", .int b), ("end", .int e), ("for_sure", .bl sure)] : List (Str × V)) := by
      rw [e3, put_past (by decide +kernel), put_past (by decide +kernel), put_past (by decide +kernel), put_nil]
    refine ⟨_, rfl, _, rfl, p, C.E, dx, [], rfl, hp, T.clE, T.eW, (by show 0 < 1000; decide), ?_⟩
    refine ⟨_, rfl, _, rfl, p, C.E, dx, _, rfl, upd_same, T.clE, T.eB, (by show 1 < 1000; decide), ?_⟩
    refine ⟨_, rfl, _, rfl, p, C.E, dx, _, rfl, upd_same, T.clE, T.eE, (by rw [e2]; show 2 < 1000; decide), ?_⟩
    refine ⟨_, rfl, _, rfl, p, C.E, dx, _, rfl, upd_same, T.clE, T.eS, (by rw [e3]; show 3 < 1000; decide), ?_⟩
    refine k _ (fun id => ?_) fun b' o h hb => ?_
    · rw [upd_same, e4]
      rfl
    · rw [upd_ne hb, upd_ne hb, upd_ne hb, upd_ne hb]
      exact h
/-! ### is_stretch -/
def spIs : Sp := fun vs H Q _ => ∃ a b : Int, vs = [.int a, .int b] ∧ Q (.bl (decide (a < b ∧ b ≤ 144000))) H
theorem scIs : FnScope ["a", "b"] ["a", "b"] (defScope sIs) := ⟨rfl, rfl, rfl, by decide +kernel, rfl, by decide +kernel, by decide +kernel⟩
theorem ok_is {f : Addr} {fd : FuncData} (F : Fun K "is_stretch" "is_stretch" sIs f fd) (T : TxtC mg) : FnOk P w K mg base CX0 1 f fd ["a", "b"] spIs := by
  refine F.ok scIs (fun vs H Q E h => ?_) (fun cdv A outer s H vs Q E hr h => ?_)
  · obtain ⟨a, b, rfl, _⟩ := h
    rfl
  · obtain ⟨a, b, rfl, k⟩ := h
    obtain ⟨t, et⟩ := T.moments
    refine ⟨_, pss_one (ps_ret (pe_and (pe_cmpR op_lt (pv 0) (pv 1) (nomark _)) (pe_one (pe_cmpR op_le (pv 1) (pe_glob (v := .int 144000) rfl et ⟨_, rfl⟩) (nomark _))))), ?_⟩
    refine ⟨_, rfl, _, rfl, _, _, rfl, rfl, _, rfl, ?_⟩
    by_cases c : a < b
    · refine if_true_of (decide_eq_true c) ?_
      refine ⟨_, rfl, _, _, rfl, rfl, ?_⟩
      have e : decide (b ≤ 144000) = decide (a < b ∧ b ≤ 144000) := by
        rw [Bool.eq_iff_iff, decide_eq_true_eq, decide_eq_true_eq]
        omega
      show Q (.bl (decide (b ≤ 144000))) H
      rw [e]
      exact k
    · refine if_false_of (decide_eq_false c) ?_
      have e : decide (a < b ∧ b ≤ 144000) = false := decide_eq_false fun h => c h.1
      rw [e] at k
      exact k
end
end Fb
namespace Fb
open PySem PySem.Spec PyProof.Rows L2
abbrev sDia : Stmt := top 31
abbrev sDInit : Stmt := inClass sDia 0
abbrev sKnows : Stmt := inClass sDia 1
abbrev sPerson : Stmt := inClass sDia 3
theorem PerAt.upd {C : Addr} {H : Hp} {a w o b : Addr} {p : Cl04.Person} {v : HO} (h : PerAt C H a w o p) (ha : a ≠ b) (hw : w ≠ b) (ho : o ≠ b) (hb : ∀ xs, H b ≠ some (.tup xs)) : PerAt C (L2.upd H b v) a w o p := by
  obtain ⟨⟨dx, h1⟩, ⟨ws, h2, h3⟩, h4⟩ := h
  exact ⟨⟨dx, (upd_ne ha).trans h1⟩, ⟨ws, (upd_ne hw).trans h2, h3.mono (TS1.put hb)⟩, (upd_ne ho).trans h4⟩
theorem not_tup {H : Hp} {b : Addr} {o : HO} (h : H b = some o) (ho : ∀ xs, o ≠ .tup xs) : ∀ xs, H b ≠ some (.tup xs) := fun xs e => by
  rw [h] at e
  exact ho xs (Option.some.inj e)
theorem nd_snoc1 {α : Type} {l : List α} {x : α} (h : l.Nodup) (hx : ¬ x ∈ l) : (l ++ [x]).Nodup := by
  rw [List.nodup_append]
  refine ⟨h, List.nodup_cons.mpr ⟨fun q => (by cases q), List.nodup_nil⟩, fun a ha b hb e => ?_⟩
  rcases List.mem_cons.mp hb with rfl | hb
  · exact hx (e ▸ ha)
  · cases hb
theorem DAt.addPer {C : Cs} {H : Hp} {d lp de : Addr} {ps : List PR} {es : List ER} {s : Cl04.State} (h : DAt C H d lp de ps es s) {x w o : Addr} {q : Cl04.Person} (hx : PerAt C.P H x w o q)
    (nw : ∀ y ∈ ps, y.w ≠ w) (no : ∀ y ∈ ps, y.o ≠ o) (lw : lp ≠ w) (dO : de ≠ o) :
    DAt C (upd H lp (.lst ((ps.map fun y => V.ref y.a) ++ [.ref x]))) d lp de (ps ++ [⟨x, w, o, q⟩]) es { s with people := s.people ++ [q] } := by
  obtain ⟨dx, hd⟩ := h.ins
  have nt : ∀ xs, H lp ≠ some (.tup xs) := not_tup h.ppl fun _ q => by cases q
  have ndl : d ≠ lp := ne_of hd h.ppl (by intro z; cases z)
  have nel : de ≠ lp := ne_of h.ent h.ppl (by intro z; cases z)
  have pk : ∀ {a w o : Addr} {p : Cl04.Person}, PerAt C.P H a w o p → w ≠ lp → PerAt C.P (upd H lp (.lst ((ps.map fun y => V.ref y.a) ++ [.ref x]))) a w o p := fun hp hw =>
    hp.upd (by obtain ⟨dx', q⟩ := hp.ins; exact ne_of q h.ppl (by intro z; cases z)) hw (ne_of hp.off h.ppl (by intro z; cases z)) nt
  refine { ins := ⟨dx, (upd_ne ndl).trans hd⟩, ppl := ?_, ent := (upd_ne nel).trans h.ent, per := fun y hy => ?_, enA := fun y hy => ?_, sp := ?_, sb := h.sb, ndW := ?_, ndO := ?_, ndE := h.ndE, lpW := ?_, deO := ?_ }
  · rw [upd_same, List.map_append]
    rfl
  · rcases List.mem_append.mp hy with hy | hy
    · exact pk (h.per y hy) fun e => h.lpW (e ▸ List.mem_map.mpr ⟨y, hy, rfl⟩)
    · rcases List.mem_cons.mp hy with rfl | hy
      · exact pk hx lw.symm
      · cases hy
  · obtain ⟨dy, q⟩ := h.enA y hy
    exact ⟨dy, (upd_ne (ne_of q h.ppl (by intro z; cases z))).trans q⟩
  · rw [List.map_append, ← h.sp]
    rfl
  · rw [List.map_append]
    refine nd_snoc1 h.ndW fun m => ?_
    obtain ⟨y, hy, e⟩ := List.mem_map.mp m
    exact nw y hy e
  · rw [List.map_append]
    refine nd_snoc1 h.ndO fun m => ?_
    obtain ⟨y, hy, e⟩ := List.mem_map.mp m
    exact no y hy e
  · rw [List.map_append]
    intro m
    rcases List.mem_append.mp m with m | m
    · exact h.lpW m
    · rcases List.mem_cons.mp m with m | m
      · exact lw m
      · cases m
  · rw [List.map_append]
    intro m
    rcases List.mem_append.mp m with m | m
    · exact h.deO m
    · rcases List.mem_cons.mp m with m | m
      · exact dO m
      · cases m
section
variable {P : Program} {w : World} {K : PySem.W.Frag} {mg : Str → Option Value} {base : Heap}
def spDInit (C : Cs) : Sp := fun vs H Q _ => ∃ (p dx : Addr), vs = [.ref p] ∧ H p = some (.ins C.D dx []) ∧
  ∀ (H' : Hp) (lp de : Addr), DAt C H' p lp de [] [] Cl04.init → H lp = none → H de = none → But p H H' → Q .non H'
theorem scDInit : FnScope ["self"] ["self"] (defScope sDInit) := ⟨rfl, rfl, rfl, by decide +kernel, rfl, by decide +kernel, by decide +kernel⟩
theorem ok_dInit {f : Addr} {C : Cs} {fd : FuncData} (F : Fun K "__init__" "Diary.__init__" sDInit f fd) (T : TxtD K mg C) : FnOk P w K mg base CX0 1 f fd ["self"] (spDInit C) := by
  refine F.ok scDInit (fun vs H Q E h => ?_) (fun cdv A outer s H vs Q E hr h => ?_)
  · obtain ⟨p, dx, rfl, _⟩ := h
    rfl
  · obtain ⟨p, dx, rfl, hp, k⟩ := h
    refine ⟨_, pss_cons (ps_fld (pv 0) (pe_lst pa_nil) rfl) (pss_cons (ps_fld (pv 0) pe_dnewK rfl) (pss_one (ps_fld (pv 0) pe_int rfl))), ?_⟩
    refine ⟨Nat.zero_le _, fun l nl => ?_⟩
    have npl : p ≠ l := ne_of_none hp nl
    refine ⟨_, rfl, p, C.D, dx, [], rfl, (upd_ne npl).trans hp, T.clD, T.dP, (by show 0 < 1000; decide), ?_⟩
    intro e ne
    have npe : p ≠ e := ne_of_none upd_same ne
    have nle : l ≠ e := ne_of_none ((upd_ne npl.symm).trans upd_same) ne
    have nH : H e = none := by
      rw [upd_ne npe.symm, upd_ne nle.symm] at ne
      exact ne
    have e2 : putF "entries" (.ref e) (putF "people" (.ref l) []) = ([("people", .ref l), ("entries", .ref e)] : List (Str × V)) := by
      rw [put_nil, put_past (by decide +kernel), put_nil]
    refine ⟨_, rfl, p, C.D, dx, _, rfl, (upd_ne npe).trans upd_same, T.clD, T.dE, (by show 1 < 1000; decide), ?_⟩
    refine ⟨_, rfl, p, C.D, dx, _, rfl, upd_same, T.clD, T.dN, (by rw [e2]; show 2 < 1000; decide), ?_⟩
    refine k _ l e { ins := ⟨dx, ?_⟩, ppl := ?_, ent := ?_, per := fun y hy => (by cases hy), enA := fun y hy => (by cases hy), sp := rfl, sb := rfl, ndW := List.nodup_nil, ndO := List.nodup_nil, ndE := List.nodup_nil, lpW := fun h => (by cases h), deO := fun h => (by cases h) } nl nH fun b o h hb => ?_
    · rw [upd_same, e2, put_past (by decide +kernel), put_past (by decide +kernel), put_nil]
      rfl
    · rw [upd_ne npl.symm, upd_ne npl.symm, upd_ne nle, upd_ne npl.symm, upd_same]
      rfl
    · rw [upd_ne npe.symm, upd_ne npe.symm, upd_same]
      rfl
    · rw [upd_ne hb, upd_ne hb, upd_ne (ne_of_none h nH), upd_ne hb, upd_ne (ne_of_none h nl)]
      exact h
def spKnows (C : Cs) : Sp := fun vs H Q _ => ∃ (d : Addr) (F : List Addr) (s : Cl04.State) (k : Nat), vs = [.ref d, .int k] ∧ DA C H d F s ∧ Q (.bl (decide (k < s.people.length))) H
theorem scKnows : FnScope ["self", "person"] ["self", "person"] (defScope sKnows) := ⟨rfl, rfl, rfl, by decide +kernel, rfl, by decide +kernel, by decide +kernel⟩
theorem ok_knows {f : Addr} {C : Cs} {fd : FuncData} (F : Fun K "knows" "Diary.knows" sKnows f fd) (T : TxtD K mg C) (TC : TxtC mg) : FnOk P w K mg base CX0 1 f fd ["self", "person"] (spKnows C) := by
  refine F.ok scKnows (fun vs H Q E h => ?_) (fun cdv A outer s H vs Q E hr h => ?_)
  · obtain ⟨d, F, s, k, rfl, _⟩ := h
    rfl
  · obtain ⟨d, F, st, n, rfl, ⟨lp, de, ps, es, h, rfl⟩, k⟩ := h
    obtain ⟨dx, hd⟩ := h.ins
    refine ⟨_, pss_one (ps_ret (pe_cmpR op_lt (pv 1) (pe_callB call_len_seq (by rfl) TC.len PySem.boot_len (pa_cons (pe_fld (pv 0) rfl) pa_nil)) (nomark _))), ?_⟩
    refine ⟨_, rfl, _, rfl, d, C.D, dx, _, _, rfl, hd, T.clD, T.dP, dF_people _ _ _, lp, _, rfl, .inl (SqL.of h.ppl), _, _, rfl, rfl, ?_⟩
    have e : decide ((n : Int) < ((ps.map fun y => V.ref y.a).length : Int)) = decide (n < st.people.length) := by
      rw [Bool.eq_iff_iff, decide_eq_true_eq, decide_eq_true_eq, h.sp, List.length_map, List.length_map]
      omega
    show Q (.bl (decide ((n : Int) < ((ps.map fun y => V.ref y.a).length : Int)))) H
    rw [e]
    exact k
def spPerson (C : Cs) : Sp := fun vs H Q _ => ∃ (d : Addr) (F : List Addr) (s : Cl04.State) (z : Int), vs = [.ref d, .int z] ∧ DA C H d F s ∧ WF s ∧ Ret C H d F Q (Cl04.step s (.person z))
theorem scPerson : FnScope ["self", "ahead"] ["self", "ahead"] (defScope sPerson) := ⟨rfl, rfl, rfl, by decide +kernel, rfl, by decide +kernel, by decide +kernel⟩
theorem ok_person {f : Addr} {C : Cs} {fd : FuncData} (F : Fun K "person" "Diary.person" sPerson f fd) (T : TxtD K mg C) (TC : TxtC mg) (GM : GMake P w K mg base C.P "Person" ["self", "ahead"] 1 (spPInit C.P)) : FnOk P w K mg base CX0 3 f fd ["self", "ahead"] (spPerson C) := by
  refine F.ok scPerson (fun vs H Q E h => ?_) (fun cdv A outer s H vs Q E hr h => ?_)
  · obtain ⟨d, F, s, k, rfl, _⟩ := h
    rfl
  · obtain ⟨d, F, st, z, rfl, hDA, hwf, k⟩ := h
    obtain ⟨fm, fdm, GM, mk, mgm, bm⟩ := GM
    obtain ⟨t1, e1⟩ := T.aheadMost
    obtain ⟨t2, e2⟩ := T.peopleMost
    obtain ⟨t3, e3⟩ := T.unfit
    obtain ⟨t4, e4⟩ := T.full
    refine ⟨_, pss_cons (ps_if (PW.pt (pw_or (pt_cmpR op_lt (pv 1) (pe_un un_neg (pe_glob (v := .int 840) rfl e1 ⟨_, rfl⟩)) (nomark _)) (pw_or1 (pt_cmpR op_gt (pv 1) (pe_glob (v := .int 840) rfl e1 ⟨_, rfl⟩) (nomark _))))) (pss_one (ps_ret (pe_lst (pa_cons (pe_glob (v := .int (-1)) rfl e3 ⟨_, rfl⟩) pa_nil)))) pss_nil)
      (pss_cons (ps_if (pt_cmpR op_eq (pe_callB call_len_seq (by rfl) TC.len PySem.boot_len (pa_cons (pe_fld (pv 0) rfl) pa_nil)) (pe_glob (v := .int 8) rfl e2 ⟨_, rfl⟩) (nomark _)) (pss_one (ps_ret (pe_lst (pa_cons (pe_glob (v := .int (-5)) rfl e4 ⟨_, rfl⟩) pa_nil)))) pss_nil)
      (pss_cons (ps_expr (pe_bm PySem.F.plainAttrs_list PySem.F.slot_list_append PySem.F.type_list_append mt_append (pe_fld (pv 0) rfl) (pa_cons (pe_make mk GM hr rfl mgm bm .nil pass0 (pa_cons (pv 1) pa_nil)) pa_nil)))
      (pss_one (ps_ret (pe_lst (pa_cons (pe_op op_sub (pe_callB call_len_seq (by rfl) TC.len PySem.boot_len (pa_cons (pe_fld (pv 0) rfl) pa_nil)) pe_int) pa_nil)))))), ?_⟩
    have hcopy := hDA
    obtain ⟨lp, de, ps, es, h, rfl⟩ := hDA
    obtain ⟨dx, hd⟩ := h.ins
    have np := hwf.np
    have hlen : (ps.map fun y => V.ref y.a).length = st.people.length := by rw [h.sp, List.length_map, List.length_map]
    have unfit : (z < -840 ∨ 840 < z) → ∀ p, H p = none → Q (.ref p) (upd H p (.lst [.int (-1)])) := fun c p np => by
      refine k.just (l := [-1]) hcopy (Same.refl H) p np ?_
      show (if z < -840 ∨ 840 < z then _ else _) = _
      rw [if_pos c]
    refine ⟨_, rfl, _, rfl, _, _, rfl, rfl, _, rfl, ?_⟩
    by_cases c1 : z < -840
    · refine if_true_of (decide_eq_true c1) ?_
      refine if_true_of rfl ?_
      exact ⟨(by show 1 ≤ sizeLine; decide), fun p np => unfit (.inl c1) p np⟩
    refine if_false_of (decide_eq_false c1) ?_
    refine ⟨_, rfl, _, _, rfl, rfl, _, rfl, ?_⟩
    by_cases c2 : 840 < z
    · refine if_true_of (decide_eq_true c2) ?_
      exact ⟨(by show 1 ≤ sizeLine; decide), fun p np => unfit (.inr c2) p np⟩
    refine if_false_of (decide_eq_false c2) ?_
    have c : ¬ (z < -840 ∨ 840 < z) := by omega
    have es1 : Cl04.step st (.person z) = if 8 ≤ st.people.length then (st, [-5]) else ({ st with people := st.people ++ [newPer z] }, [(st.people.length : Int)]) := by
      show (if z < -840 ∨ 840 < z then _ else _) = _
      rw [if_neg c]
      rfl
    rw [es1] at k
    refine ⟨_, rfl, d, C.D, dx, _, _, rfl, hd, T.clD, T.dP, dF_people _ _ _, lp, _, rfl, .inl (SqL.of h.ppl), rfl, _, rfl, ?_⟩
    by_cases c3 : st.people.length = 8
    · refine if_true_of (decide_eq_true (by rw [hlen, c3]; rfl)) ?_
      refine ⟨(by show 1 ≤ sizeLine; decide), fun p np => k.just (l := [-5]) hcopy (Same.refl H) p np ?_⟩
      rw [if_pos (show 8 ≤ st.people.length by omega)]
    refine if_false_of (decide_eq_false fun q => c3 (by have := V.int.inj q; omega)) ?_
    rw [if_neg (show ¬ 8 ≤ st.people.length by omega)] at k
    refine ⟨_, rfl, d, C.D, dx, _, _, rfl, hd, T.clD, T.dP, dF_people _ _ _, .inl ⟨rfl, _, SqL.of h.ppl⟩, _, rfl, ?_⟩
    intro x dy nx ndy nxy
    refine ⟨x, dy, z, rfl, upd_same, fun H1 w o hP nw no hB => ⟨rfl, ?_⟩⟩
    have s1 : Same H H1 := Same.made nx ndy hB
    have s0 : Same H (upd (upd H dy (.own x)) x (.ins C.P dy [])) := fun b u e => by
      rw [upd_ne (ne_of_none e nx), upd_ne (ne_of_none e ndy)]
      exact e
    have nw := s0.free nw
    have no := s0.free no
    have h1 := h.same s1
    have hA := h1.addPer hP (fun y hy => by obtain ⟨_, q, _⟩ := (h.per y hy).week; exact ne_of_none q nw) (fun y hy => ne_of_none (h.per y hy).off no) (ne_of_none h.ppl nw) (ne_of_none h.ent no)
    obtain ⟨dx1, hd1⟩ := hA.ins
    refine ⟨lp, _, _, rfl, rfl, h1.ppl, (by rw [hlen]; exact Nat.lt_of_le_of_lt np (by decide)), ?_⟩
    refine ⟨_, rfl, d, C.D, dx1, _, _, rfl, hd1, T.clD, T.dP, dF_people _ _ _, lp, _, rfl, .inl (SqL.of upd_same), _, _, rfl, rfl, (by show 1 ≤ sizeLine; decide), fun p np => ?_⟩
    have npl : lp ≠ p := ne_of_none upd_same np
    have np1 : H1 p = none := by
      rw [upd_ne npl.symm] at np
      exact np
    refine k _ (foot d lp de (ps ++ [⟨x, w, o, newPer z⟩]) es) p ⟨lp, de, _, _, hA.same (same_new np), rfl⟩ (fun y hy => ?_) (fun b u e hb => ?_) (s1.free np1) ?_
    · unfold foot at hy ⊢
      simp only [List.map_append, List.mem_cons, List.mem_append, List.map_cons, List.map_nil, List.not_mem_nil, or_false] at hy ⊢
      rcases hy with hy | hy | hy | (hy | hy) | (hy | hy) | hy
      · exact .inl (.inl hy)
      · exact .inl (.inr (.inl hy))
      · exact .inl (.inr (.inr (.inl hy)))
      · exact .inl (.inr (.inr (.inr (.inl hy))))
      · exact .inr (hy ▸ nw)
      · exact .inl (.inr (.inr (.inr (.inr (.inl hy)))))
      · exact .inr (hy ▸ no)
      · exact .inl (.inr (.inr (.inr (.inr (.inr hy)))))
    · have nbl : b ≠ lp := fun q => hb (q ▸ List.mem_cons_of_mem _ (List.mem_cons_self ..))
      rw [upd_ne (ne_of_none (s1 _ _ e) np1), upd_ne nbl]
      exact s1 _ _ e
    · rw [upd_same, List.length_append, hlen]
      refine congrArg (fun q => some (HO.lst [V.int q])) ?_
      show ((st.people.length + 1 : Nat) : Int) - 1 = _
      omega
end
end Fb
/-! Readings that only look: a value, a truth. -/
namespace Fb
open PySem PySem.Spec PyProof.Rows L2
def Vv (t : TE) (σ : L2.St) (H : Hp) (v : V) : Prop := ∀ Q : VK, Q v H → t σ H Q
def Tv (c : TT) (σ : L2.St) (H : Hp) (b : Bool) : Prop := ∀ Q : Bool → Hp → Prop, Q b H → c σ H Q
theorem Vv.var {i : Nat} {σ : L2.St} {H : Hp} {v : V} (h : σ[i]? = some (some v)) : Vv (tVar i) σ H v := fun Q q => ⟨v, h, q⟩
theorem Vv.con {σ : L2.St} {H : Hp} {v : V} : Vv (tC v) σ H v := fun Q q => q
theorem Vv.op {r : R2} {a b : TE} {σ : L2.St} {H : Hp} {x y v : V} (h1 : Vv a σ H x) (h2 : Vv b σ H y) (h : ∀ Q : VK, Q v H → r x y H Q) : Vv (tOp r a b) σ H v := fun Q q => h1 _ (h2 _ (h Q q))
theorem Vv.i2 {f : Int → Int → V} {a b : TE} {σ : L2.St} {H : Hp} {x y : Int} (h1 : Vv a σ H (.int x)) (h2 : Vv b σ H (.int y)) : Vv (tOp (rI0 f) a b) σ H (f x y) := Vv.op h1 h2 fun Q q => ⟨x, y, rfl, rfl, q⟩
theorem Tv.test {t : TE} {σ : L2.St} {H : Hp} {b : Bool} (h : Vv t σ H (.bl b)) : Tv (tTest t) σ H b := fun Q q => h _ ⟨b, rfl, q⟩
theorem Tv.val {t : TE} {σ : L2.St} {H : Hp} {b : Bool} (h : Vv t σ H (.bl b)) : Tv (tB t) σ H b := fun Q q => h _ ⟨b, rfl, q⟩
theorem Tv.lt {a b : TE} {σ : L2.St} {H : Hp} {x y : Int} (h1 : Vv a σ H (.int x)) (h2 : Vv b σ H (.int y)) : Tv (tTest (tOp (rI0 fun i j => .bl (decide (i < j))) a b)) σ H (decide (x < y)) := Tv.test (Vv.i2 h1 h2)
theorem Tv.gt {a b : TE} {σ : L2.St} {H : Hp} {x y : Int} (h1 : Vv a σ H (.int x)) (h2 : Vv b σ H (.int y)) : Tv (tTest (tOp (rI0 fun i j => .bl (decide (j < i))) a b)) σ H (decide (y < x)) := Tv.test (Vv.i2 h1 h2)
theorem Tv.eq {a b : TE} {σ : L2.St} {H : Hp} {x y : Int} (h1 : Vv a σ H (.int x)) (h2 : Vv b σ H (.int y)) : Tv (tTest (tOp rEq a b)) σ H (decide (x = y)) := by
  refine Tv.test (Vv.op h1 h2 fun Q q => ⟨rfl, ?_⟩)
  have e : decide (V.int x = V.int y) = decide (x = y) := by
    rw [Bool.eq_iff_iff, decide_eq_true_eq, decide_eq_true_eq]
    exact ⟨V.int.inj, congrArg _⟩
  rw [e]
  exact q
theorem Tv.ne {a b : TE} {σ : L2.St} {H : Hp} {x y : Int} (h1 : Vv a σ H (.int x)) (h2 : Vv b σ H (.int y)) : Tv (tTest (tOp rNe a b)) σ H (!decide (x = y)) := by
  refine Tv.test (Vv.op h1 h2 fun Q q => ⟨rfl, ?_⟩)
  have e : decide (V.int x = V.int y) = decide (x = y) := by
    rw [Bool.eq_iff_iff, decide_eq_true_eq, decide_eq_true_eq]
    exact ⟨V.int.inj, congrArg _⟩
  rw [e]
  exact q
theorem Tv.not {c : TT} {σ : L2.St} {H : Hp} {b : Bool} (h : Tv c σ H b) : Tv (tNot c) σ H (!b) := fun Q q => h _ q
theorem Tv.and {c d : TT} {σ : L2.St} {H : Hp} {a b : Bool} (h1 : Tv c σ H a) (h2 : a = true → Tv d σ H b) : Tv (tAnd c d) σ H (a && b) := fun Q q => h1 _ (by
  cases a
  · exact if_false_of rfl q
  · exact if_true_of rfl (h2 rfl _ q))
theorem Tv.or {c d : TT} {σ : L2.St} {H : Hp} {a b : Bool} (h1 : Tv c σ H a) (h2 : a = false → Tv d σ H b) : Tv (tOr c d) σ H (a || b) := fun Q q => h1 _ (by
  cases a
  · exact if_false_of rfl (h2 rfl _ q)
  · exact if_true_of rfl q)
end Fb
/-! Two rules: sorted of triples of ints; len(set(..)) of ints of which some may be alike. -/
namespace Fb
open PySem PyProof.Rows Srt SrtO
def lex3 (p q : Int × Int × Int) : Bool := if p.1 = q.1 then (if p.2.1 = q.2.1 then decide (p.2.2 < q.2.2) else decide (p.2.1 < q.2.1)) else decide (p.1 < q.1)
theorem lex3_iff {p q : Int × Int × Int} : lex3 p q = true ↔ p.1 < q.1 ∨ (p.1 = q.1 ∧ (p.2.1 < q.2.1 ∨ (p.2.1 = q.2.1 ∧ p.2.2 < q.2.2))) := by
  unfold lex3
  by_cases e1 : p.1 = q.1
  · rw [if_pos e1]
    by_cases e2 : p.2.1 = q.2.1
    · rw [if_pos e2, decide_eq_true_eq]
      omega
    · rw [if_neg e2, decide_eq_true_eq]
      omega
  · rw [if_neg e1, decide_eq_true_eq]
    omega
theorem lex3_no {p q : Int × Int × Int} : lex3 p q = false ↔ ¬ (p.1 < q.1 ∨ (p.1 = q.1 ∧ (p.2.1 < q.2.1 ∨ (p.2.1 = q.2.1 ∧ p.2.2 < q.2.2)))) := by
  rw [← lex3_iff]
  cases lex3 p q <;> simp
theorem swo3 {α : Type} (k : α → Int × Int × Int) : Swo fun v u : α => lex3 (k v) (k u) := by
  refine ⟨fun x y h => ?_, fun x y z h1 h2 => ?_⟩
  · have a := lex3_iff.mp h
    refine lex3_no.mpr ?_
    omega
  · have a := lex3_no.mp h1
    have b := lex3_no.mp h2
    refine lex3_no.mpr ?_
    omega
section
variable {prog : Program} {w : World} {A : Around} {E : Value → Shared → Prop} {s : Shared}
def IsTrip (h : Heap) (v : Value) (x : Int × Int × Int) : Prop := ∃ a o t1 t2 t3 n, v = .ref a ∧ h.get? a = some o ∧ o.cls = .type "tuple" ∧ o.data = .seq #[.int x.1 t1, .int x.2.1 t2, .int x.2.2 t3] n
theorem IsTrip.keeps {h h' : Heap} {v : Value} {x : Int × Int × Int} (p : IsTrip h v x) (k : ∀ b o, h.get? b = some o → o.cls = .type "tuple" → h'.get? b = some o) : IsTrip h' v x := by
  obtain ⟨a, o, t1, t2, t3, n, e, ho, hc, hd⟩ := p
  exact ⟨a, o, t1, t2, t3, n, e, k _ _ ho hc, hc, hd⟩
theorem trip_cmp {vs : List Value} {k : Value → Int × Int × Int} (hp : ∀ v ∈ vs, IsTrip s.heap v (k v)) : Cmp prog w A s (tuples' true) (fun p => p.1 ∈ vs) (lt2 fun v u => lex3 (k v) (k u)) := by
  intro p q hm hm'
  have h1 := hp _ hm
  have h2 := hp _ hm'
  show wpAny (model prog w) A (keyLt' (tuples' true) p.1 q.1) (fun r s' => s' = s ∧ r = lex3 (k p.1) (k q.1)) (fun _ _ => False) s
  generalize k p.1 = x at h1 ⊢
  generalize k q.1 = y at h2 ⊢
  obtain ⟨a, o, t1, t2, t3, n, e, ho, hc, hd⟩ := h1
  obtain ⟨a', o', u1, u2, u3, n', e', ho', hc', hd'⟩ := h2
  rw [e, e']
  refine PySem.W.kat_lt ho hd ho' hd' ?_
  show PySem.W.KatLex prog w A true (decide (3 < 3)) _ [(.int x.1 t1, .int y.1 u1), (.int x.2.1 t2, .int y.2.1 u2), (.int x.2.2 t3, .int y.2.2 u3)] 0 s
  unfold lex3
  refine PySem.W.kat_cons (SeqAt.EqAt.int_int x.1 t1 y.1 u1 prog w _ _ ?_)
  refine PySem.W.kat_go (fun e1 => ?_) (fun e1 => ?_)
  · have ex : x.1 = y.1 := by simpa using e1
    rw [if_pos ex]
    refine PySem.W.kat_yes (PySem.W.kat_cons (SeqAt.EqAt.int_int x.2.1 t2 y.2.1 u2 prog w _ _ ?_))
    refine PySem.W.kat_go (fun e2 => ?_) (fun e2 => ?_)
    · have ey : x.2.1 = y.2.1 := by simpa using e2
      rw [if_pos ey]
      refine PySem.W.kat_yes (PySem.W.kat_cons (SeqAt.EqAt.int_int x.2.2 t3 y.2.2 u3 prog w _ _ ?_))
      refine PySem.W.kat_go (fun e3 => ?_) (fun e3 => ?_)
      · have ez : x.2.2 = y.2.2 := by simpa using e3
        refine PySem.W.kat_yes (PySem.W.kat_nil ⟨rfl, ?_⟩)
        rw [ez]
        exact (decide_eq_false (Int.lt_irrefl _)).symm
      · exact PySem.W.kat_no (PySem.W.kat_one _ _ (PyProof.Rows.lt_int (show s = s ∧ decide (x.2.2 < y.2.2) = decide (x.2.2 < y.2.2) from ⟨rfl, rfl⟩)))
    · have ey : ¬ x.2.1 = y.2.1 := by simpa using e2
      rw [if_neg ey]
      exact PySem.W.kat_no (PySem.W.kat_one _ _ (PyProof.Rows.lt_int (show s = s ∧ decide (x.2.1 < y.2.1) = decide (x.2.1 < y.2.1) from ⟨rfl, rfl⟩)))
  · have ex : ¬ x.1 = y.1 := by simpa using e1
    rw [if_neg ex]
    exact PySem.W.kat_no (oneLt_int ⟨rfl, rfl⟩)
theorem trip_firsts {h : Heap} : ∀ {vs : List Value}, (∀ v ∈ vs, ∃ x, IsTrip h v x) → ∃ fs : List Value, PySem.W.KatTups h vs fs ∧ fs.length = vs.length ∧ ∀ f ∈ fs, ∃ x t, f = Value.int x t
  | [], _ => ⟨[], PySem.W.KatTups.nil, rfl, fun _ hm => (by cases hm)⟩
  | v :: vs, hp => by
    obtain ⟨fs, h1, h2, h3⟩ := trip_firsts (vs := vs) fun v' hm => hp v' (List.mem_cons_of_mem _ hm)
    obtain ⟨x, a, o, t1, t2, t3, n, e, ho, hc, hd⟩ := hp v (List.mem_cons_self ..)
    subst e
    refine ⟨.int x.1 t1 :: fs, PySem.W.KatTups.cons ho hc hd rfl h1, congrArg (· + 1) h2, fun f hm => ?_⟩
    rcases List.mem_cons.mp hm with rfl | hm
    · exact ⟨x.1, t1, rfl⟩
    · exact h3 f hm
theorem trips_sortable {a : Addr} {vs : List Value} {k : Value → Int × Int × Int} (h0 : 0 < vs.length) (hp : ∀ v ∈ vs, IsTrip s.heap v (k v)) (ha : ∀ o, s.heap.get? a = some o → o.cls ≠ .type "tuple") : SortableO prog w A s a vs fun v u => lex3 (k v) (k u) := by
  intro h' keep
  have hp' : ∀ v ∈ vs, IsTrip h' v (k v) := fun v hm => (hp v hm).keeps fun b o e c => keep b o (fun z => ha o (z ▸ e) c) e
  obtain ⟨fs, h1, h2, h3⟩ := trip_firsts fun v hm => ⟨_, hp' v hm⟩
  refine ⟨tuples' true, fun Q E hq => ?_, trip_cmp hp'⟩
  refine PySem.W.kat_kind (T := .type "int") h1 (by omega) (fun f hm => ?_) (by rfl) ?_
  · obtain ⟨x, t, rfl⟩ := h3 f hm
    exact PySem.W.Looks.now
  · rw [show (Value.type "int" != Value.type "tuple") = true by decide +kernel]
    exact hq
theorem sorted_trips {l : Addr} {vs : List Value} {k : Value → Int × Int × Int} {Q : Value → Shared → Prop} (hl : s.heap.IsList l vs.toArray) (hz : vs.length ≤ sizeLine) (hp : ∀ v ∈ vs, IsTrip s.heap v (k v))
    (h : ∀ (h' : Heap) (d : Addr) (out : List Value), Srtd (fun v u => lex3 (k v) (k u)) out → Stb (fun v u => lex3 (k v) (k u)) out vs → (∀ b o, s.heap.get? b = some o → h'.get? b = some o) → s.heap.objs.size ≤ d → (∃ n, h'.get? d = some (seqObj "list" out.toArray n)) → Q (.ref d) { s with heap := h' }) :
    wpAny (model prog w) A (call (.builtin "sorted") [.ref l]) Q E s := by
  refine sorted_ord (swo3 k) hl hz (fun h2 h₁ a ha kk => ?_) fun out hs hb => ?_
  · refine trips_sortable (s := { s with heap := h₁ }) (by omega) (fun v hm => (hp v hm).keeps fun b o e _ => (kk b o e).2) fun o e => ?_
    have e2 : some o = some (seqObj "list" vs.toArray 0) := e.symm.trans ha
    cases e2
    exact fun c => absurd (Value.type.inj c) (by decide)
  · exact h _ _ out hs hb (fun b o e => sortedAll_old e) (Nat.le_succ _) (sortedAll_at s.heap vs out.toArray)
end
end Fb
namespace Fb
open PySem PySem.Spec PyProof.Rows L2
theorem vals_3 {x y z : V} {us : List Value} (r : Vals [x, y, z] us) : ∃ u v q, us = [u, v, q] ∧ RelV x u ∧ RelV y v ∧ RelV z q := by
  cases r with
  | cons r1 r2 =>
    obtain ⟨u, v, rfl, r3, r4⟩ := vals2 r2
    exact ⟨_, u, v, rfl, r1, r3, r4⟩
/-- sorted(xs), xs triples of ints, any number of them -/
def rSorted3 (K : PySem.W.Frag) : List V → Hp → VK → Prop := fun vs H Q => ∃ (a : Addr) (xs : List V) (k : V → Int × Int × Int), vs = [V.ref a] ∧ SqL K H a xs ∧ (∀ x ∈ xs, ∃ t, x = V.ref t ∧ H t = some (.tup [.int (k x).1, .int (k x).2.1, .int (k x).2.2])) ∧
  ∀ ys p, ys.Perm xs → ys.Pairwise (fun x y => lex3 (k y) (k x) = false) → H p = none → Q (.ref p) (upd H p (.lst ys))
section
variable {X : Cx}
theorem cr_sorted3 : CallR X (.builtin "sorted") (rSorted3 X.K) := by
  intro pins s σ H vs us Q I r h
  obtain ⟨a, xs, k, rfl, hs, hx, q⟩ := h
  obtain ⟨its, rv, hl, hz⟩ := I.list hs
  obtain ⟨u, rfl, ru⟩ := vals1 r
  obtain rfl : u = Value.ref a := ru
  obtain ⟨e1, e2⟩ := refs_back rv fun x m => (hx x m).imp fun t z => z.1
  refine sorted_trips (k := fun u => k (backV u)) hl.isList (by rw [← rv.length]; exact hz) (fun v hv => ?_) fun h' d out h1 h2 kp hd hn => ?_
  · obtain ⟨t, rfl⟩ := e2 v hv
    have hm : V.ref t ∈ xs := e1 ▸ List.mem_map.mpr ⟨_, hv, rfl⟩
    obtain ⟨t', e, ht⟩ := hx _ hm
    cases e
    obtain ⟨_, its2, r2, o, ho, hc, n, hd⟩ := I.hok _ _ ht
    obtain ⟨u1, u2, u3, rfl, ri, rj, rl⟩ := vals_3 r2
    obtain ⟨t1, rfl⟩ := ri
    obtain ⟨t2, rfl⟩ := rj
    obtain ⟨t3, rfl⟩ := rl
    exact ⟨t, o, t1, t2, t3, n, rfl, ho, hc, hd⟩
  · have h3 : ∀ u ∈ out, ∃ a, u = Value.ref a := fun u hu => e2 u (h2.perm.mem_iff.mp hu)
    obtain ⟨n, hn⟩ := hn
    have hb : (out.map backV).Perm xs := by
      rw [e1]
      exact h2.perm.map backV
    refine ⟨.ref d, upd H d (.lst (out.map backV)), I.laid (t' := s.toks) kp hd ⟨?_, out, n, vals_back h3, hn⟩, rfl, q _ d hb ?_ (I.hok.fresh hd)⟩
    · rw [hb.length_eq]
      exact hz
    · exact List.pairwise_map.mpr h1
/-! ### len(set(xs)) -/
def ded (ns : List Int) : List Int := firstMet (fun i => ns.getD i 0) ns.length
def tLenSetD (K : PySem.W.Frag) (ta : TE) : TE := fun σ H Q => ta σ H fun x H1 => ∃ (l : Addr) (ns : List Int), x = V.ref l ∧ SqL K H1 l (ns.map V.int) ∧ ns.length < 64 ∧ Q (.int ((ded ns).length : Nat)) H1
theorem ded_le (ns : List Int) : ∀ i, (firstMet (fun i => ns.getD i 0) i).length ≤ i
  | 0 => Nat.le_refl _
  | i + 1 => by
    have ih := ded_le ns i
    rw [firstMet_succ]
    unfold step_dedup
    split
    · omega
    · rw [List.length_append, List.length_singleton]
      omega
theorem pe_lenSetD {a : Expr} {ta : TE} {p p2 q pos : Pos} (hc : X.calm = true) (hg : Gl X "len") (hm : X.mg "len" = none) (hg2 : Gl X "set") (hm2 : X.mg "set" = none) (ha : PE X a ta)
    (na : starEach [a] X.env = (false, eval a X.env) :: starEach [] X.env := by rfl) : PE X (.Call (.Name "len" p) [.Call (.Name "set" p2) [a] [] q] [] pos) (tLenSetD X.K ta) := by
  refine ⟨fun pins s σ H Q I h => Call_ (ld_blt I hg hm PySem.boot_len ?_)⟩
  refine callWith_builtin1 (args_cons ?_ rfl) rfl rfl
  refine Call_ (ld_blt I hg2 hm2 boot_set ?_)
  refine callWith_type1 (args_cons (thn (ha.run pins s σ H _ I h) fun v s1 ⟨x, H1, I1, r1, q1⟩ => args_nil ?_) na) na rfl
  obtain ⟨l, ns, rfl, hq, h1, q1⟩ := q1
  cases r1
  obtain ⟨its, r, pl, hz⟩ := I1.list hq
  have hl : its.toArray.size = ns.length := by rw [List.size_toArray, ← r.length, List.length_map]
  refine call_set_list (I1.ok.hd hc) pl.isList (ns := ns) (by simpa using r.ints) (by unfold scanBound; omega) fun h' tk hS hk => args_nil ?_
  rw [hl] at hS
  obtain ⟨o, es, ep, t, ho, hex, hd, _, _, _, hf, hn⟩ := hS
  have hle := ded_le ns ns.length
  have I2 : Inv X pins σ H1 { s1 with heap := h', toks := tk } := I1.kept fun b o e => hk b o (Heap.lt_size e) e
  exact call_len_set ho hex hd hf (by rw [hn] <;> omega) ⟨.int ((ded ns).length : Nat), H1, I2.tok _, ⟨_, by rw [hn]; rfl⟩, q1⟩
end
end Fb
namespace Fb
open PySem PySem.Spec PyProof.Rows L2
abbrev sRef : Stmt := inClass sDia 2
/-- more of what the names stand for -/
structure TxtN (mg : Str → Option Value) : Prop where
  set : mg "set" = none
  sorted : mg "sorted" = none
  noStart : ∃ t, mg "NO_START" = some (.int (-6) t)
/-! ### how many differ -/
theorem ded_mem (ns : List Int) : ∀ i, i ≤ ns.length → ∀ x, x ∈ firstMet (fun i => ns.getD i 0) i ↔ x ∈ ns.take i
  | 0, _, x => by
    show x ∈ ([] : List Int) ↔ x ∈ ns.take 0
    rw [List.take_zero]
  | i + 1, hi, x => by
    have ih := ded_mem ns i (by omega)
    have hx := List.getElem?_eq_getElem (show i < ns.length by omega)
    have e : ns.getD i 0 = ns[i] := by
      rw [List.getD_eq_getElem?_getD, hx]
      rfl
    rw [firstMet_succ, take_more hx]
    unfold step_dedup
    rw [e]
    by_cases c : (firstMet (fun i => ns.getD i 0) i).any (· == ns[i]) = true
    · rw [if_pos c, ih x, List.mem_append]
      refine ⟨.inl, fun h => h.elim id fun h => ?_⟩
      rcases List.mem_cons.mp h with rfl | h
      · obtain ⟨y, hy, ey⟩ := List.any_eq_true.mp c
        rw [beq_iff_eq] at ey
        exact (ih _).mp (ey ▸ hy)
      · cases h
    · rw [if_neg c, List.mem_append, List.mem_append, ih x]
theorem ded_len (ns : List Int) : ∀ i, i ≤ ns.length → ((firstMet (fun i => ns.getD i 0) i).length = i ↔ (ns.take i).Nodup)
  | 0, _ => ⟨fun _ => by rw [List.take_zero]; exact List.nodup_nil, fun _ => rfl⟩
  | i + 1, hi => by
    have ih := ded_len ns i (by omega)
    have hm := ded_mem ns i (by omega)
    have hle := ded_le ns i
    have hx := List.getElem?_eq_getElem (show i < ns.length by omega)
    have e : ns.getD i 0 = ns[i] := by
      rw [List.getD_eq_getElem?_getD, hx]
      rfl
    rw [firstMet_succ, take_more hx]
    unfold step_dedup
    rw [e]
    by_cases c : (firstMet (fun i => ns.getD i 0) i).any (· == ns[i]) = true
    · rw [if_pos c]
      obtain ⟨y, hy, ey⟩ := List.any_eq_true.mp c
      rw [beq_iff_eq] at ey
      have hin := (hm _).mp (ey ▸ hy)
      refine ⟨fun h => by omega, fun h => ?_⟩
      exact absurd rfl ((List.nodup_append.mp h).2.2 _ hin _ (List.mem_cons_self ..))
    · rw [if_neg c, List.length_append, List.length_singleton]
      have hin : ¬ ns[i] ∈ ns.take i := fun h => c (List.any_eq_true.mpr ⟨_, (hm _).mpr h, beq_self_eq_true _⟩)
      constructor
      · intro h
        exact nd_snoc1 (ih.mp (by omega)) hin
      · intro h
        have := ih.mpr (List.nodup_append.mp h).1
        omega
theorem distinct_iff : ∀ l : List Nat, Cl04.distinct l = true ↔ l.Nodup
  | [] => ⟨fun _ => List.nodup_nil, fun _ => rfl⟩
  | a :: l => by
    have ih := distinct_iff l
    show (!(l.contains a) && Cl04.distinct l) = true ↔ _
    rw [Bool.and_eq_true, ih, List.nodup_cons, Bool.not_eq_true']
    refine and_congr_left fun _ => ?_
    rw [← Bool.not_eq_true, List.contains_iff_mem]
theorem ded_lt (l : List Nat) : decide (((ded (l.map Int.ofNat)).length : Int) < (l.length : Int)) = !Cl04.distinct l := by
  have h1 := ded_len (l.map Int.ofNat) (l.map Int.ofNat).length (Nat.le_refl _)
  have h2 := ded_le (l.map Int.ofNat) (l.map Int.ofNat).length
  rw [List.take_length] at h1
  have h3 : (l.map Int.ofNat).Nodup ↔ l.Nodup := by
    unfold List.Nodup
    rw [List.pairwise_map]
    constructor
    · intro h
      exact h.imp fun {a b} q e => q (by rw [e])
    · intro h
      exact h.imp fun {a b} q e => q (Int.ofNat.inj e)
  rw [h3, ← distinct_iff] at h1
  have e : (ded (l.map Int.ofNat)).length = (firstMet (fun i => (l.map Int.ofNat).getD i 0) (l.map Int.ofNat).length).length := rfl
  rw [List.length_map] at h1 h2 e
  rw [← e] at h1 h2
  cases q : Cl04.distinct l with
  | true =>
    have := h1.mpr q
    exact decide_eq_false (by omega)
  | false =>
    refine decide_eq_true ?_
    have : ¬ (ded (l.map Int.ofNat)).length = l.length := fun z => by
      rw [h1.mp z] at q
      cases q
    omega
/-! ### refusal -/
abbrev rLenSeq (K : PySem.W.Frag) : List V → Hp → VK → Prop := fun xs H Q => ∃ p ys, xs = [.ref p] ∧ (SqL K H p ys ∨ SqT K H p ys) ∧ Q (.int ys.length) H
def refM (s : Cl04.State) (l : List Nat) (fits : Bool) : Int := if l.any (fun i => decide (s.people.length ≤ i)) = true then -3 else if l.isEmpty = true ∨ Cl04.distinct l = false ∨ fits = false then -1 else 0
def spRef (C : Cs) (K : PySem.W.Frag) : Sp := fun vs H Q _ => ∃ (d a : Addr) (F : List Addr) (s : Cl04.State) (l : List Nat) (fits : Bool), vs = [.ref d, .ref a, .bl fits] ∧ DA C H d F s ∧ SqL K H a ((l.map Int.ofNat).map V.int) ∧ l.length ≤ 10 ∧ Q (.int (refM s l fits)) H
section
variable {P : Program} {w : World} {K : PySem.W.Frag} {mg : Str → Option Value} {base : Heap}
theorem scRef : FnScope ["self", "people", "fits", "person"] ["self", "people", "fits"] (defScope sRef) := ⟨rfl, rfl, rfl, by decide +kernel, rfl, by decide +kernel, by decide +kernel⟩
theorem ok_ref {f : Addr} {C : Cs} {fd : FuncData} (F : Fun K "refusal" "Diary.refusal" sRef f fd) (T : TxtD K mg C) (TC : TxtC mg) (TN : TxtN mg) (GK : GMeth P w K mg base C.D "knows" ["self", "person"] 1 (spKnows C)) : FnOk P w K mg base CX0 2 f fd ["self", "people", "fits"] (spRef C K) := by
  refine F.ok scRef (fun vs H Q E h => ?_) (fun cdv A outer s H vs Q E hr h => ?_)
  · obtain ⟨d, a, F, s, l, fits, rfl, _⟩ := h
    rfl
  · obtain ⟨d, a, F, st, l, fits, rfl, hDA, hS, h10, k⟩ := h
    obtain ⟨fk, fdk, GK, mK, bK⟩ := GK
    obtain ⟨t1, e1⟩ := T.nobody
    obtain ⟨t2, e2⟩ := T.unfit
    refine ⟨_, pss_cons (ps_for PassesOwn.never rfl (pi_list (pv 1)) (pg_name (i := 3) scRef.nd rfl (Or.inl rfl))
        (pss_one (ps_if (pt_not (pt_val (pe_meth (pv 0) T.clD mK GK hr bK .nil pass0 (pa_cons (pv 3) pa_nil)))) (pss_one (ps_ret (pe_glob (v := .int (-3)) rfl e1 ⟨_, rfl⟩))) pss_nil)))
      (pss_cons (ps_if (PW.pt (pw_or (pt_cmpR op_eq (pe_callB call_len_seq (by rfl) TC.len PySem.boot_len (pa_cons (pv 1) pa_nil)) pe_int (nomark _))
          (pw_or (pt_cmpR op_lt (pe_lenSetD rfl rfl TC.len rfl TN.set (pv 1)) (pe_callB call_len_seq (by rfl) TC.len PySem.boot_len (pa_cons (pv 1) pa_nil)) (nomark _)) (pw_or1 (pt_not (pt_val (pv 2)))))))
        (pss_one (ps_ret (pe_glob (v := .int (-1)) rfl e2 ⟨_, rfl⟩))) pss_nil)
      (pss_one (ps_ret pe_int))), ?_⟩
    have hcopy := hDA
    obtain ⟨lp, de, ps, es, h, rfl⟩ := hDA
    obtain ⟨dx, hd⟩ := h.ins
    refine ⟨_, rfl, a, rfl, ⟨_, hS⟩, for_list (K := K) (a := a) (xs := (l.map Int.ofNat).map V.int) (fun i σ H' => ∃ v : Option V, σ = [some (.ref d), some (.ref a), some (.bl fits), v] ∧ H' = H ∧ ∀ x ∈ l.take i, x < st.people.length)
      ⟨none, rfl, rfl, fun x hx => (by rw [List.take_zero] at hx; cases hx)⟩ (fun i σ H' _ ⟨_, _, e, _⟩ => e ▸ hS) ?_ ?_⟩
    · rintro i y σ H' hi ⟨v, rfl, rfl, hk⟩
      rw [List.getElem?_map, List.getElem?_map] at hi
      cases hx : l[i]? with
      | none =>
        rw [hx] at hi
        cases hi
      | some x =>
        rw [hx] at hi
        have ey : V.int (x : Int) = y := Option.some.inj hi
        subst ey
        refine ⟨_, rfl, d, dx, _, rfl, hd, dF_no _ _ _ (by decide +kernel) (by decide +kernel) (by decide +kernel), _, rfl, d, _, st, x, rfl, hcopy, _, rfl, ?_⟩
        by_cases c0 : x < st.people.length
        · refine if_false_of (by rw [decide_eq_true c0]; rfl) ?_
          refine ⟨_, rfl, rfl, fun z hz => ?_⟩
          rw [take_more hx] at hz
          rcases List.mem_append.mp hz with hz | hz
          · exact hk z hz
          · rcases List.mem_cons.mp hz with rfl | hz
            · exact c0
            · cases hz
        · refine if_true_of (by rw [decide_eq_false c0]; rfl) ?_
          have er : refM st l fits = -3 := if_pos (List.any_eq_true.mpr ⟨x, List.mem_of_getElem? hx, decide_eq_true (by omega)⟩)
          rw [er] at k
          exact k
    · rintro σ H' ⟨v, rfl, rfl, hk⟩
      rw [List.length_map, List.length_map, List.take_length] at hk
      have hany : ¬ l.any (fun i => decide (st.people.length ≤ i)) = true := fun q => by
        obtain ⟨x, hx, q⟩ := List.any_eq_true.mp q
        have := hk x hx
        have := of_decide_eq_true q
        omega
      have el : (((l.map Int.ofNat).map V.int).length : Int) = (l.length : Int) := by rw [List.length_map, List.length_map]
      have elen : ∀ {σ : L2.St}, σ[1]? = some (some (.ref a)) → Vv (tCB (rLenSeq K) (tCons (tVar 1) tNil)) σ H' (.int (l.length : Int)) := fun h1 Q kQ => ⟨_, h1, a, _, rfl, .inl hS, by rw [el]; exact kQ⟩
      have tv : Tv (tOr (tTest (tOp rEq (tCB (rLenSeq K) (tCons (tVar 1) tNil)) (tC (.int 0)))) (tOr (tTest (tOp (rI0 fun i j => .bl (decide (i < j))) (tLenSetD K (tVar 1)) (tCB (rLenSeq K) (tCons (tVar 1) tNil)))) (tNot (tB (tVar 2))))) [some (.ref d), some (.ref a), some (.bl fits), v] H' (decide ((l.length : Int) = 0) || (decide (((ded (l.map Int.ofNat)).length : Int) < (l.length : Int)) || !fits)) :=
        Tv.or (Tv.eq (elen rfl) .con) fun _ => Tv.or (Tv.lt (fun Q kQ => ⟨_, rfl, a, _, rfl, hS, by rw [List.length_map]; omega, kQ⟩) (elen rfl)) fun _ => Tv.not (Tv.val (.var rfl))
      refine tv _ ?_
      rw [ded_lt]
      by_cases c : l.isEmpty = true ∨ Cl04.distinct l = false ∨ fits = false
      · have er : refM st l fits = -1 := by
          unfold refM
          rw [if_neg hany, if_pos c]
        rw [er] at k
        refine if_true_of ?_ k
        rcases c with c | c | c
        · rw [List.isEmpty_iff] at c
          subst c
          rfl
        · rw [c]
          simp
        · rw [c]
          simp
      · have er : refM st l fits = 0 := by
          unfold refM
          rw [if_neg hany, if_neg c]
        rw [er] at k
        refine if_false_of ?_ k
        rw [not_or, not_or] at c
        obtain ⟨c1, c2, c3⟩ := c
        have n0 : ¬ (l.length : Int) = 0 := fun z => c1 (List.isEmpty_iff.mpr (List.eq_nil_of_length_eq_zero (by omega)))
        have d1 : Cl04.distinct l = true := by
          cases q : Cl04.distinct l with
          | true => rfl
          | false => exact absurd q c2
        have f1 : fits = true := by
          cases q : fits with
          | true => rfl
          | false => exact absurd q c3
        rw [decide_eq_false n0, d1, f1]
        rfl
end
end Fb
namespace Fb
open PySem PySem.Spec PyProof.Rows L2
abbrev sHours : Stmt := inClass sDia 4
abbrev sOff : Stmt := inClass sDia 5
theorem set_map_same {α β : Type} (f : α → β) : ∀ {l : List α} {i : Nat} {x y : α}, l[i]? = some x → f x = f y → (l.set i y).map f = l.map f
  | [], _, _, _, h, _ => by simp at h
  | a :: l, 0, x, y, h, e => by
    have q : a = x := Option.some.inj h
    show f y :: l.map f = f a :: l.map f
    rw [q, e]
  | a :: l, i + 1, x, y, h, e => by
    show f a :: (l.set i y).map f = f a :: l.map f
    rw [set_map_same f (l := l) (i := i) h e]
theorem DAt.modPer {C : Cs} {H H' : Hp} {d lp de : Addr} {ps : List PR} {es : List ER} {s : Cl04.State} (h : DAt C H d lp de ps es s) {i : Nat} {y : PR} {q : Cl04.Person} (hy : ps[i]? = some y) (hq : PerAt C.P H' y.a y.w y.o q)
    (hk : ∀ b o, H b = some o → b ≠ y.w → b ≠ y.o → H' b = some o) : DAt C H' d lp de (ps.set i { y with p := q }) es { s with people := s.people.set i q } := by
  obtain ⟨dx, hd⟩ := h.ins
  have ym : y ∈ ps := List.mem_of_getElem? hy
  obtain ⟨ws, hw, _⟩ := (h.per y ym).week
  have ho := (h.per y ym).off
  have ts : TS1 H H' := fun t xs e => hk t _ e (ne_of e hw (by intro z; cases z)) (ne_of e ho (by intro z; cases z))
  have ii : ∀ {b CC dd : Addr} {fs : List (Str × V)}, H b = some (.ins CC dd fs) → H' b = some (.ins CC dd fs) := fun e => hk _ _ e (ne_of e hw (by intro z; cases z)) (ne_of e ho (by intro z; cases z))
  have ea := set_map_same (fun z : PR => V.ref z.a) (y := { y with p := q }) hy rfl
  have ew := set_map_same (fun z : PR => z.w) (y := { y with p := q }) hy rfl
  have eo := set_map_same (fun z : PR => z.o) (y := { y with p := q }) hy rfl
  refine { ins := ⟨dx, ii hd⟩, ppl := ?_, ent := ?_, per := fun z hz => ?_, enA := fun z hz => ?_, sp := ?_, sb := h.sb, ndW := ?_, ndO := ?_, ndE := h.ndE, lpW := ?_, deO := ?_ }
  · rw [ea]
    exact hk _ _ h.ppl (fun e => h.lpW (e ▸ List.mem_map.mpr ⟨y, ym, rfl⟩)) (ne_of h.ppl ho (by intro z; cases z))
  · exact hk _ _ h.ent (ne_of h.ent hw (by intro z; cases z)) (fun e => h.deO (e ▸ List.mem_map.mpr ⟨y, ym, rfl⟩))
  · obtain ⟨j, hj⟩ := List.getElem?_of_mem hz
    rw [List.getElem?_set] at hj
    by_cases c : i = j
    · rw [if_pos c] at hj
      by_cases c2 : i < ps.length
      · rw [if_pos c2] at hj
        have e := Option.some.inj hj
        subst e
        exact hq
      · rw [if_neg c2] at hj
        cases hj
    · rw [if_neg c] at hj
      have zm := List.mem_of_getElem? hj
      obtain ⟨⟨dz, p1⟩, ⟨us, p2, p3⟩, p4⟩ := h.per z zm
      refine ⟨⟨dz, ii p1⟩, ⟨us, hk _ _ p2 (fun e => ?_) (ne_of p2 ho (by intro z; cases z)), p3.mono ts⟩, hk _ _ p4 (ne_of p4 hw (by intro z; cases z)) (fun e => ?_)⟩
      · have a1 : (ps.map (·.w))[i]? = some y.w := by rw [List.getElem?_map, hy]; rfl
        have a2 : (ps.map (·.w))[j]? = some y.w := by rw [List.getElem?_map, hj, ← e]; rfl
        exact c (nd_ix h.ndW a1 a2)
      · have a1 : (ps.map (·.o))[i]? = some y.o := by rw [List.getElem?_map, hy]; rfl
        have a2 : (ps.map (·.o))[j]? = some y.o := by rw [List.getElem?_map, hj, ← e]; rfl
        exact c (nd_ix h.ndO a1 a2)
  · obtain ⟨dz, p⟩ := h.enA z hz
    exact ⟨dz, ii p⟩
  · rw [List.map_set, ← h.sp]
  · rw [ew]
    exact h.ndW
  · rw [eo]
    exact h.ndO
  · rw [ew]
    exact h.lpW
  · rw [eo]
    exact h.deO
theorem foot_set {d lp de : Addr} {ps : List PR} {es : List ER} {i : Nat} {y : PR} {q : Cl04.Person} (hy : ps[i]? = some y) : foot d lp de (ps.set i { y with p := q }) es = foot d lp de ps es := by
  unfold foot
  rw [set_map_same (fun z : PR => z.w) (y := { y with p := q }) hy rfl, set_map_same (fun z : PR => z.o) (y := { y with p := q }) hy rfl]
theorem in_foot_w {d lp de : Addr} {ps : List PR} {es : List ER} {y : PR} (h : y ∈ ps) : y.w ∈ foot d lp de ps es := by
  unfold foot
  simp only [List.mem_cons, List.mem_append]
  exact .inr (.inr (.inr (.inl (List.mem_map.mpr ⟨y, h, rfl⟩))))
theorem in_foot_o {d lp de : Addr} {ps : List PR} {es : List ER} {y : PR} (h : y ∈ ps) : y.o ∈ foot d lp de ps es := by
  unfold foot
  simp only [List.mem_cons, List.mem_append]
  exact .inr (.inr (.inr (.inr (.inl (List.mem_map.mpr ⟨y, h, rfl⟩)))))
/-- the person of a number -/
theorem DAt.who {C : Cs} {H : Hp} {d lp de : Addr} {ps : List PR} {es : List ER} {s : Cl04.State} (h : DAt C H d lp de ps es s) {i : Nat} (hi : i < s.people.length) : ∃ y, ps[i]? = some y ∧ y ∈ ps ∧ y.p = Cl04.person s i ∧ y.p ∈ s.people ∧ (ps.map fun y => V.ref y.a)[i]? = some (.ref y.a) := by
  have hl : i < ps.length := by
    rw [h.sp, List.length_map] at hi
    exact hi
  have e := List.getElem?_eq_getElem hl
  refine ⟨ps[i], e, List.getElem_mem hl, ?_, ?_, ?_⟩
  · unfold Cl04.person
    rw [List.getD_eq_getElem?_getD, h.sp, List.getElem?_map, e]
    rfl
  · rw [h.sp]
    exact List.mem_map.mpr ⟨_, List.getElem_mem hl, rfl⟩
  · rw [List.getElem?_map, e]
    rfl
/-- what a call hands back, seen from a heap that has more -/
theorem Ret.mono {C : Cs} {H H1 : Hp} {d : Addr} {F : List Addr} {Q : VK} {r : Cl04.State × List Int} (k : Ret C H d F Q r) (e : Same H H1) : Ret C H1 d F Q r := fun H' F' p h1 h2 h3 h4 h5 =>
  k H' F' p h1 (fun x hx => (h2 x hx).imp id fun z => e.free z) (fun b o hb hn => h3 b o (e _ _ hb) hn) (e.free h4) h5
theorem Vv.and {ta tb : TE} {σ : L2.St} {H : Hp} {a b : Bool} (h1 : Vv ta σ H (.bl a)) (h2 : a = true → Vv tb σ H (.bl b)) : Vv (tAndV ta tb) σ H (.bl (a && b)) := fun Q q => h1 _ ⟨a, rfl, by
  cases a
  · exact if_false_of rfl q
  · exact if_true_of rfl (h2 rfl _ q)⟩
theorem Vv.or {ta tb : TE} {σ : L2.St} {H : Hp} {a b : Bool} (h1 : Vv ta σ H (.bl a)) (h2 : a = false → Vv tb σ H (.bl b)) : Vv (tOrV ta tb) σ H (.bl (a || b)) := fun Q q => h1 _ ⟨a, rfl, by
  cases a
  · exact if_false_of rfl (h2 rfl _ q)
  · exact if_true_of rfl q⟩
theorem Vv.eqI {a b : TE} {σ : L2.St} {H : Hp} {x y : Int} (h1 : Vv a σ H (.int x)) (h2 : Vv b σ H (.int y)) : Vv (tOp rEq a b) σ H (.bl (decide (x = y))) := by
  refine Vv.op h1 h2 fun Q q => ⟨rfl, ?_⟩
  have e : decide (V.int x = V.int y) = decide (x = y) := by
    rw [Bool.eq_iff_iff, decide_eq_true_eq, decide_eq_true_eq]
    exact ⟨V.int.inj, congrArg _⟩
  rw [e]
  exact q
/-- one person -/
theorem ref_one (s : Cl04.State) (i : Nat) (b : Bool) : refM s [i] b = if s.people.length ≤ i then -3 else if b = false then -1 else 0 := by
  unfold refM
  have e1 : ([i].any fun i => decide (s.people.length ≤ i)) = decide (s.people.length ≤ i) := Bool.or_false _
  rw [e1]
  by_cases c : s.people.length ≤ i
  · rw [decide_eq_true c, if_pos rfl, if_pos c]
  · rw [decide_eq_false c, if_neg Bool.false_ne_true, if_neg c]
    by_cases d : b = false
    · rw [if_pos d, if_pos (.inr (.inr d))]
    · rw [if_neg d, if_neg]
      rintro (z | z | z)
      · cases z
      · cases z
      · exact d z
section
variable {P : Program} {w : World} {K : PySem.W.Frag} {mg : Str → Option Value} {base : Heap}
abbrev GRef (P : Program) (w : World) (K : PySem.W.Frag) (mg : Str → Option Value) (base : Heap) (C : Cs) : Prop := GMeth P w K mg base C.D "refusal" ["self", "people", "fits"] 2 (spRef C K)
def spHours (C : Cs) : Sp := fun vs H Q _ => ∃ (d : Addr) (F : List Addr) (s : Cl04.State) (i wd a b : Nat), vs = [.ref d, .int i, .int wd, .int a, .int b] ∧ DA C H d F s ∧ WF s ∧ Ret C H d F Q (Cl04.step s (.hours i wd a b))
theorem scHours : FnScope ["self", "person", "weekday", "begin", "end", "refusal", "worker"] ["self", "person", "weekday", "begin", "end"] (defScope sHours) := ⟨rfl, rfl, rfl, by decide +kernel, rfl, by decide +kernel, by decide +kernel⟩
theorem ok_hours {f : Addr} {C : Cs} {fd : FuncData} (F : Fun K "hours" "Diary.hours" sHours f fd) (T : TxtD K mg C) (TC : TxtC mg) (GR : GRef P w K mg base C)
    (GW : GMeth P w K mg base C.P "works" ["self", "a", "b"] 2 (spWorks C.P)) (GT : GFun P w K mg base "total" ["stretches"] 1 (spTot K)) : FnOk P w K mg base CX0 3 f fd ["self", "person", "weekday", "begin", "end"] (spHours C) := by
  refine F.ok scHours (fun vs H Q E h => ?_) (fun cdv A outer s H vs Q E hr h => ?_)
  · obtain ⟨d, F, s, i, wd, a, b, rfl, _⟩ := h
    rfl
  · obtain ⟨d, F, st, i, wd, a, b, rfl, hDA0, hwf, k0⟩ := h
    obtain ⟨fk, fdk, GR, mR, bR⟩ := GR
    obtain ⟨fw, fdw, GW, mW, bW⟩ := GW
    obtain ⟨ft, fdt, GT, mgt, kpt, bt⟩ := GT
    obtain ⟨t3, e3⟩ := TC.day
    obtain ⟨t4, e4⟩ := TC.moments
    have hr1 : Room 1 _ := hr.mono (by decide)
    refine ⟨_, pss_cons (ps_set (i := 5) scHours.nd rfl (Or.inl rfl) (pe_meth (pv 0) T.clD mR GR hr bR .nil pass0 (pa_cons (pe_lst (pa_cons (pv 1) pa_nil)) (pa_cons
          (pe_and (pe_cmpR op_ge (pv 2) pe_int (nomark _)) (pe_and (pe_cmpR op_le (pv 2) pe_int (nomark _)) (pe_and (pe_cmpR op_le (pv 3) (pv 4) (nomark _)) (pe_one (pe_cmpR op_le (pv 4) (pe_glob (v := .int 1440) rfl e3 ⟨_, rfl⟩) (nomark _)))))) pa_nil))))
      (pss_cons (ps_if (pt_cmpR op_lt (pv 5) pe_int (nomark _)) (pss_one (ps_ret (pe_lst (pa_cons (pv 5) pa_nil)))) pss_nil)
      (pss_cons (ps_set (i := 6) scHours.nd rfl (Or.inl rfl) (pe_ix ix_list (pe_fld (pv 0) rfl) (pv 1) (fun _ _ => rfl)))
      (pss_cons (ps_asg (pe_tup (pa_cons (pv 3) (pa_cons (pv 4) pa_nil))) (pg_sub (pe_fld (pv 6) rfl) (pe_op op_sub (pv 2) pe_int) set_list))
      (pss_one (ps_ret (pe_lst (pa_cons (pe_call GT hr1 rfl mgt kpt bt .nil pass0 (pa_cons (pe_meth (pv 6) T.per.cl mW GW hr bW .nil pass0 (pa_cons pe_int (pa_cons (pe_glob (v := .int 144000) rfl e4 ⟨_, rfl⟩) pa_nil))) pa_nil)) pa_nil))))))), ?_⟩
    obtain ⟨lp, de, ps, es, h0, rfl⟩ := id hDA0
    obtain ⟨dx, hd0⟩ := h0.ins
    refine ⟨_, rfl, d, dx, _, rfl, hd0, dF_no _ _ _ (by decide +kernel) (by decide +kernel) (by decide +kernel), _, rfl, (by show 1 ≤ sizeLine; decide), fun p0 np0 => ?_⟩
    refine Vv.and (Vv.i2 (.var rfl) .con) (fun _ => Vv.and (Vv.i2 (.var rfl) .con) fun _ => Vv.and (Vv.i2 (.var rfl) (.var rfl)) fun _ => Vv.i2 (.var rfl) .con) _ ?_
    have s0 : Same H (upd H p0 (.lst [.int i])) := same_new np0
    have hcopy := hDA0.same s0
    have k := k0.mono s0
    have h := h0.same s0
    refine ⟨d, p0, _, st, [i], _, rfl, hcopy, SqL.of upd_same, (by show 1 ≤ 10; decide), ?_⟩
    generalize upd H p0 (.lst [.int i]) = H at hcopy k h
    generalize hb : (decide ((1 : Int) ≤ (wd : Int)) && (decide ((wd : Int) ≤ 7) && (decide ((a : Int) ≤ (b : Int)) && decide ((b : Int) ≤ 1440)))) = fits
    have hfit : fits = true ↔ ¬ (wd < 1 ∨ (7 < wd ∨ (1440 < b ∨ b < a))) := by
      rw [← hb]
      simp only [Bool.and_eq_true, decide_eq_true_eq]
      omega
    obtain ⟨dx, hd⟩ := h.ins
    rw [ref_one]
    refine ⟨_, rfl, _, _, rfl, rfl, _, rfl, ?_⟩
    by_cases c0 : st.people.length ≤ i
    · rw [if_pos c0]
      refine if_true_of rfl ?_
      refine ⟨_, rfl, (by show 1 ≤ sizeLine; decide), fun p np => k.just (l := [-3]) hcopy (Same.refl H) p np ?_⟩
      show (if st.people.length ≤ i then _ else _) = _
      rw [if_pos c0]
    rw [if_neg c0]
    have es0 : Cl04.step st (.hours i wd a b) = if wd < 1 ∨ (7 < wd ∨ (1440 < b ∨ b < a)) then (st, [-1]) else
        ({ st with people := st.people.set i { Cl04.person st i with hours := (Cl04.person st i).hours.set (wd - 1) (a, b) } }, [(Cl04.size (Cl04.work { Cl04.person st i with hours := (Cl04.person st i).hours.set (wd - 1) (a, b) }) : Int)]) := by
      show (if st.people.length ≤ i then _ else _) = _
      rw [if_neg c0]
    rw [es0] at k
    cases fits with
    | false =>
      refine if_true_of rfl ?_
      refine ⟨_, rfl, (by show 1 ≤ sizeLine; decide), fun p np => k.just (l := [-1]) hcopy (Same.refl H) p np ?_⟩
      by_cases c : wd < 1 ∨ (7 < wd ∨ (1440 < b ∨ b < a))
      · rw [if_pos c]
      · exact absurd (hfit.mpr c) Bool.false_ne_true
    | true =>
    have cf := hfit.mp rfl
    refine if_false_of rfl ?_
    rw [if_neg cf] at k
    have c0 : i < st.people.length := by omega
    obtain ⟨y, hy, ym, ep, ypm, yv⟩ := h.who c0
    have hwp := hwf.per _ ypm
    rw [← ep] at k
    obtain ⟨⟨dy, p1⟩, ⟨ws, p2, p3⟩, p4⟩ := h.per y ym
    refine ⟨_, rfl, d, C.D, dx, _, _, rfl, hd, T.clD, T.dP, dF_people _ _ _, _, rfl, lp, _, _, _, rfl, rfl, SqL.of h.ppl, atI_nat yv, ?_⟩
    refine ⟨_, rfl, _, rfl, (by show 2 ≤ sizeLine; decide), fun t nt => ?_⟩
    have hwl := p3.length
    rw [List.length_map, hwp.seven] at hwl
    have nwt : y.w ≠ t := ne_of_none p2 nt
    refine ⟨_, rfl, y.a, C.P, dy, _, _, rfl, (upd_ne (ne_of_none p1 nt)).trans p1, T.per.cl, T.per.nW, pF_week _ _ _, _, rfl, _, _, rfl, rfl, y.w, ws, _, wd - 1, rfl, rfl, (upd_ne nwt).trans p2, ?_, ?_⟩
    · show (if (0 : Int) ≤ (wd : Int) - 1 then (if (wd : Int) - 1 < (ws.length : Int) then some ((wd : Int) - 1).toNat else none) else _) = some (wd - 1)
      rw [if_pos (by omega), if_pos (by omega)]
      exact congrArg some (by omega)
    have ts : TS1 H (upd (upd H t (.tup [.int a, .int b])) y.w (.lst (ws.set (wd - 1) (.ref t)))) := (TS1.new nt).trans (TS1.lst ((upd_ne nwt).trans p2))
    have keep : ∀ b' o', H b' = some o' → b' ≠ y.w → b' ≠ y.o → upd (upd H t (.tup [.int a, .int b])) y.w (.lst (ws.set (wd - 1) (.ref t))) b' = some o' := fun b' o' e1 e2 _ => by
      rw [upd_ne e2, upd_ne (ne_of_none e1 nt)]
      exact e1
    have nya : y.a ≠ y.w := ne_of p1 p2 (by intro z; cases z)
    have nyo : y.o ≠ y.w := ne_of p4 p2 (by intro z; cases z)
    have hnew : PerAt C.P (upd (upd H t (.tup [.int a, .int b])) y.w (.lst (ws.set (wd - 1) (.ref t)))) y.a y.w y.o { y.p with hours := y.p.hours.set (wd - 1) (a, b) } := by
      refine ⟨⟨dy, ?_⟩, ⟨_, upd_same, ?_⟩, ?_⟩
      · rw [upd_ne nya, upd_ne (ne_of_none p1 nt)]
        exact p1
      · rw [List.map_set]
        exact (p3.mono ts).set (x := up (a, b)) ((upd_ne nwt.symm).trans upd_same) (wd - 1)
      · rw [upd_ne nyo, upd_ne (ne_of_none p4 nt)]
        exact p4
    have hA := h.modPer hy hnew keep
    have hhs : ∀ x ∈ y.p.hours.set (wd - 1) (a, b), x.1 ≤ x.2 ∧ x.2 ≤ 1440 := fun x hx => by
      rcases List.mem_or_eq_of_mem_set hx with hx | rfl
      · exact hwp.hours x hx
      · exact ⟨by show a ≤ b; omega, by show b ≤ 1440; omega⟩
    have wfq : WFp { y.p with hours := y.p.hours.set (wd - 1) (a, b) } := ⟨hwp.ahead, (List.length_set ..).trans hwp.seven, hhs, hwp.off, hwp.nd⟩
    obtain ⟨⟨dz, q1⟩, _⟩ := id hnew
    refine ⟨_, rfl, y.a, dz, _, rfl, q1, pF_no _ _ _ (by decide +kernel) (by decide +kernel) (by decide +kernel), y.a, y.w, y.o, { y.p with hours := y.p.hours.set (wd - 1) (a, b) }, 0, 144000, rfl, hnew, wfq.seven, fun H2 p2' us s2 np2 hp2 hu2 => ?_⟩
    have hl2 := worksM_le { y.p with hours := y.p.hours.set (wd - 1) (a, b) } 0 144000 102
    refine ⟨p2', us, _, rfl, SqL.of hp2, hu2, by omega, fun H3 s3 => ?_⟩
    refine ⟨(by show 1 ≤ sizeLine; decide), fun p np => ?_⟩
    have np0 := (s2.trans s3).free np
    have npH : H p = none := by
      cases q : H p with
      | none => rfl
      | some z =>
        by_cases c : p = y.w
        · rw [c, upd_same] at np0
          cases np0
        · rw [upd_ne c, upd_ne (ne_of_none q nt), q] at np0
          cases np0
    refine k _ (foot d lp de (ps.set i { y with p := { y.p with hours := y.p.hours.set (wd - 1) (a, b) } }) es) p ⟨lp, de, _, _, hA.same ((s2.trans s3).trans (same_new np)), rfl⟩ (fun x hx => ?_) (fun b' o' e hb => ?_) npH ?_
    · rw [foot_set hy] at hx
      exact .inl hx
    · rw [upd_ne (ne_of_none e npH)]
      refine (s2.trans s3) _ _ ?_
      have nbw : b' ≠ y.w := fun q => hb (q ▸ in_foot_w ym)
      rw [upd_ne nbw, upd_ne (ne_of_none e nt)]
      exact e
    · rw [upd_same, works_all wfq, totI_up (work_pl _).ne]
      rfl
end
end Fb
namespace Fb
open PySem PySem.Spec PyProof.Rows L2
theorem drop_off (l : List Int) (d : Int) : dropK (offK l) (Sum.inl d) = offK (l.filter fun e => e != d) := by
  unfold dropK offK
  rw [List.filter_map]
  refine congrArg _ (List.filter_congr fun x _ => ?_)
  show decide ((Sum.inl x : Key) ≠ Sum.inl d) = (x != d)
  rw [Bool.eq_iff_iff, decide_eq_true_eq, bne_iff_ne]
  exact ⟨fun h e => h (congrArg _ e), fun h e => h (Sum.inl.inj e)⟩
theorem put_off {l : List Int} {d : Int} (h : ¬ d ∈ l) : putK (offK l) (Sum.inl d) (V.bl true) = offK (l ++ [d]) := by
  rw [putK_new _ (by rw [valV_off, if_neg h])]
  unfold offK
  rw [List.map_append]
  rfl
theorem nodup_le : ∀ (n : Nat) (l : List Int), l.Nodup → (∀ x ∈ l, -1 ≤ x ∧ x < -1 + (n : Int)) → l.length ≤ n
  | 0, [], _, _ => Nat.le_refl _
  | 0, x :: l, _, h => by
    have := h x (List.mem_cons_self ..)
    omega
  | n + 1, l, hn, h => by
    have ih := nodup_le n (l.erase (-1 + (n : Int))) (hn.erase _) fun x hx => by
      have q := (hn.mem_erase_iff).mp hx
      have := h x q.2
      have := q.1
      omega
    rw [List.length_erase] at ih
    split at ih <;> omega
section
variable {P : Program} {w : World} {K : PySem.W.Frag} {mg : Str → Option Value} {base : Heap}
def spOff (C : Cs) : Sp := fun vs H Q _ => ∃ (d : Addr) (F : List Addr) (s : Cl04.State) (i : Nat) (z : Int), vs = [.ref d, .int i, .int z] ∧ DA C H d F s ∧ WF s ∧ Ret C H d F Q (Cl04.step s (.off i z))
theorem scOff : FnScope ["self", "person", "day", "refusal", "days_off"] ["self", "person", "day"] (defScope sOff) := ⟨rfl, rfl, rfl, by decide +kernel, rfl, by decide +kernel, by decide +kernel⟩
theorem ok_off {f : Addr} {C : Cs} {fd : FuncData} (F : Fun K "off" "Diary.off" sOff f fd) (T : TxtD K mg C) (TC : TxtC mg) (GR : GRef P w K mg base C) : FnOk P w K mg base CX0 3 f fd ["self", "person", "day"] (spOff C) := by
  refine F.ok scOff (fun vs H Q E h => ?_) (fun cdv A outer s H vs Q E hr h => ?_)
  · obtain ⟨d, F, s, i, z, rfl, _⟩ := h
    rfl
  · obtain ⟨d, F, st, i, z, rfl, hDA0, hwf, k0⟩ := h
    obtain ⟨fk, fdk, GR, mR, bR⟩ := GR
    obtain ⟨t3, e3⟩ := TC.firstDay
    obtain ⟨t4, e4⟩ := TC.lastDay
    have hu := hu_of hr
    refine ⟨_, pss_cons (ps_set (i := 3) scOff.nd rfl (Or.inl rfl) (pe_meth (pv 0) T.clD mR GR hr bR .nil pass0 (pa_cons (pe_lst (pa_cons (pv 1) pa_nil)) (pa_cons
          (pe_and (pe_cmpR op_ge (pv 2) (pe_glob (v := .int (-1)) rfl e3 ⟨_, rfl⟩) (nomark _)) (pe_one (pe_cmpR op_le (pv 2) (pe_glob (v := .int 100) rfl e4 ⟨_, rfl⟩) (nomark _)))) pa_nil))))
      (pss_cons (ps_if (pt_cmpR op_lt (pv 3) pe_int (nomark _)) (pss_one (ps_ret (pe_lst (pa_cons (pv 3) pa_nil)))) pss_nil)
      (pss_cons (ps_set (i := 4) scOff.nd rfl (Or.inl rfl) (pe_fld (pe_ix ix_list (pe_fld (pv 0) rfl) (pv 1) (fun _ _ => rfl)) rfl))
      (pss_cons (ps_if (pt_cmp (pc_din hu (pv 2) (pv 4))) (pss_cons (ps_expr (pe_dpop1 (pv 4) (pv 2) ⟨rfl, rfl, rfl, rfl⟩)) (pss_one (ps_ret (pe_lst (pa_cons pe_int pa_nil))))) pss_nil)
      (pss_cons (ps_dput hu (pv 4) (pv 2) pe_bl rfl)
      (pss_one (ps_ret (pe_lst (pa_cons pe_int pa_nil)))))))), ?_⟩
    obtain ⟨lp, de, ps, es, h0, rfl⟩ := id hDA0
    obtain ⟨dx, hd0⟩ := h0.ins
    refine ⟨_, rfl, d, dx, _, rfl, hd0, dF_no _ _ _ (by decide +kernel) (by decide +kernel) (by decide +kernel), _, rfl, (by show 1 ≤ sizeLine; decide), fun p0 np0 => ?_⟩
    refine Vv.and (Vv.i2 (.var rfl) .con) (fun _ => Vv.i2 (.var rfl) .con) _ ?_
    have s0 : Same H (upd H p0 (.lst [.int i])) := same_new np0
    have hcopy := hDA0.same s0
    have k := k0.mono s0
    have h := h0.same s0
    refine ⟨d, p0, _, st, [i], _, rfl, hcopy, SqL.of upd_same, (by show 1 ≤ 10; decide), ?_⟩
    generalize upd H p0 (.lst [.int i]) = H at hcopy k h
    generalize hb : (decide ((-1 : Int) ≤ z) && decide (z ≤ 100)) = fits
    have hfit : fits = true ↔ ¬ (z < -1 ∨ 100 < z) := by
      rw [← hb]
      simp only [Bool.and_eq_true, decide_eq_true_eq]
      omega
    obtain ⟨dx, hd⟩ := h.ins
    rw [ref_one]
    refine ⟨_, rfl, _, _, rfl, rfl, _, rfl, ?_⟩
    by_cases c0 : st.people.length ≤ i
    · rw [if_pos c0]
      refine if_true_of rfl ?_
      refine ⟨_, rfl, (by show 1 ≤ sizeLine; decide), fun p np => k.just (l := [-3]) hcopy (Same.refl H) p np ?_⟩
      show (if st.people.length ≤ i then _ else _) = _
      rw [if_pos c0]
    rw [if_neg c0]
    obtain ⟨y, hy, ym, ep, ypm, yv⟩ := h.who (show i < st.people.length by omega)
    have es0 : Cl04.step st (.off i z) = if z < -1 ∨ 100 < z then (st, [-1]) else
        ({ st with people := st.people.set i { y.p with off := if y.p.off.contains z = true then y.p.off.filter (fun e => e != z) else y.p.off ++ [z] } },
          [if (if y.p.off.contains z = true then y.p.off.filter (fun e => e != z) else y.p.off ++ [z]).contains z = true then 1 else 0]) := by
      show (if st.people.length ≤ i then _ else _) = _
      rw [if_neg c0, ep]
    rw [es0] at k
    cases fits with
    | false =>
      refine if_true_of rfl ?_
      refine ⟨_, rfl, (by show 1 ≤ sizeLine; decide), fun p np => k.just (l := [-1]) hcopy (Same.refl H) p np ?_⟩
      by_cases c : z < -1 ∨ 100 < z
      · rw [if_pos c]
      · exact absurd (hfit.mpr c) Bool.false_ne_true
    | true =>
    have cf := hfit.mp rfl
    refine if_false_of rfl ?_
    rw [if_neg cf] at k
    have hwp := hwf.per _ ypm
    have hpe := h.per y ym
    obtain ⟨⟨dy, p1⟩, ⟨ws, p2, p3⟩, p4⟩ := id hpe
    have nya : y.a ≠ y.o := ne_of p1 p4 (by intro z; cases z)
    have nyw : y.w ≠ y.o := ne_of p2 p4 (by intro z; cases z)
    have nt : ∀ xs, H y.o ≠ some (.tup xs) := not_tup p4 fun _ q => by cases q
    -- the days off become m
    have fin : ∀ (m : List Int) (r : Int) (p : Addr), ({ st with people := st.people.set i { y.p with off := if y.p.off.contains z = true then y.p.off.filter (fun e => e != z) else y.p.off ++ [z] } },
          [if (if y.p.off.contains z = true then y.p.off.filter (fun e => e != z) else y.p.off ++ [z]).contains z = true then 1 else 0]) = (({ st with people := st.people.set i { y.p with off := m } }, [r]) : Cl04.State × List Int) →
        upd H y.o (.dK (offK m)) p = none → Q (.ref p) (upd (upd H y.o (.dK (offK m))) p (.lst [.int r])) := by
      intro m r p er np
      rw [er] at k
      have hnew : PerAt C.P (upd H y.o (.dK (offK m))) y.a y.w y.o { y.p with off := m } := ⟨⟨dy, (upd_ne nya).trans p1⟩, ⟨ws, (upd_ne nyw).trans p2, p3.mono (TS1.put nt)⟩, upd_same⟩
      have hA := h.modPer hy hnew fun b o e1 _ e2 => (upd_ne e2).trans e1
      have npo : p ≠ y.o := fun q => by
        rw [q, upd_same] at np
        cases np
      have npH : H p = none := by
        rw [upd_ne npo] at np
        exact np
      refine k _ (foot d lp de (ps.set i { y with p := { y.p with off := m } }) es) p ⟨lp, de, _, _, hA.same (same_new np), rfl⟩ (fun x hx => ?_) (fun b' o' e hb => ?_) npH upd_same
      · rw [foot_set hy] at hx
        exact .inl hx
      · have nbo : b' ≠ y.o := fun q => hb (q ▸ in_foot_o ym)
        rw [upd_ne (ne_of_none e npH), upd_ne nbo]
        exact e
    refine ⟨_, rfl, d, C.D, dx, _, _, rfl, hd, T.clD, T.dP, dF_people _ _ _, _, rfl, lp, _, _, _, rfl, rfl, SqL.of h.ppl, atI_nat yv, y.a, C.P, dy, _, _, rfl, p1, T.per.cl, T.per.nO, pF_off _ _ _, ?_⟩
    refine ⟨_, rfl, _, rfl, y.o, _, rfl, DGet.k (k := Sum.inl z) p4, _, rfl, ?_⟩
    rw [valV_off]
    by_cases c : z ∈ y.p.off
    · have cc : y.p.off.contains z = true := List.contains_iff_mem.mpr c
      rw [if_pos c]
      refine if_true_of rfl ?_
      refine ⟨_, rfl, y.o, rfl, .inl ⟨_, .inl p4⟩, _, rfl, _, Sum.inl z, .bl true, p4, rfl, (by rw [valV_off, if_pos c]), ?_⟩
      rw [drop_off]
      refine ⟨(by show 1 ≤ sizeLine; decide), fun p np => fin _ 0 p ?_ np⟩
      rw [if_pos cc, if_neg]
      intro q
      have := (List.mem_filter.mp (List.contains_iff_mem.mp q)).2
      simp at this
    · have cc : ¬ y.p.off.contains z = true := fun q => c (List.contains_iff_mem.mp q)
      rw [if_neg c]
      refine if_false_of rfl ?_
      have hnd := hwp.nd
      have hlen : y.p.off.length ≤ 1000 := Nat.le_trans (nodup_le 102 y.p.off hnd fun x hx => by have := hwp.off x hx; omega) (by decide)
      refine ⟨_, rfl, _, rfl, y.o, _, rfl, DPut.k (k := Sum.inl z) p4 (by rw [offK, List.length_map]; exact Nat.lt_of_le_of_lt hlen (by decide)), ?_⟩
      rw [put_off c]
      refine ⟨(by show 1 ≤ sizeLine; decide), fun p np => fin _ 1 p ?_ np⟩
      rw [if_neg cc, if_pos]
      exact List.contains_iff_mem.mpr (List.mem_append_right _ (List.mem_cons_self ..))
end
end Fb
namespace Fb
open PySem PySem.Spec PyProof.Rows L2
abbrev sBusy : Stmt := inClass sDia 6
abbrev sDrop : Stmt := inClass sDia 7
abbrev sSure : Stmt := inClass sDia 8
theorem DAt.modEnt {C : Cs} {H H' : Hp} {d lp de : Addr} {ps : List PR} {es es' : List ER} {s : Cl04.State} {n : Nat} (h : DAt C H d lp de ps es s) (nDP : C.D ≠ C.P) (nPE : C.P ≠ C.E)
    (hd : ∃ dx, H' d = some (.ins C.D dx (dF lp de n))) (he : H' de = some (.dK (entK es'))) (hk : ∀ b o, H b = some o → b ≠ d → b ≠ de → ¬ b ∈ es.map (·.1) → H' b = some o)
    (ha : ∀ y ∈ es', ∃ dx, H' y.1 = some (.ins C.E dx (eF y.2))) (hn : (es'.map (·.1)).Nodup) : DAt C H' d lp de ps es' { s with busy := es'.map (·.2), next := n } := by
  obtain ⟨dx, hd0⟩ := h.ins
  have out : ∀ {b : Addr} {o : HO}, H b = some o → (∀ dd fs, o ≠ .ins C.E dd fs) → ¬ b ∈ es.map (·.1) := fun {b o} e ho m => by
    obtain ⟨y, hy, rfl⟩ := List.mem_map.mp m
    obtain ⟨dy, q⟩ := h.enA y hy
    rw [q] at e
    exact ho _ _ (Option.some.inj e).symm
  have ts : TS1 H H' := fun t xs e => hk t _ e (ne_of e hd0 (by intro z; cases z)) (ne_of e h.ent (by intro z; cases z)) (out e fun _ _ q => by cases q)
  refine { ins := hd, ppl := hk _ _ h.ppl (ne_of h.ppl hd0 (by intro z; cases z)) (ne_of h.ppl h.ent (by intro z; cases z)) (out h.ppl fun _ _ q => by cases q), ent := he, per := fun y hy => ?_, enA := ha, sp := h.sp, sb := rfl, ndW := h.ndW, ndO := h.ndO, ndE := hn, lpW := h.lpW, deO := h.deO }
  obtain ⟨⟨dy, p1⟩, ⟨ws, p2, p3⟩, p4⟩ := h.per y hy
  refine ⟨⟨dy, hk _ _ p1 (ne_of p1 hd0 fun z => ?_) (ne_of p1 h.ent (by intro z; cases z)) (out p1 fun _ _ q => ?_)⟩, ⟨ws, hk _ _ p2 (ne_of p2 hd0 (by intro z; cases z)) (ne_of p2 h.ent (by intro z; cases z)) (out p2 fun _ _ q => by cases q), p3.mono ts⟩,
    hk _ _ p4 (ne_of p4 hd0 (by intro z; cases z)) (fun e => h.deO (e ▸ List.mem_map.mpr ⟨y, hy, rfl⟩)) (out p4 fun _ _ q => by cases q)⟩
  · injection z with z1
    exact nDP z1.symm
  · injection q with q1
    exact nPE q1
theorem ent_val (k : Nat) : ∀ es : List ER, valV (entK es) (Sum.inl (k : Int)) = (es.find? fun y => y.2.id == k).map fun y => V.ref y.1
  | [] => rfl
  | y :: es => by
    by_cases e : y.2.id = k
    · rw [List.find?_cons_of_pos (by rw [beq_iff_eq]; exact e)]
      exact valV_pos (p := (Sum.inl (y.2.id : Int), V.ref y.1)) (by rw [e])
    · rw [List.find?_cons_of_neg (by rw [beq_iff_eq]; exact e), ← ent_val k es]
      exact valV_neg (p := (Sum.inl (y.2.id : Int), V.ref y.1)) fun q => e (by have := Sum.inl.inj q; omega)
theorem ent_busy (k : Nat) : ∀ es : List ER, (es.map (·.2)).find? (fun x => x.id == k) = (es.find? fun y => y.2.id == k).map (·.2) := fun es => by
  rw [List.find?_map]
  rfl
theorem ent_drop (k : Nat) (es : List ER) : dropK (entK es) (Sum.inl (k : Int)) = entK (es.filter fun y => y.2.id != k) := by
  unfold dropK entK
  rw [List.filter_map]
  refine congrArg _ (List.filter_congr fun x _ => ?_)
  show decide ((Sum.inl (x.2.id : Int) : Key) ≠ Sum.inl (k : Int)) = (x.2.id != k)
  rw [Bool.eq_iff_iff, decide_eq_true_eq, bne_iff_ne]
  exact ⟨fun h e => h (by rw [e]), fun h e => h (by have := Sum.inl.inj e; omega)⟩
theorem in_foot_e {d lp de : Addr} {ps : List PR} {es : List ER} {y : ER} (h : y ∈ es) : y.1 ∈ foot d lp de ps es := by
  unfold foot
  simp only [List.mem_cons, List.mem_append]
  exact .inr (.inr (.inr (.inr (.inr (List.mem_map.mpr ⟨y, h, rfl⟩)))))
theorem foot_es {d lp de : Addr} {ps : List PR} {es es' : List ER} {H : Hp} (h : ∀ a ∈ es'.map (·.1), a ∈ es.map (·.1) ∨ H a = none) : ∀ x ∈ foot d lp de ps es', x ∈ foot d lp de ps es ∨ H x = none := fun x hx => by
  unfold foot at hx ⊢
  simp only [List.mem_cons, List.mem_append] at hx ⊢
  rcases hx with hx | hx | hx | hx | hx | hx
  · exact .inl (.inl hx)
  · exact .inl (.inr (.inl hx))
  · exact .inl (.inr (.inr (.inl hx)))
  · exact .inl (.inr (.inr (.inr (.inl hx))))
  · exact .inl (.inr (.inr (.inr (.inr (.inl hx)))))
  · rcases h x hx with q | q
    · exact .inl (.inr (.inr (.inr (.inr (.inr q)))))
    · exact .inr q
theorem foot_d {d lp de : Addr} {ps : List PR} {es : List ER} : d ∈ foot d lp de ps es := List.mem_cons_self ..
theorem foot_de {d lp de : Addr} {ps : List PR} {es : List ER} : de ∈ foot d lp de ps es := List.mem_cons_of_mem _ (List.mem_cons_of_mem _ (List.mem_cons_self ..))
theorem ent_ids (es : List ER) : (entK es).map (·.1) = (es.map (·.2)).map fun x => (Sum.inl (x.id : Int) : Key) := by
  unfold entK
  rw [List.map_map, List.map_map]
  rfl
theorem ent_nd {es : List ER} (h : ((es.map (·.2)).map (·.id)).Nodup) : ((entK es).map (·.1)).Nodup := by
  rw [ent_ids]
  have e : ((es.map (·.2)).map fun x => (Sum.inl (x.id : Int) : Key)) = ((es.map (·.2)).map (·.id)).map fun (n : Nat) => (Sum.inl (n : Int) : Key) := by
    rw [List.map_map (l := es.map (·.2))]
    rfl
  rw [e]
  refine List.Pairwise.map _ (fun a b hab q => hab ?_) h
  have := Sum.inl.inj q
  omega
section
variable {P : Program} {w : World} {K : PySem.W.Frag} {mg : Str → Option Value} {base : Heap}
def spDrop (C : Cs) : Sp := fun vs H Q _ => ∃ (d : Addr) (F : List Addr) (s : Cl04.State) (i : Nat), vs = [.ref d, .int i] ∧ DA C H d F s ∧ WF s ∧ Ret C H d F Q (Cl04.step s (.drop i))
theorem scDrop : FnScope ["self", "item"] ["self", "item"] (defScope sDrop) := ⟨rfl, rfl, rfl, by decide +kernel, rfl, by decide +kernel, by decide +kernel⟩
theorem any_find {es : List ER} {i : Nat} : (es.map (·.2)).any (fun (x : Cl04.Busy) => x.id == i) = (es.find? fun y => y.2.id == i).isSome := by
  rw [List.any_map, Bool.eq_iff_iff, List.any_eq_true, List.find?_isSome]
  rfl
theorem ok_drop {f : Addr} {C : Cs} {fd : FuncData} (F : Fun K "drop" "Diary.drop" sDrop f fd) (T : TxtD K mg C) (TC : TxtC mg) : FnOk P w K mg base CX0 1 f fd ["self", "item"] (spDrop C) := by
  refine F.ok scDrop (fun vs H Q E h => ?_) (fun cdv A outer s H vs Q E hr h => ?_)
  · obtain ⟨d, F, s, i, rfl, _⟩ := h
    rfl
  · obtain ⟨d, F, st, i, rfl, hDA, hwf, k⟩ := h
    obtain ⟨t1, e1⟩ := T.notBusy
    have hu := hu_of hr
    refine ⟨_, pss_cons (ps_if (pt_cmp (pc_dnotin hu (pv 1) (pe_fld (pv 0) rfl))) (pss_one (ps_ret (pe_lst (pa_cons (pe_glob (v := .int (-4)) rfl e1 ⟨_, rfl⟩) pa_nil)))) pss_nil)
      (pss_cons (ps_expr (pe_dpop1 (pe_fld (pv 0) rfl) (pv 1) ⟨rfl, rfl, rfl, rfl⟩))
      (pss_one (ps_ret (pe_lst (pa_cons (pe_callB call_lenD (by rfl) TC.len PySem.boot_len (pa_cons (pe_fld (pv 0) rfl) pa_nil)) pa_nil))))), ?_⟩
    have hcopy := hDA
    obtain ⟨lp, de, ps, es, h, rfl⟩ := hDA
    obtain ⟨dx, hd⟩ := h.ins
    refine ⟨_, rfl, _, rfl, d, C.D, dx, _, _, rfl, hd, T.clD, T.dE, dF_entries _ _ _, de, _, rfl, DGet.k (k := Sum.inl (i : Int)) h.ent, _, rfl, ?_⟩
    rw [ent_val]
    have es0 : Cl04.step st (.drop i) = if (es.find? fun y => y.2.id == i).isSome = false then (st, [-4]) else ({ st with busy := st.busy.filter fun (x : Cl04.Busy) => x.id != i }, [(st.busy.length : Int) - 1]) := by
      show (if st.busy.any (fun (x : Cl04.Busy) => x.id == i) = false then _ else _) = _
      rw [h.sb, any_find]
    rw [es0] at k
    cases hf : es.find? fun y => y.2.id == i with
    | none =>
      refine if_true_of rfl ?_
      refine ⟨(by show 1 ≤ sizeLine; decide), fun p np => k.just (l := [-4]) hcopy (Same.refl H) p np ?_⟩
      rw [hf]
      rfl
    | some y =>
      refine if_false_of rfl ?_
      rw [hf, if_neg (show ¬ (some y).isSome = false from fun q => Bool.noConfusion q)] at k
      have nde : d ≠ de := ne_of hd h.ent (by intro z; cases z)
      refine ⟨_, rfl, d, C.D, dx, _, _, rfl, hd, T.clD, T.dE, dF_entries _ _ _, de, rfl, .inl ⟨_, .inl h.ent⟩, _, rfl, _, Sum.inl (i : Int), .ref y.1, h.ent, rfl, (by rw [ent_val, hf]; rfl), ?_⟩
      refine ⟨_, rfl, d, C.D, dx, _, _, rfl, (upd_ne nde).trans hd, T.clD, T.dE, dF_entries _ _ _, de, _, rfl, upd_same, (by show 1 ≤ sizeLine; decide), fun p np => ?_⟩
      have hnd : ((entK es).map (·.1)).Nodup := ent_nd (by rw [← h.sb]; exact hwf.ids)
      have hmem : (Sum.inl (i : Int) : Key) ∈ (entK es).map (·.1) := valV_in (v := .ref y.1) (by rw [ent_val, hf]; rfl)
      have hlen := dropK_len hnd hmem
      have eb : (es.filter fun y => y.2.id != i).map (·.2) = st.busy.filter fun (x : Cl04.Busy) => x.id != i := by
        rw [h.sb, List.filter_map]
        rfl
      have sub : List.Sublist ((es.filter fun y => y.2.id != i).map (·.1)) (es.map (·.1)) := List.Sublist.map _ List.filter_sublist
      have hA : DAt C (upd H de (.dK (dropK (entK es) (Sum.inl (i : Int))))) d lp de ps (es.filter fun y => y.2.id != i) { st with busy := (es.filter fun y => y.2.id != i).map (·.2), next := st.next } :=
        h.modEnt T.nDP T.nPE ⟨dx, (upd_ne nde).trans hd⟩ (by rw [upd_same, ent_drop]) (fun b o e _ n2 _ => (upd_ne n2).trans e) (fun z hz => by
          obtain ⟨dz, q⟩ := h.enA z (List.mem_filter.mp hz).1
          exact ⟨dz, (upd_ne (ne_of q h.ent (by intro z; cases z))).trans q⟩) (h.ndE.sublist sub)
      have npe : de ≠ p := ne_of_none upd_same np
      have npH : H p = none := by
        rw [upd_ne npe.symm] at np
        exact np
      rw [eb] at hA
      refine k _ (foot d lp de ps (es.filter fun y => y.2.id != i)) p ⟨lp, de, _, _, hA.same (same_new np), rfl⟩ (foot_es fun a ha => .inl (sub.subset ha)) (fun b o e hb => ?_) npH ?_
      · have nbe : b ≠ de := fun q => hb (q ▸ foot_de)
        rw [upd_ne (ne_of_none e npH), upd_ne nbe]
        exact e
      · rw [upd_same]
        refine congrArg (fun q => some (HO.lst [V.int q])) ?_
        have e2 : (entK es).length = st.busy.length := by rw [h.sb, entK, List.length_map, List.length_map]
        show ((dropK (entK es) (Sum.inl (i : Int))).length : Int) = (st.busy.length : Int) - 1
        omega
def spSure (C : Cs) : Sp := fun vs H Q _ => ∃ (d : Addr) (F : List Addr) (s : Cl04.State) (i : Nat), vs = [.ref d, .int i] ∧ DA C H d F s ∧ WF s ∧ Ret C H d F Q (Cl04.step s (.sure i))
theorem scSure : FnScope ["self", "item", "entry"] ["self", "item"] (defScope sSure) := ⟨rfl, rfl, rfl, by decide +kernel, rfl, by decide +kernel, by decide +kernel⟩
theorem nd_of_map {α β : Type} {f : α → β} : ∀ {l : List α}, (l.map f).Nodup → ∀ {x y : α}, x ∈ l → y ∈ l → f x = f y → x = y
  | [], _, _, _, h, _, _ => by cases h
  | a :: l, h, x, y, hx, hy, e => by
    obtain ⟨h1, h2⟩ := List.nodup_cons.mp (show (f a :: l.map f).Nodup from h)
    rcases List.mem_cons.mp hx with ex | hx <;> rcases List.mem_cons.mp hy with ey | hy
    · rw [ex, ey]
    · exact absurd (List.mem_map.mpr ⟨y, hy, by rw [← e, ex]⟩) h1
    · exact absurd (List.mem_map.mpr ⟨x, hx, by rw [e, ey]⟩) h1
    · exact nd_of_map h2 hx hy e
theorem ok_sure {f : Addr} {C : Cs} {fd : FuncData} (F : Fun K "sure" "Diary.sure" sSure f fd) (T : TxtD K mg C) (TC : TxtC mg) : FnOk P w K mg base CX0 1 f fd ["self", "item"] (spSure C) := by
  refine F.ok scSure (fun vs H Q E h => ?_) (fun cdv A outer s H vs Q E hr h => ?_)
  · obtain ⟨d, F, s, i, rfl, _⟩ := h
    rfl
  · obtain ⟨d, F, st, i, rfl, hDA, hwf, k⟩ := h
    obtain ⟨t1, e1⟩ := T.notBusy
    have hu := hu_of hr
    refine ⟨_, pss_cons (ps_if (pt_cmp (pc_dnotin hu (pv 1) (pe_fld (pv 0) rfl))) (pss_one (ps_ret (pe_lst (pa_cons (pe_glob (v := .int (-4)) rfl e1 ⟨_, rfl⟩) pa_nil)))) pss_nil)
      (pss_cons (ps_set (i := 2) scSure.nd rfl (Or.inl rfl) (pe_dget hu (pe_fld (pv 0) rfl) (pv 1) (fun _ _ => rfl)))
      (pss_cons (ps_fld (pv 2) (pe_not (pe_fld (pv 2) rfl)) rfl)
      (pss_one (ps_ret (pe_lst (pa_cons (pe_ifExp (pt_val (pe_fld (pv 2) rfl)) pe_int pe_int) pa_nil)))))), ?_⟩
    have hcopy := hDA
    obtain ⟨lp, de, ps, es, h, rfl⟩ := hDA
    obtain ⟨dx, hd⟩ := h.ins
    refine ⟨_, rfl, _, rfl, d, C.D, dx, _, _, rfl, hd, T.clD, T.dE, dF_entries _ _ _, de, _, rfl, DGet.k (k := Sum.inl (i : Int)) h.ent, _, rfl, ?_⟩
    rw [ent_val]
    have hfe : st.busy.find? (fun (x : Cl04.Busy) => x.id == i) = (es.find? fun y => y.2.id == i).map (·.2) := by
      rw [h.sb, ent_busy]
    cases hf : es.find? fun y => y.2.id == i with
    | none =>
      rw [hf] at hfe
      have es0 : Cl04.step st (.sure i) = (st, [-4]) := by
        show (match st.busy.find? fun (x : Cl04.Busy) => x.id == i with
          | none => _
          | some x => _) = _
        rw [hfe]
        rfl
      refine if_true_of rfl ?_
      exact ⟨(by show 1 ≤ sizeLine; decide), fun p np => k.just (l := [-4]) hcopy (Same.refl H) p np es0⟩
    | some y =>
      rw [hf] at hfe
      have es0 : Cl04.step st (.sure i) = ({ st with busy := st.busy.map fun (y : Cl04.Busy) => if y.id = i then { y with sure := !y.sure } else y }, [if y.2.sure = true then 0 else 1]) := by
        show (match st.busy.find? fun (x : Cl04.Busy) => x.id == i with
          | none => _
          | some x => _) = _
        rw [hfe]
        rfl
      rw [es0] at k
      refine if_false_of rfl ?_
      have ym : y ∈ es := List.mem_of_find?_eq_some hf
      have yi : y.2.id = i := by
        have := List.find?_some hf
        rw [beq_iff_eq] at this
        exact this
      obtain ⟨dy, hy⟩ := h.enA y ym
      have dg : DGet H de (.int (i : Int)) (some (.ref y.1)) := by
        have q := DGet.k (k := Sum.inl (i : Int)) h.ent
        rw [ent_val, hf] at q
        exact q
      refine ⟨_, rfl, d, C.D, dx, _, _, rfl, hd, T.clD, T.dE, dF_entries _ _ _, _, rfl, de, _, rfl, dg, ?_⟩
      refine ⟨_, rfl, y.1, C.E, dy, _, _, rfl, hy, T.clE, T.eS, eF_sure _, _, rfl, _, rfl, y.1, C.E, dy, _, rfl, hy, T.clE, T.eS, (by show 4 < 1000; decide), ?_⟩
      rw [eF_put]
      refine ⟨_, rfl, y.1, C.E, dy, _, _, rfl, upd_same, T.clE, T.eS, eF_sure _, _, rfl, ?_⟩
      have nyd : d ≠ y.1 := ne_of hd hy fun q => by
        injection q with q1
        exact T.nDE q1
      have nye : de ≠ y.1 := ne_of h.ent hy (by intro z; cases z)
      have hids : (es.map fun z => z.2.id).Nodup := by
        have := hwf.ids
        rw [h.sb, List.map_map] at this
        exact this
      have hA : DAt C (upd H y.1 (.ins C.E dy (eF { y.2 with sure := !y.2.sure }))) d lp de ps (es.map fun z => if z.2.id = i then (z.1, { z.2 with sure := !z.2.sure }) else z) { st with busy := (es.map fun z : ER => if z.2.id = i then (z.1, { z.2 with sure := !z.2.sure }) else z).map (·.2), next := st.next } := by
        have e1 : (es.map fun z : ER => if z.2.id = i then ((z.1, { z.2 with sure := !z.2.sure }) : ER) else z).map (·.1) = es.map (·.1) := by
          rw [List.map_map]
          refine List.map_congr_left fun z _ => ?_
          show (if z.2.id = i then ((z.1, { z.2 with sure := !z.2.sure }) : ER) else z).1 = z.1
          split <;> rfl
        have e2 : entK (es.map fun z : ER => if z.2.id = i then ((z.1, { z.2 with sure := !z.2.sure }) : ER) else z) = entK es := by
          unfold entK
          rw [List.map_map]
          refine List.map_congr_left fun z _ => ?_
          show (Sum.inl ((if z.2.id = i then ((z.1, { z.2 with sure := !z.2.sure }) : ER) else z).2.id : Int), V.ref (if z.2.id = i then ((z.1, { z.2 with sure := !z.2.sure }) : ER) else z).1) = _
          split <;> rfl
        refine h.modEnt T.nDP T.nPE ⟨dx, (upd_ne nyd).trans hd⟩ (by rw [upd_ne nye, e2]; exact h.ent) (fun b o e _ _ n3 => ?_) (fun z hz => ?_) (by rw [e1]; exact h.ndE)
        · have nb : b ≠ y.1 := fun q => n3 (q ▸ List.mem_map.mpr ⟨y, ym, rfl⟩)
          exact (upd_ne nb).trans e
        · obtain ⟨z0, hz0, rfl⟩ := List.mem_map.mp hz
          by_cases c : z0.2.id = i
          · rw [if_pos c]
            have e : z0 = y := nd_of_map hids hz0 ym (by show z0.2.id = y.2.id; rw [c, yi])
            subst e
            exact ⟨dy, upd_same⟩
          · rw [if_neg c]
            obtain ⟨dz, q⟩ := h.enA z0 hz0
            have nz : z0.1 ≠ y.1 := fun e => c (by rw [nd_of_map (f := fun z : ER => z.1) h.ndE hz0 ym e]; exact yi)
            exact ⟨dz, (upd_ne nz).trans q⟩
      have eb : (es.map fun z : ER => if z.2.id = i then ((z.1, { z.2 with sure := !z.2.sure }) : ER) else z).map (·.2) = st.busy.map fun (y : Cl04.Busy) => if y.id = i then { y with sure := !y.sure } else y := by
        rw [h.sb, List.map_map, List.map_map]
        refine List.map_congr_left fun z _ => ?_
        show (if z.2.id = i then ((z.1, { z.2 with sure := !z.2.sure }) : ER) else z).2 = if z.2.id = i then { z.2 with sure := !z.2.sure } else z.2
        split <;> rfl
      have e1 : (es.map fun z : ER => if z.2.id = i then ((z.1, { z.2 with sure := !z.2.sure }) : ER) else z).map (·.1) = es.map (·.1) := by
        rw [List.map_map]
        refine List.map_congr_left fun z _ => ?_
        show (if z.2.id = i then ((z.1, { z.2 with sure := !z.2.sure }) : ER) else z).1 = z.1
        split <;> rfl
      rw [eb] at hA
      have fin : ∀ p, upd H y.1 (.ins C.E dy (eF { y.2 with sure := !y.2.sure })) p = none → Q (.ref p) (upd (upd H y.1 (.ins C.E dy (eF { y.2 with sure := !y.2.sure }))) p (.lst [.int (if y.2.sure = true then 0 else 1)])) := fun p np => by
        have npy : p ≠ y.1 := fun q => by
          rw [q, upd_same] at np
          cases np
        have npH : H p = none := by
          rw [upd_ne npy] at np
          exact np
        refine k _ _ p ⟨lp, de, _, _, hA.same (same_new np), rfl⟩ (foot_es fun a ha => .inl (e1 ▸ ha)) (fun b o e hb => ?_) npH upd_same
        have nb : b ≠ y.1 := fun q => hb (q ▸ in_foot_e ym)
        rw [upd_ne (ne_of_none e npH), upd_ne nb]
        exact e
      cases hs : y.2.sure with
      | true =>
        rw [hs] at fin
        refine if_false_of rfl ?_
        exact ⟨(by show 1 ≤ sizeLine; decide), fin⟩
      | false =>
        rw [hs] at fin
        refine if_true_of rfl ?_
        exact ⟨(by show 1 ≤ sizeLine; decide), fin⟩
end
end Fb
namespace Fb
open PySem PySem.Spec PyProof.Rows L2
section
variable {P : Program} {w : World} {K : PySem.W.Frag} {mg : Str → Option Value} {base : Heap}
def spBusy (C : Cs) : Sp := fun vs H Q _ => ∃ (d : Addr) (F : List Addr) (s : Cl04.State) (i a b v : Nat), vs = [.ref d, .int i, .int a, .int b, .int v] ∧ DA C H d F s ∧ WF s ∧ Ret C H d F Q (Cl04.step s (.busy i a b v))
theorem scBusy : FnScope ["self", "person", "begin", "end", "sort", "refusal", "number"] ["self", "person", "begin", "end", "sort"] (defScope sBusy) := ⟨rfl, rfl, rfl, by decide +kernel, rfl, by decide +kernel, by decide +kernel⟩
theorem ok_busy {f : Addr} {C : Cs} {fd : FuncData} (F : Fun K "busy" "Diary.busy" sBusy f fd) (T : TxtD K mg C) (TC : TxtC mg) (GR : GRef P w K mg base C)
    (GI : GFun P w K mg base "is_stretch" ["a", "b"] 1 spIs) (GE : GMake P w K mg base C.E "Entry" ["self", "whose", "begin", "end", "for_sure"] 1 (spEInit C)) : FnOk P w K mg base CX0 3 f fd ["self", "person", "begin", "end", "sort"] (spBusy C) := by
  refine F.ok scBusy (fun vs H Q E h => ?_) (fun cdv A outer s H vs Q E hr h => ?_)
  · obtain ⟨d, F, s, i, a, b, v, rfl, _⟩ := h
    rfl
  · obtain ⟨d, F, st, i, a, b, v, rfl, hDA0, hwf, k0⟩ := h
    obtain ⟨fk, fdk, GR, mR, bR⟩ := GR
    obtain ⟨fi, fdi, GI, mgi, kpi, bi⟩ := GI
    obtain ⟨fm, fdm, GE, mk, mgm, bm⟩ := GE
    obtain ⟨t3, e3⟩ := T.busyMost
    obtain ⟨t4, e4⟩ := T.full
    have hr1 : Room 1 _ := hr.mono (by decide)
    have hu := hu_of hr
    refine ⟨_, pss_cons (ps_set (i := 5) scBusy.nd rfl (Or.inl rfl) (pe_meth (pv 0) T.clD mR GR hr bR .nil pass0 (pa_cons (pe_lst (pa_cons (pv 1) pa_nil)) (pa_cons
          (pe_and (pe_call GI hr1 rfl mgi kpi bi .nil pass0 (pa_cons (pv 2) (pa_cons (pv 3) pa_nil))) (pe_one (pe_or (pe_cmpR op_eq (pv 4) pe_int (nomark _)) (pe_one (pe_cmpR op_eq (pv 4) pe_int (nomark _)))))) pa_nil))))
      (pss_cons (ps_if (pt_cmpR op_lt (pv 5) pe_int (nomark _)) (pss_one (ps_ret (pe_lst (pa_cons (pv 5) pa_nil)))) pss_nil)
      (pss_cons (ps_if (pt_cmpR op_eq (pe_callB call_lenD (by rfl) TC.len PySem.boot_len (pa_cons (pe_fld (pv 0) rfl) pa_nil)) (pe_glob (v := .int 50) rfl e3 ⟨_, rfl⟩) (nomark _)) (pss_one (ps_ret (pe_lst (pa_cons (pe_glob (v := .int (-5)) rfl e4 ⟨_, rfl⟩) pa_nil)))) pss_nil)
      (pss_cons (ps_set (i := 6) scBusy.nd rfl (Or.inl rfl) (pe_fld (pv 0) rfl))
      (pss_cons (ps_dput hu (pe_fld (pv 0) rfl) (pv 6) (pe_make mk GE hr rfl mgm bm .nil pass0 (pa_cons (pv 1) (pa_cons (pv 2) (pa_cons (pv 3) (pa_cons (pe_cmpR op_eq (pv 4) pe_int (nomark _)) pa_nil))))) rfl)
      (pss_cons (ps_fld (pv 0) (pe_op op_add (pv 6) pe_int) rfl)
      (pss_one (ps_ret (pe_lst (pa_cons (pv 6) pa_nil))))))))), ?_⟩
    obtain ⟨lp, de, ps, es, h0, rfl⟩ := id hDA0
    obtain ⟨dx, hd0⟩ := h0.ins
    refine ⟨_, rfl, d, dx, _, rfl, hd0, dF_no _ _ _ (by decide +kernel) (by decide +kernel) (by decide +kernel), _, rfl, (by show 1 ≤ sizeLine; decide), fun p0 np0 => ?_⟩
    refine Vv.and (fun Q kQ => ⟨_, rfl, _, rfl, (a : Int), (b : Int), rfl, kQ⟩) (fun _ => Vv.or (Vv.eqI (.var rfl) .con) fun _ => Vv.eqI (.var rfl) .con) _ ?_
    have s0 : Same H (upd H p0 (.lst [.int i])) := same_new np0
    have hcopy := hDA0.same s0
    have k := k0.mono s0
    have h := h0.same s0
    refine ⟨d, p0, _, st, [i], _, rfl, hcopy, SqL.of upd_same, (by show 1 ≤ 10; decide), ?_⟩
    generalize upd H p0 (.lst [.int i]) = H at hcopy k h
    generalize hb : (decide ((a : Int) < (b : Int) ∧ (b : Int) ≤ 144000) && (decide ((v : Int) = 0) || decide ((v : Int) = 1))) = fits
    have hfit : fits = true ↔ ¬ (144000 < b ∨ (b ≤ a ∨ 1 < v)) := by
      rw [← hb]
      simp only [Bool.and_eq_true, Bool.or_eq_true, decide_eq_true_eq]
      omega
    obtain ⟨dx, hd⟩ := h.ins
    rw [ref_one]
    refine ⟨_, rfl, _, _, rfl, rfl, _, rfl, ?_⟩
    by_cases c0 : st.people.length ≤ i
    · rw [if_pos c0]
      refine if_true_of rfl ?_
      refine ⟨_, rfl, (by show 1 ≤ sizeLine; decide), fun p np => k.just (l := [-3]) hcopy (Same.refl H) p np ?_⟩
      show (if st.people.length ≤ i then _ else _) = _
      rw [if_pos c0]
    rw [if_neg c0]
    have es0 : Cl04.step st (.busy i a b v) = if 144000 < b ∨ (b ≤ a ∨ 1 < v) then (st, [-1]) else if 50 ≤ st.busy.length then (st, [-5]) else ({ st with busy := st.busy ++ [⟨st.next, i, a, b, v == 1⟩], next := st.next + 1 }, [(st.next : Int)]) := by
      show (if st.people.length ≤ i then _ else _) = _
      rw [if_neg c0]
      rfl
    rw [es0] at k
    cases fits with
    | false =>
      refine if_true_of rfl ?_
      refine ⟨_, rfl, (by show 1 ≤ sizeLine; decide), fun p np => k.just (l := [-1]) hcopy (Same.refl H) p np ?_⟩
      by_cases c : 144000 < b ∨ (b ≤ a ∨ 1 < v)
      · rw [if_pos c]
      · exact absurd (hfit.mpr c) Bool.false_ne_true
    | true =>
    have cf := hfit.mp rfl
    refine if_false_of rfl ?_
    rw [if_neg cf] at k
    have hlen : (entK es).length = st.busy.length := by rw [h.sb, entK, List.length_map, List.length_map]
    have nb := hwf.nb
    refine ⟨_, rfl, d, C.D, dx, _, _, rfl, hd, T.clD, T.dE, dF_entries _ _ _, de, _, rfl, h.ent, rfl, _, rfl, ?_⟩
    by_cases c3 : st.busy.length = 50
    · refine if_true_of (decide_eq_true (by rw [hlen, c3]; rfl)) ?_
      refine ⟨(by show 1 ≤ sizeLine; decide), fun p np => k.just (l := [-5]) hcopy (Same.refl H) p np ?_⟩
      rw [if_pos (by omega)]
    refine if_false_of (decide_eq_false fun q => c3 (by have := V.int.inj q; omega)) ?_
    rw [if_neg (by omega)] at k
    refine ⟨_, rfl, d, C.D, dx, _, _, rfl, hd, T.clD, T.dN, dF_next _ _ _, ?_⟩
    refine ⟨_, rfl, _, rfl, _, rfl, _, rfl, rfl, ?_⟩
    have ev : decide (V.int (v : Int) = V.int 1) = (v == 1) := by
      rw [Bool.eq_iff_iff, decide_eq_true_eq, beq_iff_eq]
      exact ⟨fun q => by have := V.int.inj q; omega, fun q => by rw [q]; rfl⟩
    rw [ev]
    intro x dy nx ndy nxy
    refine ⟨x, dy, i, a, b, v == 1, rfl, upd_same, fun H1 hP hB => ⟨rfl, ?_⟩⟩
    have s1 : Same H H1 := Same.made nx ndy hB
    have h1 := h.same s1
    have hP := hP st.next
    have xn : valV (entK es) (Sum.inl (st.next : Int)) = none := by
      rw [ent_val]
      cases q : es.find? fun y => y.2.id == st.next with
      | none => rfl
      | some y =>
        exfalso
        have ym := List.mem_of_find?_eq_some q
        have yi := List.find?_some q
        rw [beq_iff_eq] at yi
        have := (hwf.bus y.2 (by rw [h.sb]; exact List.mem_map.mpr ⟨y, ym, rfl⟩)).2.2.1
        omega
    have ek : putK (entK es) (Sum.inl (st.next : Int)) (.ref x) = entK (es ++ [(x, ⟨st.next, i, a, b, v == 1⟩)]) := by
      rw [putK_new _ xn]
      unfold entK
      rw [List.map_append]
      rfl
    have nde : d ≠ de := ne_of hd h.ent (by intro z; cases z)
    have hd1 := s1 _ _ hd
    refine ⟨_, rfl, d, C.D, dx, _, _, rfl, hd1, T.clD, T.dE, dF_entries _ _ _, _, rfl, de, _, rfl, DPut.k (k := Sum.inl (st.next : Int)) h1.ent (by rw [hlen]; exact Nat.lt_of_le_of_lt nb (by decide)), ?_⟩
    rw [ek]
    refine ⟨_, rfl, _, _, rfl, rfl, _, rfl, d, C.D, dx, _, rfl, (upd_ne nde).trans hd1, T.clD, T.dN, (by show 3 < 1000; decide), ?_⟩
    rw [dF_put]
    refine ⟨_, rfl, (by show 1 ≤ sizeLine; decide), fun p np => ?_⟩
    have nxe : x ≠ de := fun q => by
      rw [q, h1.ent] at hP
      cases hP
    have nxd : x ≠ d := ne_of hP hd1 fun q => by
      injection q with q1
      exact T.nDE q1.symm
    have hA : DAt C (upd (upd H1 de (.dK (entK (es ++ [(x, ⟨st.next, i, a, b, v == 1⟩)])))) d (.ins C.D dx (dF lp de ((st.next : Int) + 1)))) d lp de ps (es ++ [(x, ⟨st.next, i, a, b, v == 1⟩)])
        { st with busy := (es ++ [((x, ⟨st.next, i, a, b, v == 1⟩) : ER)]).map (·.2), next := st.next + 1 } := by
      refine h1.modEnt T.nDP T.nPE ⟨dx, ?_⟩ ?_ (fun b' o e n1 n2 _ => ?_) (fun y hy => ?_) ?_
      · rw [upd_same]
        rfl
      · rw [upd_ne nde.symm, upd_same]
      · rw [upd_ne n1, upd_ne n2]
        exact e
      · rcases List.mem_append.mp hy with hy | hy
        · obtain ⟨dz, q⟩ := h1.enA y hy
          refine ⟨dz, ?_⟩
          rw [upd_ne (ne_of q hd1 fun z => by injection z with z1; exact T.nDE z1.symm), upd_ne (ne_of q h1.ent (by intro z; cases z))]
          exact q
        · rcases List.mem_cons.mp hy with rfl | hy
          · refine ⟨dy, ?_⟩
            rw [upd_ne nxd, upd_ne nxe]
            exact hP
          · cases hy
      · rw [List.map_append]
        refine nd_snoc1 h.ndE fun m => ?_
        obtain ⟨y, hy, e⟩ := List.mem_map.mp m
        obtain ⟨dz, q⟩ := h.enA y hy
        rw [show y.1 = x from e, nx] at q
        cases q
    have npd : p ≠ d := fun q => by
      rw [q, upd_same] at np
      cases np
    have npe : p ≠ de := fun q => by
      rw [q, upd_ne nde.symm, upd_same] at np
      cases np
    have np1 : H1 p = none := by
      rw [upd_ne npd, upd_ne npe] at np
      exact np
    have eb : (es ++ [((x, ⟨st.next, i, a, b, v == 1⟩) : ER)]).map (·.2) = st.busy ++ [⟨st.next, i, a, b, v == 1⟩] := by
      rw [List.map_append, ← h.sb]
      rfl
    rw [eb] at hA
    refine k _ _ p ⟨lp, de, _, _, hA.same (same_new np), rfl⟩ (foot_es fun y hy => ?_) (fun b' o e hb => ?_) (s1.free np1) upd_same
    · rw [List.map_append] at hy
      rcases List.mem_append.mp hy with hy | hy
      · exact .inl hy
      · rcases List.mem_cons.mp hy with rfl | hy
        · exact .inr nx
        · cases hy
    · have n1 : b' ≠ d := fun q => hb (q ▸ foot_d)
      have n2 : b' ≠ de := fun q => hb (q ▸ foot_de)
      rw [upd_ne (ne_of_none (s1 _ _ e) np1), upd_ne n1, upd_ne n2]
      exact s1 _ _ e
end
end Fb
namespace Fb
open PySem PySem.Spec PyProof.Rows L2
abbrev sBs : Stmt := inClass sDia 9
def bsL (l : List Cl04.Busy) (i : Nat) (b : Bool) : List (Int × Int) := (l.filter fun x => x.who == i && x.sure == b).map fun x => ((x.from_ : Int), (x.to_ : Int))
theorem bsL_more {l : List Cl04.Busy} {j : Nat} {x : Cl04.Busy} {i : Nat} {b : Bool} (h : l[j]? = some x) : bsL (l.take (j + 1)) i b = bsL (l.take j) i b ++ (if x.who = i ∧ x.sure = b then [((x.from_ : Int), (x.to_ : Int))] else []) := by
  unfold bsL
  rw [take_more h, List.filter_append, List.map_append]
  refine congrArg _ ?_
  by_cases c : x.who = i ∧ x.sure = b
  · rw [if_pos c, List.filter_cons_of_pos (by rw [Bool.and_eq_true, beq_iff_eq, beq_iff_eq]; exact c)]
    rfl
  · rw [if_neg c, List.filter_cons_of_neg (by rw [Bool.and_eq_true, beq_iff_eq, beq_iff_eq]; exact c)]
    rfl
theorem bsL_le (l : List Cl04.Busy) (i : Nat) (b : Bool) : (bsL l i b).length ≤ l.length := by
  unfold bsL
  rw [List.length_map]
  exact List.length_filter_le _ _
def spBs (C : Cs) : Sp := fun vs H Q _ => ∃ (d : Addr) (F : List Addr) (s : Cl04.State) (i : Nat) (b : Bool), vs = [.ref d, .int i, .bl b] ∧ DA C H d F s ∧ WF s ∧ NewSt H Q (bsL s.busy i b)
theorem Tv.eqB {a b : TE} {σ : L2.St} {H : Hp} {x y : Bool} (h1 : Vv a σ H (.bl x)) (h2 : Vv b σ H (.bl y)) : Tv (tTest (tOp rEq a b)) σ H (decide (x = y)) := by
  refine Tv.test (Vv.op h1 h2 fun Q q => ⟨rfl, ?_⟩)
  have e : decide (V.bl x = V.bl y) = decide (x = y) := by
    rw [Bool.eq_iff_iff, decide_eq_true_eq, decide_eq_true_eq]
    exact ⟨V.bl.inj, congrArg _⟩
  rw [e]
  exact q
section
variable {P : Program} {w : World} {K : PySem.W.Frag} {mg : Str → Option Value} {base : Heap}
theorem scBs : FnScope ["self", "person", "for_sure", "e"] ["self", "person", "for_sure"] (defScope sBs) := ⟨rfl, rfl, rfl, by decide +kernel, rfl, by decide +kernel, by decide +kernel⟩
theorem ok_bs {f : Addr} {C : Cs} {fd : FuncData} (F : Fun K "busy_stretches" "Diary.busy_stretches" sBs f fd) (T : TxtD K mg C) : FnOk P w K mg base CX0 1 f fd ["self", "person", "for_sure"] (spBs C) := by
  refine F.ok scBs (fun vs H Q E h => ?_) (fun cdv A outer s H vs Q E hr h => ?_)
  · obtain ⟨d, F, s, i, b, rfl, _⟩ := h
    rfl
  · obtain ⟨d, F, st, i, b, rfl, hDA, hwf, k⟩ := h
    refine ⟨_, pss_one (ps_ret (pe_lock (pe_lc (own := [("e", 3)]) (g := gName 3) (tt := tAnd (tTest (tOp rEq (tFld K (tVar 3) "whose") (tVar 1))) (tTest (tOp rEq (tFld K (tVar 3) "for_sure") (tVar 2)))) (te := tTup (tCons (tFld K (tVar 3) "begin") (tCons (tFld K (tVar 3) "end") tNil))) (by rfl) scBs.nd (pi_values (pe_fld (pv 0) rfl)) (blkOk_by (own := [("e", 3)]) (N := ["self", "person", "for_sure", "e"]) (sc := defScope sBs) (by decide +kernel))
        (fun _ _ _ _ _ => pg_name (i := 3) scBs.nd rfl (Or.inl rfl))
        (fun _ _ _ _ _ => pts_one (PW.pt (pw_and (pt_cmpR op_eq (pe_fld (pv 3) rfl) (pv 1) (nomark _)) (pw_and1 (pt_cmpR op_eq (pe_fld (pv 3) rfl) (pv 2) (nomark _))))))
        (fun _ _ _ _ _ => pe_tup (pa_cons (pe_fld (pv 3) rfl) (pa_cons (pe_fld (pv 3) rfl) pa_nil)))))), ?_⟩
    obtain ⟨lp, de, ps, es, h, rfl⟩ := hDA
    obtain ⟨dx, hd⟩ := h.ins
    have nb := hwf.nb
    refine ⟨de, _, h.ent, trivial, fun od => ?_⟩
    have hdl : ∀ {b' : Addr} {o : HO}, H b' = some o → b' ≠ de → upd H de (.frz od (.dK (entK es))) b' = some o := fun e n => (upd_ne n).trans e
    have nde : d ≠ de := ne_of hd h.ent (by intro z; cases z)
    refine ⟨_, rfl, d, C.D, dx, _, _, rfl, hdl hd nde, T.clD, T.dE, dF_entries _ _ _, de, od, _, rfl, upd_same, fun D nD => ?_⟩
    have nDe : D ≠ de := fun q => by
      rw [q, upd_same] at nD
      cases nD
    have nDH : H D = none := by
      rw [upd_ne nDe] at nD
      exact nD
    refine lc_it (walk_values (d := de) (o := od) (kvs := entK es)) (fun j H' => ∃ us : List V, Same (upd H de (.frz od (.dK (entK es)))) H' ∧ H' D = some (.lst us) ∧ Tups H' us (bsL (st.busy.take j) i b))
      ⟨[], same_new nD, upd_same, trivial⟩ (fun j H' _ ⟨_, s2, _⟩ => s2 _ _ upd_same) ?_ ?_
    · rintro j x H' H2 hj ⟨us, s2, hD, hu⟩ ⟨rfl, kk, hx⟩
      have hjl : j < es.length := by
        rw [entK, List.length_map] at hj
        exact hj
      have ee := List.getElem?_eq_getElem hjl
      have hb : st.busy[j]? = some es[j].2 := by
        rw [h.sb, List.getElem?_map, ee]
        rfl
      have hxv : x = .ref es[j].1 := by
        rw [entK, List.getElem?_map, ee] at hx
        exact (congrArg Prod.snd (Option.some.inj hx)).symm
      subst hxv
      have zm : es[j] ∈ es := List.getElem_mem hjl
      generalize es[j] = z at *
      obtain ⟨dz, hz⟩ := h.enA z zm
      have hz2 : H2 z.1 = some (.ins C.E dz (eF z.2)) := s2 _ _ (hdl hz (ne_of hz h.ent (by intro z; cases z)))
      have step := bsL_more (i := i) (b := b) hb
      refine ⟨rfl, ?_⟩
      have tv : Tv (tAnd (tTest (tOp rEq (tFld K (tVar 3) "whose") (tVar 1))) (tTest (tOp rEq (tFld K (tVar 3) "for_sure") (tVar 2)))) [some (.ref d), some (.int i), some (.bl b), some (.ref z.1)] H2 (decide ((z.2.who : Int) = (i : Int)) && decide (z.2.sure = b)) :=
        Tv.and (Tv.eq (fun Q kQ => ⟨_, rfl, z.1, C.E, dz, _, _, rfl, hz2, T.clE, T.eW, eF_who _, kQ⟩) (.var rfl)) fun _ => Tv.eqB (fun Q kQ => ⟨_, rfl, z.1, C.E, dz, _, _, rfl, hz2, T.clE, T.eS, eF_sure _, kQ⟩) (.var rfl)
      refine tv _ ?_
      have hlen := hu.length
      have hle := bsL_le (st.busy.take j) i b
      rw [List.length_take] at hle
      by_cases c : z.2.who = i ∧ z.2.sure = b
      · refine if_true_of (by rw [Bool.and_eq_true, decide_eq_true_eq, decide_eq_true_eq]; exact ⟨by omega, c.2⟩) ?_
        rw [if_pos c] at step
        refine ⟨_, rfl, z.1, C.E, dz, _, _, rfl, hz2, T.clE, T.eB, eF_begin _, _, rfl, z.1, C.E, dz, _, _, rfl, hz2, T.clE, T.eE, eF_end _, (by show 2 ≤ sizeLine; decide), fun q nq => ?_⟩
        have nqD : D ≠ q := ne_of_none hD nq
        refine ⟨us, (upd_ne nqD).trans hD, Nat.lt_of_le_of_lt (show us.length ≤ 50 by omega) (by decide), _, ?_, upd_same, ?_⟩
        · intro c' o' hc'
          rw [upd_ne (ne_of_none hc' nD), upd_ne (ne_of_none (s2 _ _ hc') nq)]
          exact s2 _ _ hc'
        · rw [step]
          exact (hu.mono ((TS1.new nq).trans (TS1.lst ((upd_ne nqD).trans hD)))).append (Tups.one ((upd_ne nqD.symm).trans upd_same))
      · refine if_false_of ?_ ?_
        · rw [Bool.and_eq_false_iff]
          by_cases c1 : z.2.who = i
          · exact .inr (decide_eq_false fun e => c ⟨c1, e⟩)
          · exact .inl (decide_eq_false (by omega))
        · rw [if_neg c, List.append_nil] at step
          exact ⟨us, s2, hD, by rw [step]; exact hu⟩
    · rintro H' ⟨us, s2, hD, hu⟩
      have hfe := s2 _ _ upd_same
      have e : st.busy.take (entK es).length = st.busy := List.take_of_length_le (by rw [h.sb, entK, List.length_map, List.length_map]; exact Nat.le_refl _)
      rw [e] at hu
      refine ⟨hfe, k _ D us (fun b' o e => ?_) nDH ((upd_ne nDe).trans hD) (hu.mono (TS1.put (not_tup hfe fun _ z => by cases z)))⟩
      by_cases c : b' = de
      · subst c
        rw [upd_same, ← e, h.ent]
      · rw [upd_ne c]
        exact s2 _ _ (hdl e c)
end
end Fb
namespace Fb
open PySem PySem.Spec PyProof.Rows L2
abbrev sFreeSt : Stmt := inClass sDia 10
def woAll (acc : List (Int × Int)) (l : List (Int × Int)) : List (Int × Int) := l.foldl (fun acc x => wo acc x.1 x.2) acc
theorem woAll_more {acc l : List (Int × Int)} {j : Nat} {x : Int × Int} (h : l[j]? = some x) : woAll acc (l.take (j + 1)) = wo (woAll acc (l.take j)) x.1 x.2 := by
  unfold woAll
  rw [take_more h, List.foldl_append]
  rfl
theorem woAll_ok : ∀ (l : List (Int × Int)) (acc : List (Int × Int)), (∀ x ∈ l, x.1 < x.2) → PlI acc → PlI (woAll acc l) ∧ ∀ u, HsI (woAll acc l) u ↔ HsI acc u ∧ ¬ HsI l u
  | [], acc, _, h => ⟨h, fun u => ⟨fun q => ⟨q, HsI_nil⟩, fun q => q.1⟩⟩
  | x :: l, acc, hb, h => by
    have q := wo_ok (hb x (List.mem_cons_self ..)) h
    have ih := woAll_ok l (wo acc x.1 x.2) (fun y hy => hb y (List.mem_cons_of_mem _ hy)) q.1
    refine ⟨ih.1, fun u => (ih.2 u).trans ?_⟩
    rw [q.2.1 u, HsI_cons, not_or, and_assoc]
/-- a plain row within a window is short -/
theorem PlI.short {l : List (Int × Int)} (h : PlI l) {a b : Int} (hab : a ≤ b) (hb : ∀ u, HsI l u → a ≤ u ∧ u < b) : (l.length : Int) ≤ b - a :=
  h.len (fun x hx => by
    have h0 := h.ne x hx
    have h1 := hb x.1 ⟨x, hx, Int.le_refl _, h0⟩
    have h2 := hb (x.2 - 1) ⟨x, hx, by omega, by omega⟩
    omega) hab
theorem bsL_ne {s : Cl04.State} (hs : WF s) (i : Nat) (b : Bool) : ∀ x ∈ bsL s.busy i b, 0 ≤ x.1 ∧ x.1 < x.2 ∧ x.2 ≤ 144000 := fun x hx => by
  obtain ⟨y, hy, rfl⟩ := List.mem_map.mp hx
  obtain ⟨h1, h2, _⟩ := hs.bus y (List.mem_filter.mp hy).1
  have : Cl04.END = 144000 := rfl
  exact ⟨by show (0 : Int) ≤ (y.from_ : Int); omega, by show (y.from_ : Int) < (y.to_ : Int); omega, by show (y.to_ : Int) ≤ 144000; omega⟩
theorem HsI_bs (l : List Cl04.Busy) (i : Nat) (b : Bool) (u : Int) : HsI (bsL l i b) u ↔ ∃ x ∈ l, x.who = i ∧ x.sure = b ∧ (x.from_ : Int) ≤ u ∧ u < (x.to_ : Int) := by
  unfold HsI bsL
  constructor
  · rintro ⟨z, hz, q⟩
    obtain ⟨x, hx, rfl⟩ := List.mem_map.mp hz
    rw [List.mem_filter, Bool.and_eq_true, beq_iff_eq, beq_iff_eq] at hx
    exact ⟨x, hx.1, hx.2.1, hx.2.2, q⟩
  · rintro ⟨x, hx, h1, h2, q⟩
    exact ⟨_, List.mem_map.mpr ⟨x, List.mem_filter.mpr ⟨hx, by rw [Bool.and_eq_true, beq_iff_eq, beq_iff_eq]; exact ⟨h1, h2⟩⟩, rfl⟩, q⟩
theorem HsI_bsN (s : Cl04.State) (i : Nat) (b : Bool) (u : Int) : HsI (bsL s.busy i b) u ↔ 0 ≤ u ∧ Hs (Cl04.busyOf s i b) u.toNat := by
  rw [HsI_bs, Hs_busy]
  constructor
  · rintro ⟨x, hx, h1, h2, h3, h4⟩
    exact ⟨by omega, x, hx, h1, h2, by omega, by omega⟩
  · rintro ⟨h0, x, hx, h1, h2, h3, h4⟩
    exact ⟨x, hx, h1, h2, by omega, by omega⟩
theorem wf_who {s : Cl04.State} (hs : WF s) {i : Nat} (hi : i < s.people.length) : WFp (Cl04.person s i) := by
  refine hs.per _ ?_
  unfold Cl04.person
  rw [List.getD_eq_getElem?_getD, List.getElem?_eq_getElem hi]
  exact List.getElem_mem hi
theorem freeM_is {s : Cl04.State} (hs : WF s) {i a b : Nat} (hi : i < s.people.length) (h : a < b) (hb : b ≤ Cl04.END) : woAll (worksM (Cl04.person s i) a b 102) (bsL s.busy i true) = (Cl04.within (Cl04.free s i) a b).map up := by
  have hp := wf_who hs hi
  have q := worksM_ok hp a b
  have r := woAll_ok (bsL s.busy i true) _ (fun x hx => (bsL_ne hs i true x hx).2.1) q.1
  refine row_is r.1 (within_ok (free_pl s i) h).1 fun u => (r.2 u).trans ?_
  rw [q.2 u, (within_ok (free_pl s i) h).2, Hs_free, Hs_work, HsI_bsN]
  constructor
  · rintro ⟨⟨h1, h2, h3⟩, h4⟩
    have e : u = ((u.toNat : Nat) : Int) := by omega
    exact ⟨by omega, ⟨⟨by omega, e ▸ h3⟩, fun z => h4 ⟨by omega, z⟩⟩, by omega, by omega⟩
  · rintro ⟨h0, ⟨⟨_, h3⟩, h4⟩, h1, h2⟩
    have e : u = ((u.toNat : Nat) : Int) := by omega
    exact ⟨⟨by omega, by omega, e ▸ h3⟩, fun z => h4 z.2⟩
theorem woAll_short {p : Cl04.Person} (hp : WFp p) {a b : Int} {l : List (Int × Int)} (hl : ∀ x ∈ l, x.1 < x.2) (hab : a ≤ b) (hb : b - a ≤ 144000) : (woAll (worksM p a b 102) l).length ≤ 1000000 := by
  have q := worksM_ok hp a b
  have r := woAll_ok l _ hl q.1
  have := r.1.short hab fun u hu => by
    have := (q.2 u).mp ((r.2 u).mp hu).1
    omega
  omega
section
variable {P : Program} {w : World} {K : PySem.W.Frag} {mg : Str → Option Value} {base : Heap}
def spFreeSt (C : Cs) : Sp := fun vs H Q _ => ∃ (d : Addr) (F : List Addr) (s : Cl04.State) (i a b : Nat), vs = [.ref d, .int i, .int a, .int b] ∧ DA C H d F s ∧ WF s ∧ i < s.people.length ∧ a < b ∧ b ≤ Cl04.END ∧ NewSt H Q ((Cl04.within (Cl04.free s i) a b).map up)
theorem scFreeSt : FnScope ["self", "person", "a", "b", "found", "begin", "end"] ["self", "person", "a", "b"] (defScope sFreeSt) := ⟨rfl, rfl, rfl, by decide +kernel, rfl, by decide +kernel, by decide +kernel⟩
theorem ok_freeSt {f : Addr} {C : Cs} {fd : FuncData} (F : Fun K "free_stretches" "Diary.free_stretches" sFreeSt f fd) (T : TxtD K mg C) (GB : GMeth P w K mg base C.D "busy_stretches" ["self", "person", "for_sure"] 1 (spBs C))
    (GW : GMeth P w K mg base C.P "works" ["self", "a", "b"] 2 (spWorks C.P)) (GO : GFun P w K mg base "without" ["stretches", "begin", "end"] 1 (spWo K)) : FnOk P w K mg base CX0 3 f fd ["self", "person", "a", "b"] (spFreeSt C) := by
  refine F.ok scFreeSt (fun vs H Q E h => ?_) (fun cdv A outer s H vs Q E hr h => ?_)
  · obtain ⟨d, F, s, i, a, b, rfl, _⟩ := h
    rfl
  · obtain ⟨d, F, st, i, a, b, rfl, hDA, hwf, hi, hab, hbE, k⟩ := h
    obtain ⟨fb, fdb, GB, mB, bB⟩ := GB
    obtain ⟨fw, fdw, GW, mW, bW⟩ := GW
    obtain ⟨fo, fdo, GO, mgo, kpo, bo⟩ := GO
    have hr1 : Room 1 _ := hr.mono (by decide)
    refine ⟨_, pss_cons (ps_set (i := 4) scFreeSt.nd rfl (Or.inl rfl) (pe_meth (pe_ix ix_list (pe_fld (pv 0) rfl) (pv 1) (fun _ _ => rfl)) T.per.cl mW GW hr bW .nil pass0 (pa_cons (pv 2) (pa_cons (pv 3) pa_nil))))
      (pss_cons (ps_for PassesOwn.never rfl (pi_list (pe_meth (pv 0) T.clD mB GB hr1 bB .nil pass0 (pa_cons (pv 1) (pa_cons pe_bl pa_nil)))) (pg_tup rfl (pgs_cons (pg_name (i := 5) scFreeSt.nd rfl (Or.inl rfl)) (pgs_cons (pg_name (i := 6) scFreeSt.nd rfl (Or.inl rfl)) pgs_nil)))
        (pss_one (ps_set (i := 4) scFreeSt.nd rfl (Or.inl rfl) (pe_call GO hr1 rfl mgo kpo bo .nil pass0 (pa_cons (pv 4) (pa_cons (pv 5) (pa_cons (pv 6) pa_nil)))))))
      (pss_one (ps_ret (pv 4)))), ?_⟩
    have hcopy := hDA
    obtain ⟨lp, de, ps, es, h, rfl⟩ := hDA
    obtain ⟨dx, hd⟩ := h.ins
    obtain ⟨y, hy, ym, ep, ypm, yv⟩ := h.who hi
    have hwp := hwf.per _ ypm
    have hpe := h.per y ym
    obtain ⟨⟨dy, p1⟩, _⟩ := id hpe
    rw [← freeM_is hwf hi hab hbE, ← ep] at k
    refine ⟨_, rfl, d, C.D, dx, _, _, rfl, hd, T.clD, T.dP, dF_people _ _ _, _, rfl, lp, _, _, _, rfl, rfl, SqL.of h.ppl, atI_nat yv, y.a, dy, _, rfl, p1, pF_no _ _ _ (by decide +kernel) (by decide +kernel) (by decide +kernel), _, rfl, _, rfl,
      y.a, y.w, y.o, y.p, (a : Int), (b : Int), rfl, hpe, hwp.seven, fun H1 q us s1 nq hq hu => ?_⟩
    refine ⟨_, rfl, d, dx, _, rfl, s1 _ _ hd, dF_no _ _ _ (by decide +kernel) (by decide +kernel) (by decide +kernel), _, rfl, d, _, st, i, true, rfl, hcopy.same s1, hwf, fun H2 r rs s2 nr hr2 ht => ?_⟩
    have s12 := s1.trans s2
    refine ⟨r, rfl, ⟨_, SqL.of hr2⟩, for_list (K := K) (a := r) (xs := rs) (fun j σ H' => ∃ (q : Addr) (us : List V) (v1 v2 : Option V), σ = [some (.ref d), some (.int i), some (.int a), some (.int b), some (.ref q), v1, v2] ∧ Same H2 H' ∧ H q = none ∧ H' q = some (.lst us) ∧ Tups H' us (woAll (worksM y.p a b 102) ((bsL st.busy i true).take j)))
      ⟨q, us, none, none, rfl, Same.refl _, nq, s2 _ _ hq, by rw [List.take_zero]; exact hu.mono (TS1.same s2)⟩ (fun j σ H' _ ⟨_, _, _, _, _, s3, _⟩ => SqL.of (s3 _ _ hr2)) ?_ ?_⟩
    · rintro j x σ H' hj ⟨q, us, v1, v2, rfl, s3, nq, hq, hu⟩
      obtain ⟨t, x, rfl, hx, h2⟩ := ht.get hj
      have h2' := s3 _ _ h2
      refine ⟨t, _, rfl, SqT.of h2', rfl, _, _, rfl, _, _, rfl, rfl, ?_⟩
      refine ⟨_, rfl, _, rfl, _, rfl, q, us, _, x.1, x.2, rfl, SqL.of hq, hu, woAll_short hwp (fun z hz => (bsL_ne hwf i true z (List.mem_of_mem_take hz)).2.1) (by omega) (by have : Cl04.END = 144000 := rfl; omega), fun H3 q3 us3 s4 nq3 hq3 hu3 => ?_⟩
      refine ⟨q3, us3, _, _, rfl, s3.trans s4, (s12.trans s3).free nq3, hq3, ?_⟩
      rw [woAll_more hx]
      exact hu3
    · rintro σ H' ⟨q, us, v1, v2, rfl, s3, nq, hq, hu⟩
      rw [ht.length, List.take_length] at hu
      exact ⟨_, rfl, k _ q us (s12.trans s3) nq hq hu⟩
end
end Fb
namespace Fb
open PySem PySem.Spec PyProof.Rows L2
abbrev sJoin : Stmt := top 10
abbrev sBoth : Stmt := top 11
theorem mx_is (i j : Int) : mx i j = max i j := by unfold mx; omega
theorem mn_is (i j : Int) : mn i j = min i j := by unfold mn; omega
/-! ### both -/
def bothM : List (Int × Int) → List (Int × Int) → List (Int × Int) → List (Int × Int)
  | x :: l, y :: m, acc => if x.2 < y.2 then bothM l (y :: m) (putB acc (mx x.1 y.1) (mn x.2 y.2)) else bothM (x :: l) m (putB acc (mx x.1 y.1) (mn x.2 y.2))
  | _, _, acc => acc
termination_by l m _ => l.length + m.length
theorem bothM_cons (x y : Int × Int) (l m acc : List (Int × Int)) : bothM (x :: l) (y :: m) acc = if x.2 < y.2 then bothM l (y :: m) (putB acc (mx x.1 y.1) (mn x.2 y.2)) else bothM (x :: l) m (putB acc (mx x.1 y.1) (mn x.2 y.2)) := by
  rw [bothM]
theorem bothM_nil (m acc : List (Int × Int)) : bothM [] m acc = acc := by
  cases m <;> rw [bothM] <;> intros <;> contradiction
theorem bothM_nil2 (l acc : List (Int × Int)) : bothM l [] acc = acc := by
  cases l <;> rw [bothM] <;> intros <;> contradiction
theorem bothM_ok : ∀ (n : Nat) (l m acc : List (Int × Int)), l.length + m.length ≤ n → PlI l → PlI m → PlI acc → (∀ z ∈ acc, ∀ x ∈ l, ∀ y ∈ m, z.2 ≤ max x.1 y.1) →
    PlI (bothM l m acc) ∧ ∀ u, HsI (bothM l m acc) u ↔ HsI acc u ∨ (HsI l u ∧ HsI m u)
  | n, [], m, acc, _, _, _, ha, _ => by
    rw [bothM_nil]
    exact ⟨ha, fun u => ⟨.inl, fun q => q.elim id fun q => absurd q.1 HsI_nil⟩⟩
  | n, x :: l, [], acc, _, _, _, ha, _ => by
    rw [bothM_nil2]
    exact ⟨ha, fun u => ⟨.inl, fun q => q.elim id fun q => absurd q.2 HsI_nil⟩⟩
  | 0, x :: l, y :: m, acc, hn, _, _, _, _ => by
    rw [List.length_cons] at hn
    omega
  | n + 1, x :: l, y :: m, acc, hn, hl, hm, ha, hz => by
    have hx := hl.1
    have hy := hm.1
    rw [List.length_cons, List.length_cons] at hn
    rw [bothM_cons, mx_is, mn_is]
    have hx0 := fun z h => hz z h x (List.mem_cons_self ..) y (List.mem_cons_self ..)
    obtain ⟨q1, q2, q3⟩ := putB_ok (b := max x.1 y.1) (e := min x.2 y.2) ha hx0
    have farl : ∀ u, u ≤ x.2 → ¬ HsI l u := fun u hu ⟨z, hz, q, _⟩ => by
      have := hl.2.1 z hz; omega
    have farm : ∀ u, u ≤ y.2 → ¬ HsI m u := fun u hu ⟨z, hz, q, _⟩ => by
      have := hm.2.1 z hz; omega
    by_cases c : x.2 < y.2
    · rw [if_pos c]
      have ih := bothM_ok n l (y :: m) (putB acc (max x.1 y.1) (min x.2 y.2)) (by rw [List.length_cons]; omega) hl.2.2 hm q1 (fun z hzz x' hx' y' hy' => by
        have h1 := hl.2.1 x' hx'
        refine q3 (max x'.1 y'.1) (fun z hz' => ?_) (by omega) z hzz
        have := hz z hz' x' (List.mem_cons_of_mem _ hx') y' hy'
        omega)
      refine ⟨ih.1, fun u => (ih.2 u).trans ?_⟩
      rw [q2 u, HsI_cons (x := x), HsI_cons (x := y)]
      constructor
      · rintro ((q | q) | ⟨q, r⟩)
        · exact .inl q
        · exact .inr ⟨.inl (by omega), .inl (by omega)⟩
        · exact .inr ⟨.inr q, r⟩
      · rintro (q | ⟨q | q, r | r⟩)
        · exact .inl (.inl q)
        · exact .inl (.inr (by omega))
        · exact absurd r (farm u (by omega))
        · exact .inr ⟨q, .inl r⟩
        · exact .inr ⟨q, .inr r⟩
    · rw [if_neg c]
      have ih := bothM_ok n (x :: l) m (putB acc (max x.1 y.1) (min x.2 y.2)) (by rw [List.length_cons]; omega) hl hm.2.2 q1 (fun z hzz x' hx' y' hy' => by
        have h1 := hm.2.1 y' hy'
        refine q3 (max x'.1 y'.1) (fun z hz' => ?_) (by omega) z hzz
        have := hz z hz' x' hx' y' (List.mem_cons_of_mem _ hy')
        omega)
      refine ⟨ih.1, fun u => (ih.2 u).trans ?_⟩
      rw [q2 u, HsI_cons (x := x), HsI_cons (x := y)]
      constructor
      · rintro ((q | q) | ⟨q, r⟩)
        · exact .inl q
        · exact .inr ⟨.inl (by omega), .inl (by omega)⟩
        · exact .inr ⟨q, .inr r⟩
      · rintro (q | ⟨q | q, r | r⟩)
        · exact .inl (.inl q)
        · exact .inl (.inr (by omega))
        · exact .inr ⟨.inl q, r⟩
        · exact absurd q (farl u (by omega))
        · exact .inr ⟨.inr q, r⟩
theorem both_is {l m : List Cl04.Span} (hl : Pl l) (hm : Pl m) : bothM (l.map up) (m.map up) [] = (Cl04.meet l m).map up := by
  have q := bothM_ok _ (l.map up) (m.map up) [] (Nat.le_refl _) (plI_up hl) (plI_up hm) trivial (fun z hz => by cases hz)
  have r := meet_ok l m hl hm
  refine row_is q.1 r.1 fun u => (q.2 u).trans ?_
  rw [HsI_up, HsI_up, r.2.1]
  constructor
  · rintro (z | ⟨⟨h1, h2⟩, _, h3⟩)
    · exact absurd z HsI_nil
    · exact ⟨h1, h2, h3⟩
  · rintro ⟨h1, h2, h3⟩
    exact .inr ⟨⟨h1, h2⟩, h1, h3⟩
def spBoth (K : PySem.W.Frag) : Sp := fun vs H Q _ => ∃ (a b : Addr) (ws vs' : List V) (l m : List (Int × Int)), vs = [.ref a, .ref b] ∧ SqL K H a ws ∧ SqL K H b vs' ∧ Tups H ws l ∧ Tups H vs' m ∧ l.length ≤ 400000 ∧ m.length ≤ 400000 ∧ NewSt H Q (bothM l m [])
section
variable {P : Program} {w : World} {K : PySem.W.Frag} {mg : Str → Option Value} {base : Heap}
theorem scBoth : FnScope ["one", "other", "found", "i", "j"] ["one", "other"] (defScope sBoth) := ⟨rfl, rfl, rfl, by decide +kernel, rfl, by decide +kernel, by decide +kernel⟩
theorem ok_both {f : Addr} {fd : FuncData} (F : Fun K "both" "both" sBoth f fd) (T : TxtS mg) (GP : GFun P w K mg base "put_behind" ["stretches", "begin", "end"] 1 spPut) : FnOk P w K mg base CX0 2 f fd ["one", "other"] (spBoth K) := by
  refine F.ok scBoth (fun vs H Q E h => ?_) (fun cdv A outer s H vs Q E hr h => ?_)
  · obtain ⟨a, b, ws, vs', l, m, rfl, _⟩ := h
    rfl
  · obtain ⟨a, b, ws, vs, l, m, rfl, ha, hb, hl, hm, l4, m4, k⟩ := h
    obtain ⟨fp, fdp, GP, mgp, kpp, bp⟩ := GP
    refine ⟨_, pss_cons (ps_set (i := 2) scBoth.nd rfl (Or.inl rfl) (pe_lst pa_nil))
      (pss_cons (ps_set (i := 3) scBoth.nd rfl (Or.inl rfl) pe_int)
      (pss_cons (ps_set (i := 4) scBoth.nd rfl (Or.inl rfl) pe_int)
      (pss_cons (ps_while PassesOwn.never (PW.pt (pw_and (pt_cmpR op_lt (pv 3) (pe_callB call_len_seq (by rfl) T.len PySem.boot_len (pa_cons (pv 0) pa_nil)) (nomark _))
          (pw_and1 (pt_cmpR op_lt (pv 4) (pe_callB call_len_seq (by rfl) T.len PySem.boot_len (pa_cons (pv 1) pa_nil)) (nomark _)))))
        (pss_cons (ps_expr (pe_call GP hr rfl mgp kpp bp .nil pass0 (pa_cons (pv 2)
            (pa_cons (pe_callB (call_max2 rfl) (by rfl) T.max (by decide +kernel) (pa_cons (pe_ix ix_tup (pe_ix ix_list (pv 0) (pv 3) (fun _ _ => rfl)) pe_int (fun _ _ => rfl)) (pa_cons (pe_ix ix_tup (pe_ix ix_list (pv 1) (pv 4) (fun _ _ => rfl)) pe_int (fun _ _ => rfl)) pa_nil)))
            (pa_cons (pe_callB (call_min2 rfl) (by rfl) T.min (by decide +kernel) (pa_cons (pe_ix ix_tup (pe_ix ix_list (pv 0) (pv 3) (fun _ _ => rfl)) pe_int (fun _ _ => rfl)) (pa_cons (pe_ix ix_tup (pe_ix ix_list (pv 1) (pv 4) (fun _ _ => rfl)) pe_int (fun _ _ => rfl)) pa_nil))) pa_nil)))))
        (pss_one (ps_if (pt_cmpR op_lt (pe_ix ix_tup (pe_ix ix_list (pv 0) (pv 3) (fun _ _ => rfl)) pe_int (fun _ _ => rfl)) (pe_ix ix_tup (pe_ix ix_list (pv 1) (pv 4) (fun _ _ => rfl)) pe_int (fun _ _ => rfl)) (nomark _))
          (pss_one (ps_aug (i := 3) scBoth.nd rfl (Or.inl rfl) pe_int ip_add)) (pss_one (ps_aug (i := 4) scBoth.nd rfl (Or.inl rfl) pe_int ip_add))))))
      (pss_one (ps_ret (pv 2)))))), ?_⟩
    refine ⟨Nat.zero_le _, fun fo nf => ?_⟩
    have s1 : Same H (upd H fo (.lst [])) := same_new nf
    have ll := hl.length
    have lm := hm.length
    refine ⟨fun n σ H' => ∃ (i j : Nat) (us : List V) (acc : List (Int × Int)), n = (l.length - i) + (m.length - j) ∧ i ≤ l.length ∧ j ≤ m.length ∧ σ = [some (.ref a), some (.ref b), some (.ref fo), some (.int (i : Int)), some (.int (j : Int))] ∧ Same H H' ∧ H' fo = some (.lst us) ∧ Tups H' us acc ∧ acc.length ≤ i + j ∧ bothM (l.drop i) (m.drop j) acc = bothM l m [],
      ⟨_, 0, 0, [], [], rfl, Nat.zero_le _, Nat.zero_le _, rfl, s1, upd_same, trivial, Nat.zero_le _, rfl⟩, ?_⟩
    rintro n σ H' ⟨i, j, us, acc, rfl, hi, hj, rfl, s5, hf, hus, hac, hres⟩
    have ha' := s5.seq ha
    have hb' := s5.seq hb
    have lenv : ∀ {n : Nat} {c : Addr} {xs : List V} {σ : L2.St}, σ[n]? = some (some (.ref c)) → SqL K H' c xs → Vv (tCB (rLenSeq K) (tCons (tVar n) tNil)) σ H' (.int (xs.length : Int)) := fun h1 h2 Q kQ => ⟨_, h1, _, _, rfl, .inl h2, kQ⟩
    refine Tv.and (Tv.lt (.var rfl) (lenv rfl ha')) (fun _ => Tv.lt (.var rfl) (lenv rfl hb')) _ ?_
    by_cases c : i < l.length ∧ j < m.length
    · refine if_true_of (by rw [Bool.and_eq_true, decide_eq_true_eq, decide_eq_true_eq]; omega) ?_
      obtain ⟨ci, cj⟩ := c
      obtain ⟨v, hv⟩ : ∃ v, ws[i]? = some v := ⟨_, List.getElem?_eq_getElem (by omega)⟩
      obtain ⟨t, x, rfl, hx, ht⟩ := hl.get hv
      obtain ⟨v2, hv2⟩ : ∃ v, vs[j]? = some v := ⟨_, List.getElem?_eq_getElem (by omega)⟩
      obtain ⟨t2, y, rfl, hy, ht2⟩ := hm.get hv2
      have el : l.drop i = x :: l.drop (i + 1) := by
        obtain ⟨q, e⟩ := List.getElem?_eq_some_iff.mp hx
        rw [List.drop_eq_getElem_cons q, e]
      have em : m.drop j = y :: m.drop (j + 1) := by
        obtain ⟨q, e⟩ := List.getElem?_eq_some_iff.mp hy
        rw [List.drop_eq_getElem_cons q, e]
      rw [el, em, bothM_cons] at hres
      refine ⟨fun σ' H2 => ∃ (i' j' : Nat) (us : List V) (acc : List (Int × Int)), (i' = i + 1 ∧ j' = j ∨ i' = i ∧ j' = j + 1) ∧ σ' = [some (.ref a), some (.ref b), some (.ref fo), some (.int (i' : Int)), some (.int (j' : Int))] ∧ Same H H2 ∧ H2 fo = some (.lst us) ∧ Tups H2 us acc ∧ acc.length ≤ i' + j' ∧ bothM (l.drop i') (m.drop j') acc = bothM l m [], ?_, ?_⟩
      · rintro σ' H2 ⟨i', j', us, acc, hij, q1, q2, q3, q4, q5, q6⟩
        exact ⟨(l.length - i') + (m.length - j'), by omega, i', j', us, acc, rfl, by omega, by omega, q1, q2, q3, q4, q5, q6⟩
      · have ht' := s5 _ _ ht
        have ht2' := s5 _ _ ht2
        refine ⟨_, rfl, _, rfl, _, rfl, a, _, _, _, rfl, rfl, ha', atI_nat hv, t, _, _, _, rfl, rfl, SqT.of ht', rfl, ?_⟩
        refine ⟨_, rfl, _, rfl, b, _, _, _, rfl, rfl, hb', atI_nat hv2, t2, _, _, _, rfl, rfl, SqT.of ht2', rfl, _, _, rfl, ?_⟩
        refine ⟨_, rfl, _, rfl, a, _, _, _, rfl, rfl, ha', atI_nat hv, t, _, _, _, rfl, rfl, SqT.of ht', rfl, ?_⟩
        refine ⟨_, rfl, _, rfl, b, _, _, _, rfl, rfl, hb', atI_nat hv2, t2, _, _, _, rfl, rfl, SqT.of ht2', rfl, _, _, rfl, ?_⟩
        refine ⟨fo, us, acc, _, _, rfl, hf, hus, by omega, fun H2 us2 k1 k2 k3 => ?_⟩
        have s6 : Same H H2 := fun c' o' hc' => k3 _ _ (s5 _ _ hc') (ne_of_none hc' nf)
        have pl := putB_le acc (mx x.1 y.1) (mn x.2 y.2)
        have ha2 := s6.seq ha
        have hb2 := s6.seq hb
        refine ⟨_, rfl, _, rfl, a, _, _, _, rfl, rfl, ha2, atI_nat hv, t, _, _, _, rfl, rfl, SqT.of (s6 _ _ ht), rfl, ?_⟩
        refine ⟨_, rfl, _, rfl, b, _, _, _, rfl, rfl, hb2, atI_nat hv2, t2, _, _, _, rfl, rfl, SqT.of (s6 _ _ ht2), rfl, _, _, rfl, rfl, _, rfl, ?_⟩
        by_cases cc : x.2 < y.2
        · refine if_true_of (decide_eq_true cc) ?_
          rw [if_pos cc, ← em] at hres
          exact ⟨_, rfl, _, _, rfl, rfl, i + 1, j, us2, putB acc (mx x.1 y.1) (mn x.2 y.2), .inl ⟨rfl, rfl⟩, rfl, s6, k1, k2, by omega, hres⟩
        · refine if_false_of (decide_eq_false cc) ?_
          rw [if_neg cc, ← el] at hres
          exact ⟨_, rfl, _, _, rfl, rfl, i, j + 1, us2, putB acc (mx x.1 y.1) (mn x.2 y.2), .inr ⟨rfl, rfl⟩, rfl, s6, k1, k2, by omega, hres⟩
    · refine if_false_of ?_ ?_
      · rw [Bool.and_eq_false_iff]
        by_cases c1 : i < l.length
        · exact .inr (decide_eq_false (by omega))
        · exact .inl (decide_eq_false (by omega))
      · have e : acc = bothM l m [] := by
          by_cases c1 : i < l.length
          · rw [List.drop_of_length_le (show m.length ≤ j by omega), bothM_nil2] at hres
            exact hres
          · rw [List.drop_of_length_le (show l.length ≤ i by omega), bothM_nil] at hres
            exact hres
        rw [e] at hus
        exact ⟨_, rfl, k H' fo us s5 nf hf hus⟩
end
end Fb
namespace Fb
open PySem PySem.Spec PyProof.Rows L2
abbrev sPs : Stmt := inClass sDia 11
/-! ### joined: the mathematics -/
def joinStep (st : List (Int × Int) × Int) (x : Int × Int) : List (Int × Int) × Int := (putB st.1 (mx x.1 st.2) x.2, mx st.2 x.2)
def joinM (l : List (Int × Int)) : List (Int × Int) × Int := l.foldl joinStep ([], 0)
theorem joinM_more {l : List (Int × Int)} {j : Nat} {x : Int × Int} (h : l[j]? = some x) : joinM (l.take (j + 1)) = joinStep (joinM (l.take j)) x := by
  unfold joinM
  rw [take_more h, List.foldl_append]
  rfl
theorem join_go : ∀ (l D : List (Int × Int)) (st : List (Int × Int) × Int), (∀ x ∈ l, 0 ≤ x.1 ∧ x.1 < x.2) → l.Pairwise (fun x y => x.1 ≤ y.1) → (∀ x ∈ D, ∀ y ∈ l, x.1 ≤ y.1) → PlI st.1 → (∀ z ∈ st.1, z.2 ≤ st.2) → (∀ u, HsI st.1 u ↔ HsI D u) →
    (st.2 = 0 ∨ ∃ x ∈ D, x.2 = st.2) → PlI (l.foldl joinStep st).1 ∧ ∀ u, HsI (l.foldl joinStep st).1 u ↔ HsI D u ∨ HsI l u
  | [], D, st, _, _, _, h1, _, h3, _ => ⟨h1, fun u => (h3 u).trans ⟨.inl, fun q => q.elim id fun q => absurd q HsI_nil⟩⟩
  | x :: l, D, st, hn, hs, hD, h1, h2, h3, h4 => by
    obtain ⟨hs1, hs2⟩ := List.pairwise_cons.mp hs
    have hx := hn x (List.mem_cons_self ..)
    obtain ⟨q1, q2, q3⟩ := putB_ok (b := max x.1 st.2) (e := x.2) h1 (fun z hz => by have := h2 z hz; omega)
    have e : joinStep st x = (putB st.1 (max x.1 st.2) x.2, max st.2 x.2) := by
      unfold joinStep
      rw [mx_is, mx_is]
    rw [List.foldl_cons, e]
    have ih := join_go l (D ++ [x]) (putB st.1 (max x.1 st.2) x.2, max st.2 x.2) (fun y hy => hn y (List.mem_cons_of_mem _ hy)) hs2 (fun y hy z hz => by
        rcases List.mem_append.mp hy with hy | hy
        · exact hD y hy z (List.mem_cons_of_mem _ hz)
        · rcases List.mem_cons.mp hy with rfl | hy
          · exact hs1 z hz
          · cases hy) q1 (q3 _ (fun z hz => by have := h2 z hz; show z.2 ≤ max st.2 x.2; omega) (by show x.2 ≤ max st.2 x.2; omega)) (fun u => by
        show HsI (putB st.1 (max x.1 st.2) x.2) u ↔ _
        rw [q2 u, h3 u, HsI_append, show [x] = [(x.1, x.2)] from rfl, HsI_one]
        constructor
        · rintro (q | q)
          · exact .inl q
          · exact .inr (by omega)
        · rintro (q | q)
          · exact .inl q
          · by_cases c : st.2 ≤ u
            · exact .inr (by omega)
            · refine .inl ?_
              rcases h4 with z | ⟨y, hy, z⟩
              · omega
              · exact ⟨y, hy, by have := hD y hy x (List.mem_cons_self ..); omega, by omega⟩) (by
        show max st.2 x.2 = 0 ∨ ∃ y ∈ D ++ [x], y.2 = max st.2 x.2
        by_cases c : st.2 ≤ x.2
        · exact .inr ⟨x, List.mem_append_right _ (List.mem_cons_self ..), by omega⟩
        · rcases h4 with z | ⟨y, hy, z⟩
          · omega
          · exact .inr ⟨y, List.mem_append_left _ hy, by omega⟩)
    refine ⟨ih.1, fun u => (ih.2 u).trans ?_⟩
    rw [HsI_append, HsI_cons (x := x) (l := l), or_assoc, show [x] = [(x.1, x.2)] from rfl, HsI_one]
theorem joinM_ok {l : List (Int × Int)} (hn : ∀ x ∈ l, 0 ≤ x.1 ∧ x.1 < x.2) (hs : l.Pairwise (fun x y => x.1 ≤ y.1)) : PlI (joinM l).1 ∧ ∀ u, HsI (joinM l).1 u ↔ HsI l u := by
  have q := join_go l [] ([], 0) hn hs (fun x hx => by cases hx) trivial (fun z hz => by cases hz) (fun u => Iff.rfl) (.inl rfl)
  exact ⟨q.1, fun u => (q.2 u).trans ⟨fun z => z.elim (fun z => absurd z HsI_nil) id, .inr⟩⟩
theorem joinM_le (l : List (Int × Int)) : ∀ i, (joinM (l.take i)).1.length ≤ i
  | 0 => Nat.le_refl _
  | i + 1 => by
    have ih := joinM_le l i
    cases e : l[i]? with
    | none =>
      have hl := List.getElem?_eq_none_iff.mp e
      rw [List.take_of_length_le (by omega), ← List.take_of_length_le hl]
      omega
    | some x =>
      rw [joinM_more e]
      exact Nat.le_trans (putB_le _ _ _) (Nat.succ_le_succ ih)
theorem HsI_perm {l m : List (Int × Int)} (h : l.Perm m) (u : Int) : HsI l u ↔ HsI m u := by
  unfold HsI
  constructor
  · rintro ⟨x, hx, q⟩
    exact ⟨x, h.mem_iff.mp hx, q⟩
  · rintro ⟨x, hx, q⟩
    exact ⟨x, h.mem_iff.mpr hx, q⟩
theorem join_is {s : Cl04.State} (hs : WF s) {i : Nat} {b : Bool} {l : List (Int × Int)} (hp : l.Perm (bsL s.busy i b)) (ho : l.Pairwise (fun x y => x.1 ≤ y.1)) : (joinM l).1 = (Cl04.busyOf s i b).map up := by
  have q := joinM_ok (fun x hx => by
    have := bsL_ne hs i b x (hp.mem_iff.mp hx)
    omega) ho
  exact row_is q.1 (busy_pl s i b) fun u => (q.2 u).trans ((HsI_perm hp u).trans (HsI_bsN s i b u))
/-! ### pairs by their places -/
def kOf (H : Hp) (v : V) : Int × Int := match v with
  | .ref t => match H t with
    | some (.tup [.int x, .int y]) => (x, y)
    | _ => (0, 0)
  | _ => (0, 0)
theorem kOf_ref {H : Hp} {t : Addr} {x y : Int} (h : H t = some (.tup [.int x, .int y])) : kOf H (.ref t) = (x, y) := by
  unfold kOf
  simp only [h]
theorem Tups.k {H : Hp} : ∀ {vs : List V} {l : List (Int × Int)}, Tups H vs l → l = vs.map (kOf H)
  | [], [], _ => rfl
  | v :: vs, x :: l, q => by
    obtain ⟨⟨t, e, ht⟩, r⟩ := q
    subst e
    rw [List.map_cons, kOf_ref ht, ← Tups.k (vs := vs) (l := l) r]
  | [], _ :: _, q => q.elim
  | _ :: _, [], q => q.elim
theorem Tups.mem {H : Hp} {vs : List V} {l : List (Int × Int)} (h : Tups H vs l) : ∀ v ∈ vs, ∃ t, v = V.ref t ∧ H t = some (.tup [.int (kOf H v).1, .int (kOf H v).2]) := fun v hv => by
  obtain ⟨i, hi⟩ := List.getElem?_of_mem hv
  obtain ⟨t, x, rfl, _, ht⟩ := h.get hi
  exact ⟨t, rfl, by rw [kOf_ref ht]; exact ht⟩
theorem tups_of {H : Hp} : ∀ {vs : List V}, (∀ v ∈ vs, ∃ t, v = V.ref t ∧ H t = some (.tup [.int (kOf H v).1, .int (kOf H v).2])) → Tups H vs (vs.map (kOf H))
  | [], _ => trivial
  | v :: vs, h => ⟨h v (List.mem_cons_self ..), tups_of fun u hu => h u (List.mem_cons_of_mem _ hu)⟩
def spJoin (K : PySem.W.Frag) : Sp := fun vs H Q _ => ∃ (a : Addr) (ws : List V) (l : List (Int × Int)), vs = [.ref a] ∧ SqL K H a ws ∧ Tups H ws l ∧ l.length ≤ 400000 ∧ ∀ l' : List (Int × Int), l'.Perm l → l'.Pairwise (fun x y => x.1 ≤ y.1) → NewSt H Q (joinM l').1
section
variable {P : Program} {w : World} {K : PySem.W.Frag} {mg : Str → Option Value} {base : Heap}
theorem scJoin : FnScope ["stretches", "found", "reach", "begin", "end"] ["stretches"] (defScope sJoin) := ⟨rfl, rfl, rfl, by decide +kernel, rfl, by decide +kernel, by decide +kernel⟩
theorem ok_join {f : Addr} {fd : FuncData} (F : Fun K "joined" "joined" sJoin f fd) (T : TxtS mg) (TN : TxtN mg) (GP : GFun P w K mg base "put_behind" ["stretches", "begin", "end"] 1 spPut) : FnOk P w K mg base CX0 2 f fd ["stretches"] (spJoin K) := by
  refine F.ok scJoin (fun vs H Q E h => ?_) (fun cdv A outer s H vs Q E hr h => ?_)
  · obtain ⟨a, ws, l, rfl, _⟩ := h
    rfl
  · obtain ⟨a, ws, l, rfl, ha, ht, hl4, k⟩ := h
    obtain ⟨fp, fdp, GP, mgp, kpp, bp⟩ := GP
    refine ⟨_, pss_cons (ps_set (i := 1) scJoin.nd rfl (Or.inl rfl) (pe_lst pa_nil))
      (pss_cons (ps_set (i := 2) scJoin.nd rfl (Or.inl rfl) pe_int)
      (pss_cons (ps_for PassesOwn.never rfl (pi_list (pe_callB cr_sortedPO (by rfl) TN.sorted (by decide +kernel) (pa_cons (pv 0) pa_nil))) (pg_tup rfl (pgs_cons (pg_name (i := 3) scJoin.nd rfl (Or.inl rfl)) (pgs_cons (pg_name (i := 4) scJoin.nd rfl (Or.inl rfl)) pgs_nil)))
        (pss_cons (ps_expr (pe_call GP hr rfl mgp kpp bp .nil pass0 (pa_cons (pv 1) (pa_cons (pe_callB (call_max2 rfl) (by rfl) T.max (by decide +kernel) (pa_cons (pv 3) (pa_cons (pv 2) pa_nil))) (pa_cons (pv 4) pa_nil)))))
        (pss_one (ps_set (i := 2) scJoin.nd rfl (Or.inl rfl) (pe_callB (call_max2 rfl) (by rfl) T.max (by decide +kernel) (pa_cons (pv 2) (pa_cons (pv 4) pa_nil)))))))
      (pss_one (ps_ret (pv 1))))), ?_⟩
    refine ⟨Nat.zero_le _, fun fo nf => ?_⟩
    have s1 : Same H (upd H fo (.lst [])) := same_new nf
    have ht1 := ht.mono (TS1.same s1)
    refine ⟨_, rfl, a, ws, kOf (upd H fo (.lst [])), rfl, s1.seq ha, ht1.mem, fun ys p hsrt hstb np => ?_⟩
    have nfp : fo ≠ p := ne_of_none upd_same np
    have s2 : Same H (upd (upd H fo (.lst [])) p (.lst ys)) := s1.trans (same_new np)
    have nfH := nf
    have hys : Tups (upd H fo (.lst [])) ys (ys.map (kOf (upd H fo (.lst [])))) := tups_of fun v hv => ht1.mem v (hstb.perm.mem_iff.mp hv)
    have hperm : (ys.map (kOf (upd H fo (.lst [])))).Perm l := by
      have q := hstb.perm.map (kOf (upd H fo (.lst [])))
      rw [← ht1.k] at q
      exact q
    have hord : (ys.map (kOf (upd H fo (.lst [])))).Pairwise (fun x y => x.1 ≤ y.1) := by
      rw [List.pairwise_map]
      refine List.Pairwise.imp (fun {x y} hxy => ?_) hsrt
      have z := SrtO.lexB_no.mp hxy
      omega
    have k := k _ hperm hord
    have hlen : (ys.map (kOf (upd H fo (.lst [])))).length ≤ 400000 := by rw [hperm.length_eq]; exact hl4
    generalize ys.map (kOf (upd H fo (.lst []))) = l' at hys k hlen
    -- tuples of the old heap alone
    have hysH : Tups H ys l' := by
      have key : ∀ {vs : List V} {m : List (Int × Int)}, Tups (upd H fo (.lst [])) vs m → Tups H vs m := by
        intro vs
        induction vs with
        | nil =>
          intro m q
          cases m with
          | nil => trivial
          | cons _ _ => exact q.elim
        | cons v vs ih =>
          intro m q
          cases m with
          | nil => exact q.elim
          | cons x m =>
            obtain ⟨⟨t, e, ht⟩, r⟩ := q
            refine ⟨⟨t, e, ?_⟩, ih r⟩
            have : t ≠ fo := fun z => by
              rw [z, upd_same] at ht
              cases ht
            rw [upd_ne this] at ht
            exact ht
      exact key hys
    refine ⟨p, rfl, ⟨_, SqL.of upd_same⟩, for_list (K := K) (a := p) (xs := ys) (fun i σ H' => ∃ (v1 v2 : Option V) (us : List V), σ = [some (.ref a), some (.ref fo), some (.int (joinM (l'.take i)).2), v1, v2] ∧ Same H H' ∧ H' p = some (.lst ys) ∧ H' fo = some (.lst us) ∧ Tups H' us (joinM (l'.take i)).1)
      ⟨none, none, [], rfl, s2, upd_same, (upd_ne nfp).trans upd_same, trivial⟩ (fun i σ H' _ ⟨_, _, _, _, _, q, _⟩ => SqL.of q) ?_ ?_⟩
    · rintro i y σ H' hi ⟨v1, v2, us, rfl, s5, hp, hf, hus⟩
      obtain ⟨t, x, rfl, hx, h2⟩ := hysH.get hi
      have h2' := s5 _ _ h2
      have hil : i < l'.length := (List.getElem?_eq_some_iff.mp hx).1
      have hle := joinM_le l' i
      refine ⟨t, _, rfl, SqT.of h2', rfl, _, _, rfl, _, _, rfl, rfl, ?_⟩
      refine ⟨_, rfl, _, rfl, _, rfl, _, _, rfl, _, rfl, fo, us, _, _, _, rfl, hf, hus, by omega, fun H2 us2 k1 k2 k3 => ?_⟩
      have s6 : Same H H2 := fun c' o' hc' => k3 _ _ (s5 _ _ hc') (ne_of_none hc' nf)
      refine ⟨_, rfl, _, rfl, _, _, rfl, some (.int x.1), some (.int x.2), us2, ?_, s6, k3 _ _ hp nfp.symm, k1, ?_⟩
      · rw [joinM_more hx]
        rfl
      · rw [joinM_more hx]
        exact k2
    · rintro σ H' ⟨v1, v2, us, rfl, s5, hp, hf, hus⟩
      rw [hysH.length, List.take_length] at hus
      exact ⟨_, rfl, k H' fo us s5 nf hf hus⟩
/-! ### perhaps_stretches -/
def spPs (C : Cs) : Sp := fun vs H Q _ => ∃ (d : Addr) (F : List Addr) (s : Cl04.State) (i : Nat), vs = [.ref d, .int i] ∧ DA C H d F s ∧ WF s ∧ NewSt H Q ((Cl04.busyOf s i false).map up)
theorem scPs : FnScope ["self", "person"] ["self", "person"] (defScope sPs) := ⟨rfl, rfl, rfl, by decide +kernel, rfl, by decide +kernel, by decide +kernel⟩
theorem ok_ps {f : Addr} {C : Cs} {fd : FuncData} (F : Fun K "perhaps_stretches" "Diary.perhaps_stretches" sPs f fd) (T : TxtD K mg C) (GB : GMeth P w K mg base C.D "busy_stretches" ["self", "person", "for_sure"] 1 (spBs C))
    (GJ : GFun P w K mg base "joined" ["stretches"] 2 (spJoin K)) : FnOk P w K mg base CX0 3 f fd ["self", "person"] (spPs C) := by
  refine F.ok scPs (fun vs H Q E h => ?_) (fun cdv A outer s H vs Q E hr h => ?_)
  · obtain ⟨d, F, s, i, rfl, _⟩ := h
    rfl
  · obtain ⟨d, F, st, i, rfl, hDA, hwf, k⟩ := h
    obtain ⟨fb, fdb, GB, mB, bB⟩ := GB
    obtain ⟨fj, fdj, GJ, mgj, kpj, bj⟩ := GJ
    have hr1 : Room 1 _ := hr.mono (by decide)
    refine ⟨_, pss_one (ps_ret (pe_call GJ hr rfl mgj kpj bj .nil pass0 (pa_cons (pe_meth (pv 0) T.clD mB GB hr1 bB .nil pass0 (pa_cons (pv 1) (pa_cons pe_bl pa_nil))) pa_nil))), ?_⟩
    have hcopy := hDA
    obtain ⟨lp, de, ps, es, h, rfl⟩ := hDA
    obtain ⟨dx, hd⟩ := h.ins
    have hle := bsL_le st.busy i false
    have nb := hwf.nb
    refine ⟨_, rfl, d, dx, _, rfl, hd, dF_no _ _ _ (by decide +kernel) (by decide +kernel) (by decide +kernel), _, rfl, d, _, st, i, false, rfl, hcopy, hwf, fun H1 q us s1 nq hq hu => ?_⟩
    refine ⟨q, us, _, rfl, SqL.of hq, hu, by omega, fun l' hp ho H2 p ws s2 np hpl ht => ?_⟩
    rw [join_is hwf hp ho] at ht
    exact k H2 p ws (s1.trans s2) (s1.free np) hpl ht
end
end Fb
namespace Fb
open PySem PySem.Spec PyProof.Rows L2
abbrev sCs : Stmt := inClass sDia 12
abbrev sFree : Stmt := inClass sDia 13
abbrev sCommon : Stmt := inClass sDia 14
/-! ### the rows -/
def comW (s : Cl04.State) (a b : Nat) (l : List Nat) : List Cl04.Span := l.foldl (fun m i => Cl04.meet m (Cl04.within (Cl04.free s i) a b)) [(a, b)]
theorem comW_more {s : Cl04.State} {a b : Nat} {l : List Nat} {j i : Nat} (h : l[j]? = some i) : comW s a b (l.take (j + 1)) = Cl04.meet (comW s a b (l.take j)) (Cl04.within (Cl04.free s i) a b) := by
  unfold comW
  rw [take_more h, List.foldl_append]
  rfl
theorem comW_go {s : Cl04.State} {a b : Nat} (h : a < b) : ∀ (l : List Nat) (m : List Cl04.Span), Pl m → Pl (l.foldl (fun m i => Cl04.meet m (Cl04.within (Cl04.free s i) a b)) m) ∧
    ∀ u, Hs (l.foldl (fun m i => Cl04.meet m (Cl04.within (Cl04.free s i) a b)) m) u ↔ Hs m u ∧ ∀ i ∈ l, Hs (Cl04.free s i) u ∧ a ≤ u ∧ u < b
  | [], m, hm => ⟨hm, fun u => ⟨fun q => ⟨q, fun i hi => (by cases hi)⟩, fun q => q.1⟩⟩
  | i :: l, m, hm => by
    have w := within_ok (free_pl s i) h
    have q := meet_ok m _ hm w.1
    have ih := comW_go (s := s) h l _ q.1
    rw [List.foldl_cons]
    refine ⟨ih.1, fun u => (ih.2 u).trans ?_⟩
    rw [q.2.1 u, w.2 u]
    simp only [List.mem_cons, forall_eq_or_imp, and_assoc]
theorem comW_ok (s : Cl04.State) {a b : Nat} (h : a < b) (l : List Nat) : Pl (comW s a b l) ∧ ∀ u, Hs (comW s a b l) u ↔ (a ≤ u ∧ u < b) ∧ ∀ i ∈ l, Hs (Cl04.free s i) u := by
  have q := comW_go (s := s) h l [(a, b)] (pl_one h)
  refine ⟨q.1, fun u => (q.2 u).trans ?_⟩
  rw [Hs_one]
  constructor
  · rintro ⟨h1, h2⟩
    exact ⟨h1, fun i hi => (h2 i hi).1⟩
  · rintro ⟨h1, h2⟩
    exact ⟨h1, fun i hi => ⟨h2 i hi, h1⟩⟩
theorem Hs_com (s : Cl04.State) (l : List Nat) (u : Nat) : Hs (Cl04.common s l) u ↔ u < Cl04.END ∧ ∀ i ∈ l, Hs (Cl04.free s i) u := by
  have q := (common_go s (free_pl s) l [(0, Cl04.END)] (pl_one (by decide))).2 u
  refine q.trans ?_
  rw [Hs_one]
  exact ⟨fun z => ⟨z.1.2, z.2⟩, fun z => ⟨⟨Nat.zero_le _, z.1⟩, z.2⟩⟩
theorem comW_is (s : Cl04.State) {a b : Nat} (h : a < b) (hb : b ≤ Cl04.END) (l : List Nat) : comW s a b l = Cl04.within (Cl04.common s l) a b := by
  have q := comW_ok s h l
  have w := within_ok (common_pl s l) h
  refine pl_ext q.1 w.1 fun u => ?_
  rw [q.2 u, w.2 u, Hs_com]
  constructor
  · rintro ⟨h1, h2⟩
    exact ⟨⟨by omega, h2⟩, h1⟩
  · rintro ⟨⟨_, h2⟩, h1⟩
    exact ⟨h1, h2⟩
theorem pl_short {l : List Cl04.Span} (h : Pl l) {a b : Nat} (hb : ∀ u, Hs l u → a ≤ u ∧ u < b) (hE : b ≤ Cl04.END) : (l.map up).length ≤ 144000 := by
  have e : Cl04.END = 144000 := rfl
  have q := (plI_up h).short (a := 0) (b := 144000) (by decide) fun u hu => by
    obtain ⟨h1, h2⟩ := HsI_up.mp hu
    have := hb _ h2
    omega
  omega
theorem within_short {l : List Cl04.Span} (h : Pl l) {a b : Nat} (hab : a < b) (hE : b ≤ Cl04.END) : ((Cl04.within l a b).map up).length ≤ 144000 :=
  pl_short (within_ok h hab).1 (fun u hu => (((within_ok h hab).2 u).mp hu).2) hE
theorem Hs_free_lt {s : Cl04.State} {i u : Nat} (h : Hs (Cl04.free s i) u) : u < Cl04.END := ((Hs_work _ _).mp ((Hs_free s i u).mp h).1).1
theorem com_one (s : Cl04.State) (i : Nat) : Cl04.common s [i] = Cl04.free s i := by
  refine pl_ext (common_pl s [i]) (free_pl s i) fun u => ?_
  rw [Hs_com]
  constructor
  · intro h
    exact h.2 i (List.mem_cons_self ..)
  · intro h
    refine ⟨Hs_free_lt h, fun j hj => ?_⟩
    rcases List.mem_cons.mp hj with rfl | hj
    · exact h
    · cases hj
theorem free_common (s : Cl04.State) (i a b : Nat) : Cl04.step s (.free i a b) = Cl04.step s (.common a b [i]) := by
  show (if s.people.length ≤ i then (s, [-3]) else (s, Cl04.window a b (Cl04.spans (Cl04.within (Cl04.free s i) a b)))) = (s, if (decide (s.people.length ≤ i) || false) = true then [-3] else if False ∨ Cl04.distinct [i] = false then [-1] else Cl04.window a b (Cl04.spans (Cl04.within (Cl04.common s [i]) a b)))
  rw [com_one, Bool.or_false]
  by_cases c : s.people.length ≤ i
  · rw [if_pos c, decide_eq_true c, if_pos rfl]
  · rw [if_neg c, decide_eq_false c, if_neg Bool.false_ne_true, if_neg]
    rintro (z | z)
    · exact z
    · cases z
/-! ### what refusal says, and the specification's own words -/
theorem ref_all {s : Cl04.State} {l : List Nat} {fits : Bool} (f : List Int) : Cl04.all s l f = (s, if refM s l true = 0 then f else [refM s l true]) := by
  unfold Cl04.all refM
  by_cases c : (l.any fun i => decide (s.people.length ≤ i)) = true
  · rw [if_pos c, if_pos c, if_neg (by decide)]
  · rw [if_neg c, if_neg c]
    by_cases d : l.isEmpty = true ∨ Cl04.distinct l = false
    · have d2 : l.isEmpty = true ∨ Cl04.distinct l = false ∨ true = false := d.elim .inl fun z => .inr (.inl z)
      rw [if_pos d, if_pos d2, if_neg (by decide)]
    · have d2 : ¬ (l.isEmpty = true ∨ Cl04.distinct l = false ∨ true = false) := fun z => by
        rcases z with z | z | z
        · exact d (.inl z)
        · exact d (.inr z)
        · cases z
      rw [if_neg d, if_neg d2, if_pos rfl]
theorem ref_false (s : Cl04.State) (l : List Nat) : refM s l false = if refM s l true = 0 then -1 else refM s l true := by
  unfold refM
  by_cases c : (l.any fun i => decide (s.people.length ≤ i)) = true
  · rw [if_pos c, if_pos c, if_neg (by decide)]
  · rw [if_neg c, if_neg c, if_pos (.inr (.inr rfl))]
    by_cases d2 : l.isEmpty = true ∨ Cl04.distinct l = false ∨ true = false
    · rw [if_pos d2, if_neg (by decide)]
    · rw [if_neg d2, if_pos rfl]
theorem ref_neg {s : Cl04.State} {l : List Nat} {fits : Bool} : refM s l fits = 0 ∨ refM s l fits < 0 := by
  unfold refM
  split
  · exact .inr (by decide)
  · split
    · exact .inr (by decide)
    · exact .inl rfl
theorem ref_ok {s : Cl04.State} {l : List Nat} {fits : Bool} (h : refM s l fits = 0) : (∀ i ∈ l, i < s.people.length) ∧ l.Nodup ∧ l ≠ [] ∧ fits = true := by
  unfold refM at h
  by_cases c : (l.any fun i => decide (s.people.length ≤ i)) = true
  · rw [if_pos c] at h
    exact absurd h (by decide)
  · rw [if_neg c] at h
    by_cases d : l.isEmpty = true ∨ Cl04.distinct l = false ∨ fits = false
    · rw [if_pos d] at h
      exact absurd h (by decide)
    · rw [not_or, not_or] at d
      obtain ⟨d1, d2, d3⟩ := d
      refine ⟨fun i hi => ?_, ?_, fun e => d1 (e ▸ rfl), ?_⟩
      · rcases Nat.lt_or_ge i s.people.length with z | z
        · exact z
        · exact absurd (List.any_eq_true.mpr ⟨i, hi, decide_eq_true z⟩) c
      · rw [← distinct_iff]
        cases q : Cl04.distinct l with
        | true => rfl
        | false => exact absurd q d2
      · cases q : fits with
        | true => rfl
        | false => exact absurd q d3
/-- a refusal is what the specification's all says, where what does not fit is -1 -/
theorem ref_step {s : Cl04.State} {l : List Nat} {fits : Bool} {f : List Int} (h : fits = false → f = [-1]) (hn : refM s l fits < 0) : Cl04.all s l f = (s, [refM s l fits]) := by
  rw [ref_all (fits := fits)]
  cases fits with
  | true => rw [if_neg (by omega)]
  | false =>
    rw [ref_false] at hn ⊢
    by_cases c : refM s l true = 0
    · rw [if_pos c, if_pos c, h rfl]
    · rw [if_neg c, if_neg c]
theorem all_ok {s : Cl04.State} {l : List Nat} {f : List Int} (h : refM s l true = 0) : Cl04.all s l f = (s, f) := by
  rw [ref_all (fits := true), if_pos h]
section
variable {P : Program} {w : World} {K : PySem.W.Frag} {mg : Str → Option Value} {base : Heap}
def spCs (C : Cs) (K : PySem.W.Frag) : Sp := fun vs H Q _ => ∃ (d c : Addr) (F : List Addr) (s : Cl04.State) (l : List Nat) (a b : Nat), vs = [.ref d, .ref c, .int a, .int b] ∧ DA C H d F s ∧ WF s ∧ SqL K H c ((l.map Int.ofNat).map V.int) ∧ (∀ i ∈ l, i < s.people.length) ∧ a < b ∧ b ≤ Cl04.END ∧
  NewSt H Q ((Cl04.within (Cl04.common s l) a b).map up)
theorem scCs : FnScope ["self", "people", "a", "b", "found", "person"] ["self", "people", "a", "b"] (defScope sCs) := ⟨rfl, rfl, rfl, by decide +kernel, rfl, by decide +kernel, by decide +kernel⟩
theorem ok_cs {f : Addr} {C : Cs} {fd : FuncData} (F : Fun K "common_stretches" "Diary.common_stretches" sCs f fd) (T : TxtD K mg C) (GF : GMeth P w K mg base C.D "free_stretches" ["self", "person", "a", "b"] 3 (spFreeSt C))
    (GB : GFun P w K mg base "both" ["one", "other"] 2 (spBoth K)) : FnOk P w K mg base CX0 4 f fd ["self", "people", "a", "b"] (spCs C K) := by
  refine F.ok scCs (fun vs H Q E h => ?_) (fun cdv A outer s H vs Q E hr h => ?_)
  · obtain ⟨d, c, F, s, l, a, b, rfl, _⟩ := h
    rfl
  · obtain ⟨d, c, F, st, l, a, b, rfl, hDA, hwf, hS, hk, hab, hbE, k⟩ := h
    obtain ⟨ff, fdf, GF, mF, bF⟩ := GF
    obtain ⟨fb, fdb, GB, mgb, kpb, bb⟩ := GB
    have hr2 : Room 2 _ := hr.mono (by decide)
    refine ⟨_, pss_cons (ps_set (i := 4) scCs.nd rfl (Or.inl rfl) (pe_lst (pa_cons (pe_tup (pa_cons (pv 2) (pa_cons (pv 3) pa_nil))) pa_nil)))
      (pss_cons (ps_for PassesOwn.never rfl (pi_list (pv 1)) (pg_name (i := 5) scCs.nd rfl (Or.inl rfl))
        (pss_one (ps_set (i := 4) scCs.nd rfl (Or.inl rfl) (pe_call GB hr2 rfl mgb kpb bb .nil pass0 (pa_cons (pv 4) (pa_cons (pe_meth (pv 0) T.clD mF GF hr bF .nil pass0 (pa_cons (pv 5) (pa_cons (pv 2) (pa_cons (pv 3) pa_nil)))) pa_nil))))))
      (pss_one (ps_ret (pv 4)))), ?_⟩
    rw [← comW_is st hab hbE] at k
    refine ⟨_, rfl, _, rfl, (by show 2 ≤ sizeLine; decide), fun t nt => ⟨(by show 1 ≤ sizeLine; decide), fun q nq => ?_⟩⟩
    have ntq : t ≠ q := ne_of_none upd_same nq
    have s1 : Same H (upd (upd H t (.tup [.int a, .int b])) q (.lst [.ref t])) := (same_new nt).trans (same_new nq)
    have nqH : H q = none := (same_new nt).free nq
    refine ⟨_, rfl, c, rfl, ⟨_, s1.seq hS⟩, for_list (K := K) (a := c) (xs := (l.map Int.ofNat).map V.int) (fun j σ H' => ∃ (q : Addr) (us : List V) (v : Option V), σ = [some (.ref d), some (.ref c), some (.int a), some (.int b), some (.ref q), v] ∧ Same H H' ∧ H q = none ∧ H' q = some (.lst us) ∧ Tups H' us ((comW st a b (l.take j)).map up))
      ⟨q, [.ref t], none, rfl, s1, nqH, upd_same, Tups.one ((upd_ne ntq).trans upd_same)⟩ (fun j σ H' _ ⟨_, _, _, _, s3, _⟩ => s3.seq hS) ?_ ?_⟩
    · rintro j y σ H' hj ⟨q, us, v, rfl, s3, nq, hq, hu⟩
      rw [List.getElem?_map, List.getElem?_map] at hj
      cases hx : l[j]? with
      | none =>
        rw [hx] at hj
        cases hj
      | some i =>
        rw [hx] at hj
        have ey : V.int (i : Int) = y := Option.some.inj hj
        subst ey
        have hi := hk i (List.mem_of_getElem? hx)
        have hD' := hDA.same s3
        obtain ⟨lp, de, ps, es, h, eF⟩ := id hD'
        obtain ⟨dx, hd⟩ := h.ins
        have cw := comW_ok st hab (l.take j)
        refine ⟨_, rfl, _, rfl, d, dx, _, rfl, hd, dF_no _ _ _ (by decide +kernel) (by decide +kernel) (by decide +kernel), _, rfl, _, rfl, _, rfl, d, F, st, i, a, b, rfl, hD', hwf, hi, hab, hbE, fun H2 r rs s4 nr hr4 ht => ?_⟩
        have l1 := pl_short cw.1 (fun u hu => ((cw.2 u).mp hu).1) hbE
        have l2 := within_short (free_pl st i) hab hbE
        refine ⟨q, r, us, rs, _, _, rfl, SqL.of (s4 _ _ hq), SqL.of hr4, hu.mono (TS1.same s4), ht, by omega, by omega, fun H3 q3 us3 s5 nq3 hq3 hu3 => ?_⟩
        rw [both_is cw.1 (within_ok (free_pl st i) hab).1, ← comW_more hx] at hu3
        exact ⟨q3, us3, _, rfl, (s3.trans s4).trans s5, (s3.trans s4).free nq3, hq3, hu3⟩
    · rintro σ H' ⟨q, us, v, rfl, s3, nq, hq, hu⟩
      rw [List.length_map, List.length_map, List.take_length] at hu
      exact ⟨_, rfl, k _ q us s3 nq hq hu⟩
def spCommon (C : Cs) (K : PySem.W.Frag) : Sp := fun vs H Q _ => ∃ (d c : Addr) (F : List Addr) (s : Cl04.State) (l : List Nat) (a b : Nat), vs = [.ref d, .int a, .int b, .ref c] ∧ DA C H d F s ∧ WF s ∧ SqL K H c ((l.map Int.ofNat).map V.int) ∧ l.length ≤ 10 ∧ Ret C H d F Q (Cl04.step s (.common a b l))
theorem scCommon : FnScope ["self", "a", "b", "people", "refusal"] ["self", "a", "b", "people"] (defScope sCommon) := ⟨rfl, rfl, rfl, by decide +kernel, rfl, by decide +kernel, by decide +kernel⟩
theorem ok_common {f : Addr} {C : Cs} {fd : FuncData} (F : Fun K "common" "Diary.common" sCommon f fd) (T : TxtD K mg C) (GR : GRef P w K mg base C) (GI : GFun P w K mg base "is_stretch" ["a", "b"] 1 spIs)
    (GC : GMeth P w K mg base C.D "common_stretches" ["self", "people", "a", "b"] 4 (spCs C K)) (GT : GFun P w K mg base "told" ["stretches"] 1 (spTold K)) : FnOk P w K mg base CX0 5 f fd ["self", "a", "b", "people"] (spCommon C K) := by
  refine F.ok scCommon (fun vs H Q E h => ?_) (fun cdv A outer s H vs Q E hr h => ?_)
  · obtain ⟨d, c, F, s, l, a, b, rfl, _⟩ := h
    rfl
  · obtain ⟨d, c, F, st, l, a, b, rfl, hDA, hwf, hS, h10, k⟩ := h
    obtain ⟨fk, fdk, GR, mR, bR⟩ := GR
    obtain ⟨fi, fdi, GI, mgi, kpi, bi⟩ := GI
    obtain ⟨fc, fdc, GC, mC, bC⟩ := GC
    obtain ⟨ft, fdt, GT, mgt, kpt, bt⟩ := GT
    have hr1 : Room 1 _ := hr.mono (by decide)
    have hr2 : Room 2 _ := hr.mono (by decide)
    refine ⟨_, pss_cons (ps_set (i := 4) scCommon.nd rfl (Or.inl rfl) (pe_meth (pv 0) T.clD mR GR hr2 bR .nil pass0 (pa_cons (pv 3) (pa_cons (pe_call GI hr1 rfl mgi kpi bi .nil pass0 (pa_cons (pv 1) (pa_cons (pv 2) pa_nil))) pa_nil))))
      (pss_cons (ps_if (pt_cmpR op_lt (pv 4) pe_int (nomark _)) (pss_one (ps_ret (pe_lst (pa_cons (pv 4) pa_nil)))) pss_nil)
      (pss_one (ps_ret (pe_call GT hr1 rfl mgt kpt bt .nil pass0 (pa_cons (pe_meth (pv 0) T.clD mC GC hr bC .nil pass0 (pa_cons (pv 3) (pa_cons (pv 1) (pa_cons (pv 2) pa_nil)))) pa_nil))))), ?_⟩
    have hcopy := hDA
    obtain ⟨lp, de, ps, es, h, rfl⟩ := hDA
    obtain ⟨dx, hd⟩ := h.ins
    refine ⟨_, rfl, d, dx, _, rfl, hd, dF_no _ _ _ (by decide +kernel) (by decide +kernel) (by decide +kernel), _, rfl, _, rfl, _, rfl, (a : Int), (b : Int), rfl, d, c, _, st, l, _, rfl, hcopy, hS, h10, ?_⟩
    generalize hb : decide ((a : Int) < (b : Int) ∧ (b : Int) ≤ 144000) = fits
    have es0 : ∀ f, Cl04.window a b f = if fits = true then f else [-1] := fun f => by
      show (if 144000 < b ∨ b ≤ a then [-1] else f) = _
      by_cases c : 144000 < b ∨ b ≤ a
      · rw [if_pos c, if_neg]
        intro z
        rw [← hb, decide_eq_true_eq] at z
        omega
      · rw [if_neg c, if_pos]
        rw [← hb, decide_eq_true_eq]
        omega
    have es1 : Cl04.step st (.common a b l) = Cl04.all st l (if fits = true then Cl04.spans (Cl04.within (Cl04.common st l) a b) else [-1]) := congrArg (Cl04.all st l) (es0 _)
    rw [es1] at k
    refine ⟨_, rfl, _, _, rfl, rfl, _, rfl, ?_⟩
    rcases ref_neg (s := st) (l := l) (fits := fits) with e0 | e0
    rotate_left
    · refine if_true_of (decide_eq_true e0) ?_
      exact ⟨_, rfl, (by show 1 ≤ sizeLine; decide), fun p np => k.just (l := [refM st l fits]) hcopy (Same.refl H) p np (ref_step (fun z => by rw [z]; rfl) e0)⟩
    · refine if_false_of (decide_eq_false (by omega)) ?_
      obtain ⟨hk, hnd, hne, ef⟩ := ref_ok e0
      rw [ef] at e0 hb k
      have hb := of_decide_eq_true hb
      rw [if_pos rfl, all_ok e0] at k
      refine ⟨_, rfl, d, dx, _, rfl, hd, dF_no _ _ _ (by decide +kernel) (by decide +kernel) (by decide +kernel), _, rfl, _, rfl, _, rfl, d, c, _, st, l, a, b, rfl, hcopy, hwf, hS, hk, by omega, (by show b ≤ 144000; omega), fun H1 q us s1 nq hq hu => ?_⟩
      refine ⟨q, us, _, rfl, SqL.of hq, hu, fun H2 p s2 np hp => ?_⟩
      rw [toldI_up] at hp
      have s12 := s1.trans s2
      exact k _ _ p (hcopy.same s12) (fun x hx => .inl hx) (frame_of s12) (s1.free np) hp
def spFree (C : Cs) : Sp := fun vs H Q _ => ∃ (d : Addr) (F : List Addr) (s : Cl04.State) (i a b : Nat), vs = [.ref d, .int i, .int a, .int b] ∧ DA C H d F s ∧ WF s ∧ Ret C H d F Q (Cl04.step s (.free i a b))
theorem scFree : FnScope ["self", "person", "a", "b"] ["self", "person", "a", "b"] (defScope sFree) := ⟨rfl, rfl, rfl, by decide +kernel, rfl, by decide +kernel, by decide +kernel⟩
theorem ok_free {f : Addr} {C : Cs} {fd : FuncData} (F : Fun K "free" "Diary.free" sFree f fd) (T : TxtD K mg C) (GC : GMeth P w K mg base C.D "common" ["self", "a", "b", "people"] 5 (spCommon C K)) : FnOk P w K mg base CX0 6 f fd ["self", "person", "a", "b"] (spFree C) := by
  refine F.ok scFree (fun vs H Q E h => ?_) (fun cdv A outer s H vs Q E hr h => ?_)
  · obtain ⟨d, F, s, i, a, b, rfl, _⟩ := h
    rfl
  · obtain ⟨d, F, st, i, a, b, rfl, hDA, hwf, k⟩ := h
    obtain ⟨fc, fdc, GC, mC, bC⟩ := GC
    refine ⟨_, pss_one (ps_ret (pe_meth (pv 0) T.clD mC GC hr bC .nil pass0 (pa_cons (pv 2) (pa_cons (pv 3) (pa_cons (pe_lst (pa_cons (pv 1) pa_nil)) pa_nil))))), ?_⟩
    have hcopy := hDA
    obtain ⟨lp, de, ps, es, h, rfl⟩ := hDA
    obtain ⟨dx, hd⟩ := h.ins
    rw [free_common] at k
    refine ⟨_, rfl, d, dx, _, rfl, hd, dF_no _ _ _ (by decide +kernel) (by decide +kernel) (by decide +kernel), _, rfl, _, rfl, _, rfl, (by show 1 ≤ sizeLine; decide), fun p np => ?_⟩
    have s1 : Same H (upd H p (.lst [.int i])) := same_new np
    exact ⟨d, p, _, st, [i], a, b, rfl, hcopy.same s1, hwf, SqL.of upd_same, (by show 1 ≤ 10; decide), k.mono s1⟩
end
end Fb
namespace Fb
open PySem PySem.Spec PyProof.Rows L2
abbrev sAt : Stmt := inClass sDia 18
abbrev sMin : Stmt := inClass sDia 19
/-! ### minutes: the mathematics -/
theorem min_both {s : Cl04.State} {i a b : Nat} (h : a < b) : Cl04.meet (Cl04.within (Cl04.free s i) a b) (Cl04.busyOf s i false) = Cl04.within (Cl04.meet (Cl04.free s i) (Cl04.busyOf s i false)) a b := by
  have w1 := within_ok (free_pl s i) h
  have m1 := meet_ok _ _ w1.1 (busy_pl s i false)
  have m2 := meet_ok _ _ (free_pl s i) (busy_pl s i false)
  have w2 := within_ok m2.1 h
  refine pl_ext m1.1 w2.1 fun u => ?_
  rw [m1.2.1 u, w1.2 u, w2.2 u, m2.2.1 u]
  constructor
  · rintro ⟨⟨h1, h2⟩, h3⟩
    exact ⟨⟨h1, h3⟩, h2⟩
  · rintro ⟨⟨h1, h3⟩, h2⟩
    exact ⟨⟨h1, h2⟩, h3⟩
theorem min_sub {s : Cl04.State} {i a b : Nat} (h : a < b) : Cl04.size (Cl04.within (Cl04.work (Cl04.person s i)) a b) = Cl04.size (Cl04.within (Cl04.free s i) a b) + Cl04.size (Cl04.within (Cl04.meet (Cl04.work (Cl04.person s i)) (Cl04.busyOf s i true)) a b) := by
  obtain ⟨n, rfl⟩ : ∃ n, b = a + n := ⟨b - a, by omega⟩
  have m := meet_ok _ _ (work_pl (Cl04.person s i)) (busy_pl s i true)
  rw [size_within (work_pl _), size_within (free_pl s i), size_within m.1, ← cnt_or]
  · refine cnt_congr fun u _ _ => ?_
    rw [Bool.eq_iff_iff, Bool.or_eq_true, has_iff, has_iff, has_iff, Hs_free, m.2.1 u]
    constructor
    · intro q
      by_cases c : Hs (Cl04.busyOf s i true) u
      · exact .inr ⟨q, c⟩
      · exact .inl ⟨q, c⟩
    · rintro (q | q)
      · exact q.1
      · exact q.1
  · rintro u _ _ ⟨q1, q2⟩
    rw [has_iff] at q1 q2
    exact ((Hs_free s i u).mp q1).2 ((m.2.1 u).mp q2).2
section
variable {P : Program} {w : World} {K : PySem.W.Frag} {mg : Str → Option Value} {base : Heap}
def spMin (C : Cs) : Sp := fun vs H Q _ => ∃ (d : Addr) (F : List Addr) (s : Cl04.State) (i a b : Nat), vs = [.ref d, .int i, .int a, .int b] ∧ DA C H d F s ∧ WF s ∧ Ret C H d F Q (Cl04.step s (.minutes i a b))
theorem scMin : FnScope ["self", "person", "a", "b", "refusal", "free", "at_work"] ["self", "person", "a", "b"] (defScope sMin) := ⟨rfl, rfl, rfl, by decide +kernel, rfl, by decide +kernel, by decide +kernel⟩
theorem ok_min {f : Addr} {C : Cs} {fd : FuncData} (F : Fun K "minutes" "Diary.minutes" sMin f fd) (T : TxtD K mg C) (GR : GRef P w K mg base C) (GI : GFun P w K mg base "is_stretch" ["a", "b"] 1 spIs)
    (GF : GMeth P w K mg base C.D "free_stretches" ["self", "person", "a", "b"] 3 (spFreeSt C)) (GP : GMeth P w K mg base C.D "perhaps_stretches" ["self", "person"] 3 (spPs C)) (GW : GMeth P w K mg base C.P "works" ["self", "a", "b"] 2 (spWorks C.P))
    (GB : GFun P w K mg base "both" ["one", "other"] 2 (spBoth K)) (GT : GFun P w K mg base "total" ["stretches"] 1 (spTot K)) : FnOk P w K mg base CX0 4 f fd ["self", "person", "a", "b"] (spMin C) := by
  refine F.ok scMin (fun vs H Q E h => ?_) (fun cdv A outer s H vs Q E hr h => ?_)
  · obtain ⟨d, F, s, i, a, b, rfl, _⟩ := h
    rfl
  · obtain ⟨d, F, st, i, a, b, rfl, hDA0, hwf, k0⟩ := h
    obtain ⟨fk, fdk, GR, mR, bR⟩ := GR
    obtain ⟨fi, fdi, GI, mgi, kpi, bi⟩ := GI
    obtain ⟨ff, fdf, GF, mF, bF⟩ := GF
    obtain ⟨fp, fdp, GP, mP, bP⟩ := GP
    obtain ⟨fw, fdw, GW, mW, bW⟩ := GW
    obtain ⟨fb, fdb, GB, mgb, kpb, bb⟩ := GB
    obtain ⟨ft, fdt, GT, mgt, kpt, bt⟩ := GT
    have hr1 : Room 1 _ := hr.mono (by decide)
    have hr2 : Room 2 _ := hr.mono (by decide)
    refine ⟨_, pss_cons (ps_set (i := 4) scMin.nd rfl (Or.inl rfl) (pe_meth (pv 0) T.clD mR GR hr2 bR .nil pass0 (pa_cons (pe_lst (pa_cons (pv 1) pa_nil)) (pa_cons (pe_call GI hr1 rfl mgi kpi bi .nil pass0 (pa_cons (pv 2) (pa_cons (pv 3) pa_nil))) pa_nil))))
      (pss_cons (ps_if (pt_cmpR op_lt (pv 4) pe_int (nomark _)) (pss_one (ps_ret (pe_lst (pa_cons (pv 4) pa_nil)))) pss_nil)
      (pss_cons (ps_set (i := 5) scMin.nd rfl (Or.inl rfl) (pe_meth (pv 0) T.clD mF GF hr bF .nil pass0 (pa_cons (pv 1) (pa_cons (pv 2) (pa_cons (pv 3) pa_nil)))))
      (pss_cons (ps_set (i := 6) scMin.nd rfl (Or.inl rfl) (pe_call GT hr1 rfl mgt kpt bt .nil pass0 (pa_cons (pe_meth (pe_ix ix_list (pe_fld (pv 0) rfl) (pv 1) (fun _ _ => rfl)) T.per.cl mW GW hr2 bW .nil pass0 (pa_cons (pv 2) (pa_cons (pv 3) pa_nil))) pa_nil)))
      (pss_one (ps_ret (pe_lst (pa_cons (pe_call GT hr1 rfl mgt kpt bt .nil pass0 (pa_cons (pv 5) pa_nil))
        (pa_cons (pe_call GT hr1 rfl mgt kpt bt .nil pass0 (pa_cons (pe_call GB hr2 rfl mgb kpb bb .nil pass0 (pa_cons (pv 5) (pa_cons (pe_meth (pv 0) T.clD mP GP hr bP .nil pass0 (pa_cons (pv 1) pa_nil)) pa_nil))) pa_nil))
        (pa_cons (pe_op op_sub (pv 6) (pe_call GT hr1 rfl mgt kpt bt .nil pass0 (pa_cons (pv 5) pa_nil))) pa_nil))))))))), ?_⟩
    obtain ⟨lp, de, ps, es, h0, rfl⟩ := id hDA0
    obtain ⟨dx, hd0⟩ := h0.ins
    refine ⟨_, rfl, d, dx, _, rfl, hd0, dF_no _ _ _ (by decide +kernel) (by decide +kernel) (by decide +kernel), _, rfl, (by show 1 ≤ sizeLine; decide), fun p0 np0 => ?_⟩
    refine ⟨_, rfl, _, rfl, (a : Int), (b : Int), rfl, ?_⟩
    have s0 : Same H (upd H p0 (.lst [.int i])) := same_new np0
    have hcopy := hDA0.same s0
    have k := k0.mono s0
    have h := h0.same s0
    refine ⟨d, p0, _, st, [i], _, rfl, hcopy, SqL.of upd_same, (by show 1 ≤ 10; decide), ?_⟩
    generalize upd H p0 (.lst [.int i]) = H at hcopy k h
    generalize hb : decide ((a : Int) < (b : Int) ∧ (b : Int) ≤ 144000) = fits
    have hfit : fits = true ↔ ¬ (144000 < b ∨ b ≤ a) := by
      rw [← hb, decide_eq_true_eq]
      omega
    obtain ⟨dx, hd⟩ := h.ins
    rw [ref_one]
    refine ⟨_, rfl, _, _, rfl, rfl, _, rfl, ?_⟩
    by_cases c0 : st.people.length ≤ i
    · rw [if_pos c0]
      refine if_true_of rfl ?_
      refine ⟨_, rfl, (by show 1 ≤ sizeLine; decide), fun p np => k.just (l := [-3]) hcopy (Same.refl H) p np ?_⟩
      show (if st.people.length ≤ i then _ else _) = _
      rw [if_pos c0]
    rw [if_neg c0]
    have es0 : Cl04.step st (.minutes i a b) = (st, if 144000 < b ∨ b ≤ a then [-1] else Cl04.nums [Cl04.size (Cl04.within (Cl04.free st i) a b), Cl04.size (Cl04.within (Cl04.meet (Cl04.free st i) (Cl04.busyOf st i false)) a b), Cl04.size (Cl04.within (Cl04.meet (Cl04.work (Cl04.person st i)) (Cl04.busyOf st i true)) a b)]) := by
      show (if st.people.length ≤ i then _ else _) = _
      rw [if_neg c0]
      rfl
    rw [es0] at k
    cases fits with
    | false =>
      refine if_true_of rfl ?_
      refine ⟨_, rfl, (by show 1 ≤ sizeLine; decide), fun p np => k.just (l := [-1]) hcopy (Same.refl H) p np ?_⟩
      by_cases c : 144000 < b ∨ b ≤ a
      · rw [if_pos c]
      · exact absurd (hfit.mpr c) Bool.false_ne_true
    | true =>
    have cf := hfit.mp rfl
    refine if_false_of rfl ?_
    rw [if_neg cf] at k
    have hi : i < st.people.length := by omega
    have hab : a < b := by omega
    have hbE : b ≤ Cl04.END := by show b ≤ 144000; omega
    obtain ⟨y, hy, ym, ep, ypm, yv⟩ := h.who hi
    have hwp := hwf.per _ ypm
    have w1 := within_ok (free_pl st i) hab
    have l1 := within_short (free_pl st i) hab hbE
    refine ⟨_, rfl, d, dx, _, rfl, hd, dF_no _ _ _ (by decide +kernel) (by decide +kernel) (by decide +kernel), _, rfl, _, rfl, _, rfl, d, _, st, i, a, b, rfl, hcopy, hwf, hi, hab, hbE, fun H1 q us s1 nq hq hu => ?_⟩
    have h1 := h.same s1
    have hpe := h1.per y ym
    obtain ⟨⟨dy, p1⟩, _⟩ := id hpe
    refine ⟨_, rfl, d, C.D, dx, _, _, rfl, s1 _ _ hd, T.clD, T.dP, dF_people _ _ _, _, rfl, lp, _, _, _, rfl, rfl, SqL.of h1.ppl, atI_nat yv, y.a, dy, _, rfl, p1, pF_no _ _ _ (by decide +kernel) (by decide +kernel) (by decide +kernel), _, rfl, _, rfl,
      y.a, y.w, y.o, y.p, (a : Int), (b : Int), rfl, hpe, hwp.seven, fun H2 q2 us2 s2 nq2 hq2 hu2 => ?_⟩
    have hl2 := worksM_le y.p a b 102
    refine ⟨q2, us2, _, rfl, SqL.of hq2, hu2, by omega, fun H3 s3 => ?_⟩
    have s23 := s2.trans s3
    rw [works_is hwp hab hbE, ep, totI_up (within_ok (work_pl _) hab).1.ne]
    refine ⟨_, rfl, q, us, _, rfl, SqL.of (s23 _ _ hq), hu.mono (TS1.same s23), by omega, fun H4 s4 => ?_⟩
    rw [totI_up w1.1.ne]
    have s14 := s1.trans (s23.trans s4)
    refine ⟨_, rfl, _, rfl, d, dx, _, rfl, s14 _ _ hd, dF_no _ _ _ (by decide +kernel) (by decide +kernel) (by decide +kernel), _, rfl, d, _, st, i, rfl, hcopy.same s14, hwf, fun H5 r rs s5 nr hr5 ht => ?_⟩
    have l2 := pl_short (busy_pl st i false) (a := 0) (b := Cl04.END) (fun u hu => by
      obtain ⟨x, hx, _, _, z1, z2⟩ := (Hs_busy st i false u).mp hu
      have := (hwf.bus x hx).2.1
      omega) (Nat.le_refl _)
    have s45 := (s23.trans s4).trans s5
    refine ⟨q, r, us, rs, _, _, rfl, SqL.of (s45 _ _ hq), SqL.of hr5, hu.mono (TS1.same s45), ht, by omega, by omega, fun H6 q6 us6 s6 nq6 hq6 hu6 => ?_⟩
    rw [both_is w1.1 (busy_pl st i false), min_both hab] at hu6
    have m2 := meet_ok _ _ (free_pl st i) (busy_pl st i false)
    have l3 := within_short m2.1 hab hbE
    refine ⟨q6, us6, _, rfl, SqL.of hq6, hu6, by omega, fun H7 s7 => ?_⟩
    rw [totI_up (within_ok m2.1 hab).1.ne]
    have s17 := s1.trans ((s45.trans s6).trans s7)
    have s47 := (s45.trans s6).trans s7
    refine ⟨_, rfl, _, rfl, q, us, _, rfl, SqL.of (s47 _ _ hq), hu.mono (TS1.same s47), by omega, fun H8 s8 => ?_⟩
    rw [totI_up w1.1.ne]
    refine ⟨_, _, rfl, rfl, (by show 3 ≤ sizeLine; decide), fun p np => ?_⟩
    have e3 := min_sub (s := st) (i := i) hab
    have e4 : ((Cl04.size (Cl04.within (Cl04.work (Cl04.person st i)) a b) : Nat) : Int) - (Cl04.size (Cl04.within (Cl04.free st i) a b) : Nat) = (Cl04.size (Cl04.within (Cl04.meet (Cl04.work (Cl04.person st i)) (Cl04.busyOf st i true)) a b) : Nat) := by omega
    show Q (.ref p) (upd H8 p (.lst [.int ((Cl04.size (Cl04.within (Cl04.free st i) a b) : Nat) : Int), .int ((Cl04.size (Cl04.within (Cl04.meet (Cl04.free st i) (Cl04.busyOf st i false)) a b) : Nat) : Int), .int (((Cl04.size (Cl04.within (Cl04.work (Cl04.person st i)) a b) : Nat) : Int) - (Cl04.size (Cl04.within (Cl04.free st i) a b) : Nat))]))
    rw [e4]
    exact k.just (l := [((Cl04.size (Cl04.within (Cl04.free st i) a b) : Nat) : Int), ((Cl04.size (Cl04.within (Cl04.meet (Cl04.free st i) (Cl04.busyOf st i false)) a b) : Nat) : Int), ((Cl04.size (Cl04.within (Cl04.meet (Cl04.work (Cl04.person st i)) (Cl04.busyOf st i true)) a b) : Nat) : Int)]) hcopy (s17.trans s8) p np rfl
/-! ### at -/
def atL (s : Cl04.State) (u : Nat) (l : List Nat) : List Int := (l.filter fun i => Cl04.has (Cl04.free s i) u).map fun i => (2 : Int) ^ i
theorem atL_more {s : Cl04.State} {u : Nat} {l : List Nat} {j i : Nat} (h : l[j]? = some i) : atL s u (l.take (j + 1)) = atL s u (l.take j) ++ (if Cl04.has (Cl04.free s i) u = true then [(2 : Int) ^ i] else []) := by
  unfold atL
  rw [take_more h, List.filter_append, List.map_append]
  refine congrArg _ ?_
  by_cases c : Cl04.has (Cl04.free s i) u = true
  · rw [if_pos c, List.filter_cons_of_pos (p := fun i => Cl04.has (Cl04.free s i) u) c]
    rfl
  · rw [if_neg c, List.filter_cons_of_neg (p := fun i => Cl04.has (Cl04.free s i) u) c]
    rfl
theorem atL_le (s : Cl04.State) (u : Nat) (l : List Nat) : (atL s u l).length ≤ l.length := by
  unfold atL
  rw [List.length_map]
  exact List.length_filter_le _ _
theorem at_len {s : Cl04.State} {i u : Nat} : decide ((0 : Int) < (((Cl04.within (Cl04.free s i) u (u + 1)).map up).length : Int)) = Cl04.has (Cl04.free s i) u := by
  have w := within_ok (free_pl s i) (show u < u + 1 by omega)
  rw [Bool.eq_iff_iff, decide_eq_true_eq, has_iff, List.length_map]
  constructor
  · intro h
    cases e : Cl04.within (Cl04.free s i) u (u + 1) with
    | nil =>
      rw [e] at h
      exact absurd h (by decide)
    | cons x r =>
      have h1 := w.1
      rw [e] at h1
      have q := (w.2 x.1).mp (by rw [e]; exact Hs_cons.mpr (.inl ⟨Nat.le_refl _, h1.1⟩))
      have : x.1 = u := by omega
      rw [← this]
      exact q.1
  · intro h
    have q := (w.2 u).mpr ⟨h, Nat.le_refl _, by omega⟩
    cases e : Cl04.within (Cl04.free s i) u (u + 1) with
    | nil =>
      rw [e] at q
      exact absurd q Hs_nil
    | cons x r =>
      rw [List.length_cons]
      omega
def spAt (C : Cs) (K : PySem.W.Frag) : Sp := fun vs H Q _ => ∃ (d c : Addr) (F : List Addr) (s : Cl04.State) (l : List Nat) (u : Nat), vs = [.ref d, .int u, .ref c] ∧ DA C H d F s ∧ WF s ∧ SqL K H c ((l.map Int.ofNat).map V.int) ∧ l.length ≤ 10 ∧ (∀ i ∈ l, i ≤ 20) ∧ Ret C H d F Q (Cl04.step s (.at_ u l))
theorem scAt : FnScope ["self", "moment", "people", "refusal", "k"] ["self", "moment", "people"] (defScope sAt) := ⟨rfl, rfl, rfl, by decide +kernel, rfl, by decide +kernel, by decide +kernel⟩
theorem ok_at {f : Addr} {C : Cs} {fd : FuncData} (F : Fun K "at" "Diary.at" sAt f fd) (T : TxtD K mg C) (TC : TxtC mg) (TS : TxtS mg) (GR : GRef P w K mg base C)
    (GF : GMeth P w K mg base C.D "free_stretches" ["self", "person", "a", "b"] 3 (spFreeSt C)) : FnOk P w K mg base CX0 4 f fd ["self", "moment", "people"] (spAt C K) := by
  refine F.ok scAt (fun vs H Q E h => ?_) (fun cdv A outer s H vs Q E hr h => ?_)
  · obtain ⟨d, c, F, s, l, u, rfl, _⟩ := h
    rfl
  · obtain ⟨d, c, F, st, l, u, rfl, hDA, hwf, hS, h10, h20, k⟩ := h
    obtain ⟨fk, fdk, GR, mR, bR⟩ := GR
    obtain ⟨ff, fdf, GF, mF, bF⟩ := GF
    obtain ⟨t4, e4⟩ := TC.moments
    have hr2 : Room 2 _ := hr.mono (by decide)
    refine ⟨_, pss_cons (ps_set (i := 3) scAt.nd rfl (Or.inl rfl) (pe_meth (pv 0) T.clD mR GR hr2 bR .nil pass0 (pa_cons (pv 2) (pa_cons (pe_cmpR op_lt (pv 1) (pe_glob (v := .int 144000) rfl e4 ⟨_, rfl⟩) (nomark _)) pa_nil))))
      (pss_cons (ps_if (pt_cmpR op_lt (pv 3) pe_int (nomark _)) (pss_one (ps_ret (pe_lst (pa_cons (pv 3) pa_nil)))) pss_nil)
      (pss_one (ps_ret (pe_lst (pa_cons (pe_callB (cr_sum rfl) (by rfl) TS.sum (by decide +kernel) (pa_cons
        (pe_lc (own := [("k", 4)]) (g := gName 4) (tt := tTest (tOp (rI0 fun i j => .bl (decide (j < i))) (tCB (rLenSeq K) (tCons (tMeth C.D "free_stretches" (spFreeSt C) [] E0 (tVar 0) (tCons (tVar 4) (tCons (tVar 1) (tCons (tOp (rI0 fun i j => .int (i + j)) (tVar 1) (tC (.int 1))) tNil)))) tNil)) (tC (.int 0))))
          (te := tOp (rI CPow fun i j => .int (i * 2 ^ j.toNat)) (tC (.int 1)) (tVar 4)) (by rfl) scAt.nd (pi_list (pv 2)) (blkOk_by (own := [("k", 4)]) (N := ["self", "moment", "people", "refusal", "k"]) (sc := defScope sAt) (by decide +kernel))
          (fun _ _ _ _ _ => pg_name (i := 4) scAt.nd rfl (Or.inl rfl))
          (fun _ _ _ _ _ => pts_one (pt_cmpR op_gt (pe_callB call_len_seq (by rfl) TC.len PySem.boot_len (pa_cons (pe_meth (pv 0) T.clD mF GF hr bF .nil pass0 (pa_cons (pv 4) (pa_cons (pv 1) (pa_cons (pe_op op_add (pv 1) pe_int) pa_nil)))) pa_nil)) pe_int (nomark _)))
          (fun _ _ _ _ _ => pe_op op_shl pe_int (pv 4))) pa_nil)) pa_nil))))), ?_⟩
    have hcopy := hDA
    obtain ⟨lp, de, ps, es, h, rfl⟩ := hDA
    obtain ⟨dx, hd⟩ := h.ins
    refine ⟨_, rfl, d, dx, _, rfl, hd, dF_no _ _ _ (by decide +kernel) (by decide +kernel) (by decide +kernel), _, rfl, _, rfl, _, _, rfl, rfl, d, c, _, st, l, _, rfl, hcopy, hS, h10, ?_⟩
    generalize hb : decide ((u : Int) < 144000) = fits
    have es1 : Cl04.step st (.at_ u l) = Cl04.all st l (if fits = true then [((Cl04.bits (l.filter fun i => Cl04.has (Cl04.free st i) u) : Nat) : Int)] else [-1]) := by
      refine congrArg (Cl04.all st l) ?_
      show (if 144000 ≤ u then [-1] else _) = _
      by_cases c : 144000 ≤ u
      · rw [if_pos c, if_neg]
        intro z
        rw [← hb, decide_eq_true_eq] at z
        omega
      · rw [if_neg c, if_pos]
        rw [← hb, decide_eq_true_eq]
        omega
    rw [es1] at k
    refine ⟨_, rfl, _, _, rfl, rfl, _, rfl, ?_⟩
    rcases ref_neg (s := st) (l := l) (fits := fits) with e0 | e0
    rotate_left
    · refine if_true_of (decide_eq_true e0) ?_
      exact ⟨_, rfl, (by show 1 ≤ sizeLine; decide), fun p np => k.just (l := [refM st l fits]) hcopy (Same.refl H) p np (ref_step (fun z => by rw [z]; rfl) e0)⟩
    · refine if_false_of (decide_eq_false (by omega)) ?_
      obtain ⟨hk, hnd, hne, ef⟩ := ref_ok e0
      rw [ef] at e0 hb k
      have hb := of_decide_eq_true hb
      rw [if_pos rfl, all_ok e0] at k
      refine ⟨_, rfl, c, rfl, ⟨_, hS⟩, fun D nD => ?_⟩
      refine lc_list (K := K) (a := c) (xs := (l.map Int.ofNat).map V.int) (fun j H' => Same H H' ∧ H' D = some (.lst ((atL st u (l.take j)).map V.int))) ⟨same_new nD, upd_same⟩ (fun j H' _ q => q.1.seq hS) ?_ ?_
      · rintro j y H' hj ⟨s5, hD⟩
        rw [List.getElem?_map, List.getElem?_map] at hj
        cases hx : l[j]? with
        | none =>
          rw [hx] at hj
          cases hj
        | some i =>
          rw [hx] at hj
          have ey : V.int (i : Int) = y := Option.some.inj hj
          subst ey
          have hi := hk i (List.mem_of_getElem? hx)
          have hi20 := h20 i (List.mem_of_getElem? hx)
          have step := atL_more (s := st) (u := u) hx
          refine ⟨rfl, ?_⟩
          refine ⟨_, rfl, d, dx, _, rfl, s5 _ _ hd, dF_no _ _ _ (by decide +kernel) (by decide +kernel) (by decide +kernel), _, rfl, _, rfl, _, rfl, _, _, rfl, rfl, d, _, st, i, u, u + 1, rfl, hcopy.same s5, hwf, hi, by omega, (by show u + 1 ≤ 144000; omega), fun H2 q us s6 nq hq hu => ?_⟩
          refine ⟨q, us, rfl, .inl (SqL.of hq), _, _, rfl, rfl, _, rfl, ?_⟩
          rw [hu.length, at_len]
          have hle := atL_le st u (l.take j)
          rw [List.length_take] at hle
          have hD2 := s6 _ _ hD
          by_cases c1 : Cl04.has (Cl04.free st i) u = true
          · refine if_true_of c1 ?_
            rw [if_pos c1] at step
            refine ⟨_, rfl, _, _, rfl, rfl, ⟨by omega, by omega, by decide⟩, _, hD2, ?_, ?_⟩
            · rw [List.length_map]
              exact Nat.lt_of_le_of_lt (show _ ≤ 10 by omega) (by decide)
            · refine ⟨fun c' o' hc' => ?_, ?_⟩
              · rw [upd_ne (ne_of_none hc' nD)]
                exact s6 _ _ (s5 _ _ hc')
              · rw [upd_same, step, List.map_append]
                refine congrArg (fun z => some (HO.lst (_ ++ [V.int z]))) ?_
                show 1 * 2 ^ ((i : Int)).toNat = (2 : Int) ^ i
                rw [Int.one_mul]
                rfl
          · refine if_false_of (by cases q : Cl04.has (Cl04.free st i) u with | true => exact absurd q c1 | false => rfl) ?_
            rw [if_neg c1, List.append_nil] at step
            exact ⟨s5.trans s6, by rw [step]; exact hD2⟩
      · rintro H' ⟨s5, hD⟩
        rw [List.length_map, List.length_map, List.take_length] at hD
        refine ⟨_, _, rfl, SqL.of hD, (by show 1 ≤ sizeLine; decide), fun p np => ?_⟩
        have e5 : (atL st u l).sum = ((Cl04.bits (l.filter fun i => Cl04.has (Cl04.free st i) u) : Nat) : Int) := wsum_bits _
        rw [e5]
        exact k.just (l := [((Cl04.bits (l.filter fun i => Cl04.has (Cl04.free st i) u) : Nat) : Int)]) hcopy s5 p np rfl
end
end Fb
namespace Fb
open PySem PySem.Spec PyProof.Rows L2
abbrev sFst : Stmt := top 1
abbrev sMt : Stmt := top 2
abbrev sTurns : Stmt := top 3
abbrev sBestS : Stmt := top 4
def upG (b g : Int) : Int := (b + g - 1) / g * g
def firstM (n g : Int) : List (Int × Int) → List Int
  | [] => []
  | x :: r => if upG x.1 g + n ≤ x.2 then [upG x.1 g] else firstM n g r
def spFst (K : PySem.W.Frag) : Sp := fun vs H Q _ => ∃ (a : Addr) (ws : List V) (l : List (Int × Int)) (n g : Int), vs = [.ref a, .int n, .int g] ∧ SqL K H a ws ∧ Tups H ws l ∧ (0 < g ∧ g < 1073741824) ∧ NewInts H Q (firstM n g l)
def mtI (l : List (Int × Int)) (b e : Int) : Int := (l.map fun x => mx 0 (mn e x.2 - mx b x.1)).sum
def spMt (K : PySem.W.Frag) : Sp := fun vs H Q _ => ∃ (a : Addr) (ws : List V) (l : List (Int × Int)) (b e : Int), vs = [.ref a, .int b, .int e] ∧ SqL K H a ws ∧ Tups H ws l ∧ l.length ≤ 1000000 ∧ ∀ H', Same H H' → Q (.int (mtI l b e)) H'
def turnsI (n : Int) (l : List (Int × Int)) : List Int := l.flatMap fun x => [x.1 - n, x.2]
theorem turns_len (n : Int) : ∀ l : List (Int × Int), (turnsI n l).length = 2 * l.length
  | [] => rfl
  | x :: l => by
    have ih := turns_len n l
    unfold turnsI at *
    rw [List.flatMap_cons, List.length_append, ih]
    show 2 + 2 * l.length = 2 * (l.length + 1)
    omega
theorem turns_more {n : Int} {l : List (Int × Int)} {i : Nat} {x : Int × Int} (h : l[i]? = some x) : turnsI n (l.take (i + 1)) = turnsI n (l.take i) ++ [x.1 - n, x.2] := by
  unfold turnsI
  rw [take_more h, List.flatMap_append, List.flatMap_cons, List.flatMap_nil, List.append_nil]
def spTurns (K : PySem.W.Frag) : Sp := fun vs H Q _ => ∃ (a : Addr) (ws : List V) (l : List (Int × Int)) (n : Int), vs = [.ref a, .int n] ∧ SqL K H a ws ∧ Tups H ws l ∧ l.length ≤ 400000 ∧ ∀ ns : List Int, ns.Perm (turnsI n l) → ns.Pairwise (· ≤ ·) → NewInts H Q ns
structure TxtG (mg : Str → Option Value) : Prop where
  len : mg "len" = none
  min : mg "min" = none
  max : mg "max" = none
  sum : mg "sum" = none
  sorted : mg "sorted" = none
abbrev tMax (t u : TE) : TE := tCB (fun xs H Q => ∃ i j, xs = [V.int i, V.int j] ∧ Q (V.int (if j > i then j else i)) H) (tCons t (tCons u tNil))
abbrev tMin (t u : TE) : TE := tCB (fun xs H Q => ∃ i j, xs = [V.int i, V.int j] ∧ Q (V.int (if j < i then j else i)) H) (tCons t (tCons u tNil))
theorem Vv.max {t u : TE} {σ : L2.St} {H : Hp} {x y : Int} (h1 : Vv t σ H (.int x)) (h2 : Vv u σ H (.int y)) : Vv (tMax t u) σ H (.int (mx x y)) := fun Q q => h1 _ (h2 _ ⟨x, y, rfl, q⟩)
theorem Vv.min {t u : TE} {σ : L2.St} {H : Hp} {x y : Int} (h1 : Vv t σ H (.int x)) (h2 : Vv u σ H (.int y)) : Vv (tMin t u) σ H (.int (mn x y)) := fun Q q => h1 _ (h2 _ ⟨x, y, rfl, q⟩)
theorem Vv.sub {a b : TE} {σ : L2.St} {H : Hp} {x y : Int} (h1 : Vv a σ H (.int x)) (h2 : Vv b σ H (.int y)) : Vv (tOp (rI0 fun i j => V.int (i - j)) a b) σ H (.int (x - y)) := Vv.i2 (f := fun i j => V.int (i - j)) h1 h2
section
variable {P : Program} {w : World} {K : PySem.W.Frag} {mg : Str → Option Value} {base : Heap}
theorem scFst : FnScope ["stretches", "long", "g", "begin", "end", "moment"] ["stretches", "long", "g"] (defScope sFst) := ⟨rfl, rfl, rfl, by decide +kernel, rfl, by decide +kernel, by decide +kernel⟩
theorem ok_fst {f : Addr} {fd : FuncData} (F : Fun K "first_start" "first_start" sFst f fd) : FnOk P w K mg base CX0 1 f fd ["stretches", "long", "g"] (spFst K) := by
  refine F.ok scFst (fun vs H Q E h => ?_) (fun cdv A outer s H vs Q E hr h => ?_)
  · obtain ⟨a, ws, l, n, g, rfl, _⟩ := h
    rfl
  · obtain ⟨a, ws, l, n, g, rfl, ha, ht, hg, k⟩ := h
    refine ⟨_, pss_cons (ps_for PassesOwn.never rfl (pi_list (pv 0)) (pg_tup rfl (pgs_cons (pg_name (i := 3) scFst.nd rfl (Or.inl rfl)) (pgs_cons (pg_name (i := 4) scFst.nd rfl (Or.inl rfl)) pgs_nil)))
        (pss_cons (ps_set (i := 5) scFst.nd rfl (Or.inl rfl) (pe_op op_mul (pe_op op_fdiv (pe_op op_sub (pe_op op_add (pv 3) (pv 2)) pe_int) (pv 2)) (pv 2)))
        (pss_one (ps_if (pt_cmpR op_le (pe_op op_add (pv 5) (pv 1)) (pv 4) (nomark _)) (pss_one (ps_ret (pe_lst (pa_cons (pv 5) pa_nil)))) pss_nil))))
      (pss_one (ps_ret (pe_lst pa_nil))), ?_⟩
    refine ⟨_, rfl, a, rfl, ⟨_, ha⟩, for_list (K := K) (a := a) (xs := ws) (fun i σ H' => ∃ (v1 v2 v3 : Option V), σ = [some (.ref a), some (.int n), some (.int g), v1, v2, v3] ∧ H' = H ∧ firstM n g (l.drop i) = firstM n g l)
      ⟨none, none, none, rfl, rfl, rfl⟩ (fun i σ H' _ ⟨_, _, _, _, e, _⟩ => e ▸ ha) ?_ ?_⟩
    · rintro i y σ H' hi ⟨v1, v2, v3, rfl, rfl, hres⟩
      obtain ⟨t, x, rfl, hx, h2⟩ := ht.get hi
      have el : l.drop i = x :: l.drop (i + 1) := by
        obtain ⟨q, e⟩ := List.getElem?_eq_some_iff.mp hx
        rw [List.drop_eq_getElem_cons q, e]
      rw [el] at hres
      have hres : (if upG x.1 g + n ≤ x.2 then [upG x.1 g] else firstM n g (l.drop (i + 1))) = firstM n g l := hres
      refine ⟨t, _, rfl, SqT.of h2, rfl, _, _, rfl, _, _, rfl, rfl, ?_⟩
      refine ⟨_, rfl, _, rfl, _, _, rfl, rfl, _, _, rfl, rfl, _, rfl, _, _, rfl, rfl, hg, _, rfl, _, _, rfl, rfl, .inr (by omega), ?_⟩
      refine ⟨_, rfl, _, rfl, _, _, rfl, rfl, _, rfl, _, _, rfl, rfl, _, rfl, ?_⟩
      by_cases c : upG x.1 g + n ≤ x.2
      · refine if_true_of (decide_eq_true c) ?_
        rw [if_pos c] at hres
        rw [← hres] at k
        exact ⟨_, rfl, (by show 1 ≤ sizeLine; decide), fun p np => k _ p (same_new np) np upd_same⟩
      · refine if_false_of (decide_eq_false c) ?_
        rw [if_neg c] at hres
        exact ⟨_, _, _, rfl, rfl, hres⟩
    · rintro σ H' ⟨v1, v2, v3, rfl, rfl, hres⟩
      rw [ht.length, List.drop_length] at hres
      rw [← hres] at k
      exact ⟨Nat.zero_le _, fun p np => k _ p (same_new np) np upd_same⟩
theorem scMt : FnScope ["taken", "begin", "end", "start", "stop"] ["taken", "begin", "end"] (defScope sMt) := ⟨rfl, rfl, rfl, by decide +kernel, rfl, by decide +kernel, by decide +kernel⟩
theorem ok_mt {f : Addr} {fd : FuncData} (F : Fun K "minutes_taken" "minutes_taken" sMt f fd) (T : TxtG mg) : FnOk P w K mg base CX0 1 f fd ["taken", "begin", "end"] (spMt K) := by
  refine F.ok scMt (fun vs H Q E h => ?_) (fun cdv A outer s H vs Q E hr h => ?_)
  · obtain ⟨a, ws, l, b, e, rfl, _⟩ := h
    rfl
  · obtain ⟨a, ws, l, b, e, rfl, ha, ht, hl, k⟩ := h
    refine ⟨_, pss_one (ps_ret (pe_callB (cr_sum rfl) (by rfl) T.sum (by decide +kernel) (pa_cons
      (pe_lc (own := [("start", 3), ("stop", 4)]) (g := gTup K 2 (gCons (gName 3) (gCons (gName 4) gNil))) (te := tMax (tC (.int 0)) (tOp (rI0 fun i j => .int (i - j)) (tMin (tVar 2) (tVar 4)) (tMax (tVar 1) (tVar 3)))) (by rfl) scMt.nd (pi_list (pv 0)) (blkOk_by (own := [("start", 3), ("stop", 4)]) (N := ["taken", "begin", "end", "start", "stop"]) (sc := defScope sMt) (by decide +kernel))
        (fun _ _ _ _ _ => pg_tup rfl (pgs_cons (pg_name (i := 3) scMt.nd rfl (Or.inl rfl)) (pgs_cons (pg_name (i := 4) scMt.nd rfl (Or.inl rfl)) pgs_nil)))
        (fun _ _ _ _ _ => pts_nil) (fun _ _ _ _ _ => pe_callB (call_max2 rfl) (by rfl) T.max (by decide +kernel) (pa_cons pe_int (pa_cons (pe_op op_sub
          (pe_callB (call_min2 rfl) (by rfl) T.min (by decide +kernel) (pa_cons (pv 2) (pa_cons (pv 4) pa_nil))) (pe_callB (call_max2 rfl) (by rfl) T.max (by decide +kernel) (pa_cons (pv 1) (pa_cons (pv 3) pa_nil)))) pa_nil)))) pa_nil))), ?_⟩
    refine ⟨_, rfl, a, rfl, ⟨_, ha⟩, fun D nD => ?_⟩
    refine lc_list (K := K) (a := a) (xs := ws) (fun i H' => Same H H' ∧ H' D = some (.lst (((l.take i).map fun x => mx 0 (mn e x.2 - mx b x.1)).map V.int))) ⟨same_new nD, upd_same⟩ (fun i H' _ q => q.1.seq ha) ?_ ?_
    · rintro i y H' hi ⟨s5, hD⟩
      obtain ⟨t, x, rfl, hx, h2⟩ := ht.get hi
      have hil : i < l.length := (List.getElem?_eq_some_iff.mp hx).1
      refine ⟨t, _, rfl, SqT.of (s5 _ _ h2), rfl, _, _, rfl, _, _, rfl, rfl, rfl, ?_⟩
      refine ⟨_, rfl, _, rfl, _, _, rfl, _, rfl, _, rfl, _, _, rfl, _, _, rfl, rfl, _, _, rfl, _, hD, ?_, ?_⟩
      · rw [List.length_map, List.length_map, List.length_take]
        exact Nat.lt_of_le_of_lt (show min i l.length ≤ 1000000 by omega) (by decide)
      · refine ⟨fun c o h => ?_, ?_⟩
        · rw [upd_ne (ne_of_none h nD)]
          exact s5 _ _ h
        · rw [upd_same, take_more hx, List.map_append, List.map_append]
          rfl
    · rintro H' ⟨s5, hD⟩
      rw [ht.length, List.take_length] at hD
      exact ⟨_, _, rfl, SqL.of hD, k _ s5⟩
theorem scTurns : FnScope ["taken", "long", "found", "begin", "end"] ["taken", "long"] (defScope sTurns) := ⟨rfl, rfl, rfl, by decide +kernel, rfl, by decide +kernel, by decide +kernel⟩
theorem ok_turns {f : Addr} {fd : FuncData} (F : Fun K "turns" "turns" sTurns f fd) (T : TxtG mg) : FnOk P w K mg base CX0 1 f fd ["taken", "long"] (spTurns K) := by
  refine F.ok scTurns (fun vs H Q E h => ?_) (fun cdv A outer s H vs Q E hr h => ?_)
  · obtain ⟨a, ws, l, n, rfl, _⟩ := h
    rfl
  · obtain ⟨a, ws, l, n, rfl, ha, ht, hl, k⟩ := h
    refine ⟨_, pss_cons (ps_set (i := 2) scTurns.nd rfl (Or.inl rfl) (pe_lst pa_nil))
      (pss_cons (ps_for PassesOwn.never rfl (pi_list (pv 0)) (pg_tup rfl (pgs_cons (pg_name (i := 3) scTurns.nd rfl (Or.inl rfl)) (pgs_cons (pg_name (i := 4) scTurns.nd rfl (Or.inl rfl)) pgs_nil)))
        (pss_cons (ps_expr (pe_bm PySem.F.plainAttrs_list PySem.F.slot_list_append PySem.F.type_list_append mt_append (pv 2) (pa_cons (pe_op op_sub (pv 3) (pv 1)) pa_nil)))
        (pss_one (ps_expr (pe_bm PySem.F.plainAttrs_list PySem.F.slot_list_append PySem.F.type_list_append mt_append (pv 2) (pa_cons (pv 4) pa_nil))))))
      (pss_one (ps_ret (pe_callB cr_sortedI (by rfl) T.sorted (by decide +kernel) (pa_cons (pv 2) pa_nil))))), ?_⟩
    refine ⟨Nat.zero_le _, fun p np => ?_⟩
    have s1 : Same H (upd H p (.lst [])) := same_new np
    refine ⟨_, rfl, a, rfl, ⟨_, s1.seq ha⟩, for_list (K := K) (a := a) (xs := ws) (fun i σ H' => ∃ (v1 v2 : Option V), σ = [some (.ref a), some (.int n), some (.ref p), v1, v2] ∧ Same H H' ∧ H' p = some (.lst ((turnsI n (l.take i)).map V.int)))
      ⟨none, none, rfl, s1, upd_same⟩ (fun i σ H' _ ⟨_, _, _, s5, _⟩ => s5.seq ha) ?_ ?_⟩
    · rintro i y σ H' hi ⟨v1, v2, rfl, s5, hp⟩
      obtain ⟨t, x, rfl, hx, h2⟩ := ht.get hi
      have hil : i < l.length := (List.getElem?_eq_some_iff.mp hx).1
      have tl := turns_len n (l.take i)
      rw [List.length_take] at tl
      refine ⟨t, _, rfl, SqT.of (s5 _ _ h2), rfl, _, _, rfl, _, _, rfl, rfl, ?_⟩
      refine ⟨_, rfl, .inl ⟨rfl, _, SqL.of hp⟩, _, rfl, _, rfl, _, _, rfl, rfl, p, _, _, rfl, rfl, hp, ?_, ?_⟩
      · rw [List.length_map]
        exact Nat.lt_of_le_of_lt (show _ ≤ 800000 by omega) (by decide)
      refine ⟨_, rfl, .inl ⟨rfl, _, SqL.of upd_same⟩, _, rfl, p, _, _, rfl, rfl, upd_same, ?_, ?_⟩
      · rw [List.length_append, List.length_map, List.length_singleton]
        exact Nat.lt_of_le_of_lt (show _ ≤ 800001 by omega) (by decide)
      · refine ⟨_, _, rfl, fun c o h => ?_, ?_⟩
        · rw [upd_ne (ne_of_none h np), upd_ne (ne_of_none h np)]
          exact s5 _ _ h
        · rw [upd_same, turns_more hx, List.map_append, List.append_assoc]
          rfl
    · rintro σ H' ⟨v1, v2, rfl, s5, hp⟩
      rw [ht.length, List.take_length] at hp
      refine ⟨_, rfl, p, _, rfl, SqL.of hp, fun ns q hperm hsort nq => ?_⟩
      exact k ns hperm hsort _ q (s5.trans (same_new nq)) (s5.free nq) upd_same
end
end Fb
namespace Fb
open PySem PySem.Spec PyProof.Rows L2
/-- found, as a list -/
def asL : Option (Int × Int) → List Int
  | none => []
  | some y => [y.1, y.2]
def bf (tk : List (Int × Int)) (n : Int) (t : Int) : Int := mtI tk t (t + n)
def bOf (tk : List (Int × Int)) (n : Int) (cs : List Int) (o : Option (Int × Int)) : Option (Int × Int) := cs.foldl (bestStep (bf tk n)) o
theorem bOf_more {tk : List (Int × Int)} {n : Int} {cs : List Int} {o : Option (Int × Int)} {i : Nat} {m : Int} (h : cs[i]? = some m) : bOf tk n (cs.take (i + 1)) o = bestStep (bf tk n) (bOf tk n (cs.take i) o) m := by
  unfold bOf
  rw [take_more h, List.foldl_append]
  rfl
theorem cands_more {n : Int} {ns : List Int} {l : List (Int × Int)} {i : Nat} {x : Int × Int} (h : l[i]? = some x) : cands n ns (l.take (i + 1)) = cands n ns (l.take i) ++ cands1 n ns x := by
  unfold cands
  rw [take_more h, List.flatMap_append, List.flatMap_cons, List.flatMap_nil, List.append_nil]
theorem bOf_app {tk : List (Int × Int)} {n : Int} {cs ds : List Int} {o : Option (Int × Int)} : bOf tk n (cs ++ ds) o = bOf tk n ds (bOf tk n cs o) := by
  unfold bOf
  rw [List.foldl_append]
def spBestS (K : PySem.W.Frag) : Sp := fun vs H Q _ => ∃ (a c : Addr) (ws us : List V) (l tk : List (Int × Int)) (n : Int), vs = [.ref a, .int n, .ref c] ∧ SqL K H a ws ∧ Tups H ws l ∧ SqL K H c us ∧ Tups H us tk ∧ tk.length ≤ 400000 ∧
  ∀ ns : List Int, ns.Perm (turnsI n tk) → ns.Pairwise (· ≤ ·) → NewInts H Q (asL (bOf tk n (cands n ns l) none))
section
variable {P : Program} {w : World} {K : PySem.W.Frag} {mg : Str → Option Value} {base : Heap}
theorem scBestS : FnScope ["stretches", "long", "taken", "found", "moments", "begin", "end", "latest", "moment", "minutes", "k"] ["stretches", "long", "taken"] (defScope sBestS) := ⟨rfl, rfl, rfl, by decide +kernel, rfl, by decide +kernel, by decide +kernel⟩
theorem ok_bestS {f : Addr} {fd : FuncData} (F : Fun K "best_start" "best_start" sBestS f fd) (T : TxtG mg) (GU : GFun P w K mg base "turns" ["taken", "long"] 1 (spTurns K)) (GM : GFun P w K mg base "minutes_taken" ["taken", "begin", "end"] 1 (spMt K)) : FnOk P w K mg base CX0 2 f fd ["stretches", "long", "taken"] (spBestS K) := by
  refine F.ok scBestS (fun vs H Q E h => ?_) (fun cdv A outer s H vs Q E hr h => ?_)
  · obtain ⟨a, c, ws, us, l, tk, n, rfl, _⟩ := h
    rfl
  · obtain ⟨a, c, ws, us, l, tk, n, rfl, ha, hl, hc, htk, tk4, k⟩ := h
    obtain ⟨fu, fdu, GU, mgu, kpu, bu⟩ := GU
    obtain ⟨fm, fdm, GM, mgm, kpm, bm⟩ := GM
    refine ⟨_, pss_cons (ps_set (i := 3) scBestS.nd rfl (Or.inl rfl) (pe_lst pa_nil))
      (pss_cons (ps_set (i := 4) scBestS.nd rfl (Or.inl rfl) (pe_call GU hr rfl mgu kpu bu .nil pass0 (pa_cons (pv 2) (pa_cons (pv 1) pa_nil))))
      (pss_cons (ps_for PassesOwn.never rfl (pi_list (pv 0)) (pg_tup rfl (pgs_cons (pg_name (i := 5) scBestS.nd rfl (Or.inr rfl)) (pgs_cons (pg_name (i := 6) scBestS.nd rfl (Or.inl rfl)) pgs_nil)))
        (pss_cons (ps_set (i := 7) scBestS.nd rfl (Or.inr rfl) (pe_op op_sub (pv 6) (pv 1)))
        (pss_one (ps_if (pt_cmpR op_le (pv 5) (pv 7) (nomark _))
          (pss_one (ps_for PassesOwn.never rfl (pi_list (pe_op op_cat (pe_op op_cat (pe_lst (pa_cons (pv 5) pa_nil))
              (pe_lc (own := [("k", 10)]) (g := gName 10) (tt := tAnd (tTest (tOp (rI0 fun i j => .bl (decide (i < j))) (tVar 5) (tVar 10))) (tTest (tOp (rI0 fun i j => .bl (decide (i < j))) (tVar 10) (tVar 7)))) (te := tVar 10) (by rfl) scBestS.nd (pi_list (pv 4))
                (blkOk_by (own := [("k", 10)]) (N := ["stretches", "long", "taken", "found", "moments", "begin", "end", "latest", "moment", "minutes", "k"]) (sc := defScope sBestS) (by decide +kernel))
                (fun _ _ _ _ _ => pg_name (i := 10) scBestS.nd rfl (Or.inl rfl))
                (fun _ _ _ _ _ => pts_one (PW.pt (pw_and (pt_cmpR op_lt (pv 5) (pv 10) (nomark _)) (pw_and1 (pt_cmpR op_lt (pv 10) (pv 7) (nomark _))))))
                (fun _ _ _ _ _ => pv 10))) (pe_lst (pa_cons (pv 7) pa_nil)))) (pg_name (i := 8) scBestS.nd rfl (Or.inl rfl))
            (pss_cons (ps_set (i := 9) scBestS.nd rfl (Or.inl rfl) (pe_call GM hr rfl mgm kpm bm .nil pass0 (pa_cons (pv 2) (pa_cons (pv 8) (pa_cons (pe_op op_add (pv 8) (pv 1)) pa_nil)))))
            (pss_one (ps_if (PW.pt (pw_or (pt_cmpR op_eq (pe_callB call_len_seq (by rfl) T.len PySem.boot_len (pa_cons (pv 3) pa_nil)) pe_int (nomark _)) (pw_or1 (pt_cmpR op_lt (pv 9) (pe_ix ix_list (pv 3) pe_int (fun _ _ => rfl)) (nomark _)))))
              (pss_one (ps_set (i := 3) scBestS.nd rfl (Or.inl rfl) (pe_lst (pa_cons (pv 8) (pa_cons (pv 9) pa_nil))))) pss_nil))))) pss_nil))))
      (pss_one (ps_ret (pv 3))))), ?_⟩
    refine ⟨Nat.zero_le _, fun q0 nq0 => ?_⟩
    have s0 : Same H (upd H q0 (.lst [])) := same_new nq0
    refine ⟨_, rfl, _, rfl, c, us, tk, n, rfl, s0.seq hc, htk.mono (TS1.same s0), tk4, fun ns hperm hsort H1 mo s1 nmo hmo => ?_⟩
    have k := k ns hperm hsort
    have nsl : ns.length ≤ 800000 := by
      rw [hperm.length_eq, turns_len]
      omega
    have s01 := s0.trans s1
    refine ⟨_, rfl, a, rfl, ⟨_, s01.seq ha⟩, for_list (K := K) (a := a) (xs := ws) (fun i σ H' => ∃ (q : Addr) (v5 v6 v7 v8 v9 : Option V), σ = [some (.ref a), some (.int n), some (.ref c), some (.ref q), some (.ref mo), v5, v6, v7, v8, v9, none] ∧ Same H1 H' ∧ H q = none ∧ H' q = some (.lst ((asL (bOf tk n (cands n ns (l.take i)) none)).map V.int)))
      ⟨q0, none, none, none, none, none, rfl, Same.refl _, nq0, s1 _ _ upd_same⟩ (fun i σ H' _ ⟨_, _, _, _, _, _, _, s5, _⟩ => (s01.trans s5).seq ha) ?_ ?_⟩
    · rintro i y σ H' hi ⟨q, v5, v6, v7, v8, v9, rfl, s5, nq, hq⟩
      obtain ⟨t, x, rfl, hx, h2⟩ := hl.get hi
      refine ⟨t, _, rfl, SqT.of ((s01.trans s5) _ _ h2), rfl, _, _, rfl, _, _, rfl, rfl, ?_⟩
      refine ⟨_, rfl, _, rfl, _, _, rfl, rfl, _, rfl, _, rfl, _, _, rfl, rfl, _, rfl, ?_⟩
      have cm := cands_more (n := n) (ns := ns) hx
      by_cases c1 : x.1 ≤ x.2 - n
      rotate_left
      · refine if_false_of (decide_eq_false c1) ?_
        have e : cands1 n ns x = [] := if_neg c1
        rw [e, List.append_nil] at cm
        exact ⟨q, _, _, _, _, _, rfl, s5, nq, by rw [cm]; exact hq⟩
      · refine if_true_of (decide_eq_true c1) ?_
        have ec : cands1 n ns x = [x.1] ++ ns.filter (fun k => decide (x.1 < k) && decide (k < x.2 - n)) ++ [x.2 - n] := if_pos c1
        refine ⟨_, rfl, (by show 1 ≤ sizeLine; decide), fun p1 np1 => ?_⟩
        have s6 : Same H' (upd H' p1 (.lst [.int x.1])) := same_new np1
        refine ⟨_, rfl, mo, rfl, ⟨_, SqL.of (s6 _ _ (s5 _ _ hmo))⟩, fun D nD => ?_⟩
        have np1D : p1 ≠ D := ne_of_none upd_same nD
        refine lc_list (K := K) (a := mo) (xs := ns.map V.int) (fun j H2 => Same (upd H' p1 (.lst [.int x.1])) H2 ∧ H2 D = some (.lst (((ns.take j).filter (fun k => decide (x.1 < k) && decide (k < x.2 - n))).map V.int))) ⟨same_new nD, upd_same⟩ (fun j H2 _ z => SqL.of (z.1 _ _ (s6 _ _ (s5 _ _ hmo)))) ?_ ?_
        · rintro j y H2 hj ⟨s7, hD⟩
          rw [List.getElem?_map] at hj
          cases hk : ns[j]? with
          | none =>
            rw [hk] at hj
            cases hj
          | some kk =>
            rw [hk] at hj
            have ey : V.int kk = y := Option.some.inj hj
            subst ey
            have hjl : j < ns.length := (List.getElem?_eq_some_iff.mp hk).1
            refine ⟨rfl, ?_⟩
            refine Tv.and (Tv.lt (.var rfl) (.var rfl)) (fun _ => Tv.lt (.var rfl) (.var rfl)) _ ?_
            have st : (ns.take (j + 1)).filter (fun k => decide (x.1 < k) && decide (k < x.2 - n)) = (ns.take j).filter (fun k => decide (x.1 < k) && decide (k < x.2 - n)) ++ (if (decide (x.1 < kk) && decide (kk < x.2 - n)) = true then [kk] else []) := by
              rw [take_more hk, List.filter_append, List.filter_cons, List.filter_nil]
            have fl : ((ns.take j).filter (fun k => decide (x.1 < k) && decide (k < x.2 - n))).length ≤ 800000 := by
              have := List.length_filter_le (fun k => decide (x.1 < k) && decide (k < x.2 - n)) (ns.take j)
              rw [List.length_take] at this
              omega
            by_cases c2 : (decide (x.1 < kk) && decide (kk < x.2 - n)) = true
            · refine if_true_of c2 ?_
              rw [if_pos c2] at st
              refine ⟨_, rfl, _, hD, ?_, ?_, ?_⟩
              · rw [List.length_map]
                exact Nat.lt_of_le_of_lt fl (by decide)
              · intro c' o' hc'
                rw [upd_ne (ne_of_none hc' nD)]
                exact s7 _ _ hc'
              · rw [upd_same, st, List.map_append]
                rfl
            · refine if_false_of (by cases z : (decide (x.1 < kk) && decide (kk < x.2 - n)) with | true => exact absurd z c2 | false => rfl) ?_
              rw [if_neg c2, List.append_nil] at st
              exact ⟨s7, by rw [st]; exact hD⟩
        · rintro H2 ⟨s7, hD⟩
          rw [List.length_map, List.take_length] at hD
          have hp1 := s7 _ _ upd_same
          have fl : (ns.filter (fun k => decide (x.1 < k) && decide (k < x.2 - n))).length ≤ 800000 := Nat.le_trans (List.length_filter_le _ _) nsl
          refine ⟨p1, D, _, _, rfl, rfl, hp1, hD, ?_, fun p3 np3 => ?_⟩
          · rw [List.length_map, List.length_singleton]
            exact Nat.le_trans (show _ ≤ 800001 by omega) (by decide)
          refine ⟨_, rfl, (by show 1 ≤ sizeLine; decide), fun p4 np4 => ?_⟩
          have np34 : p3 ≠ p4 := ne_of_none upd_same np4
          refine ⟨p3, p4, _, _, rfl, rfl, (upd_ne np34).trans upd_same, upd_same, ?_, fun p5 np5 => ?_⟩
          · rw [List.length_append, List.length_map, List.length_singleton, List.length_singleton]
            exact Nat.le_trans (show _ ≤ 800002 by omega) (by decide)
          have el : [V.int x.1] ++ (ns.filter (fun k => decide (x.1 < k) && decide (k < x.2 - n))).map V.int ++ [V.int (x.2 - n)] = (cands1 n ns x).map V.int := by
            rw [ec, List.map_append, List.map_append]
            rfl
          rw [el]
          have s8 : Same H' (upd (upd (upd H2 p3 (.lst ([V.int x.1] ++ (ns.filter (fun k => decide (x.1 < k) && decide (k < x.2 - n))).map V.int))) p4 (.lst [V.int (x.2 - n)])) p5 (.lst ((cands1 n ns x).map V.int))) :=
            (((s6.trans s7).trans (same_new np3)).trans (same_new np4)).trans (same_new np5)
          generalize hH5 : upd (upd (upd H2 p3 (.lst ([V.int x.1] ++ (ns.filter (fun k => decide (x.1 < k) && decide (k < x.2 - n))).map V.int))) p4 (.lst [V.int (x.2 - n)])) p5 (.lst ((cands1 n ns x).map V.int)) = H5 at s8
          have h5 : H5 p5 = some (.lst ((cands1 n ns x).map V.int)) := by
            rw [← hH5]
            exact upd_same
          refine ⟨p5, rfl, ⟨_, SqL.of h5⟩, for_list (K := K) (a := p5) (xs := (cands1 n ns x).map V.int) (fun j σ H6 => ∃ (q : Addr) (v8 v9 : Option V), σ = [some (.ref a), some (.int n), some (.ref c), some (.ref q), some (.ref mo), some (.int x.1), some (.int x.2), some (.int (x.2 - n)), v8, v9, none] ∧ Same H5 H6 ∧ H q = none ∧ H6 q = some (.lst ((asL (bOf tk n ((cands1 n ns x).take j) (bOf tk n (cands n ns (l.take i)) none))).map V.int)))
            ⟨q, _, _, rfl, Same.refl _, nq, s8 _ _ hq⟩ (fun j σ H6 _ ⟨_, _, _, _, z, _⟩ => SqL.of (z _ _ h5)) ?_ ?_⟩
          · rintro j y σ H6 hj ⟨q, v8, v9, rfl, s9, nq, hq⟩
            rw [List.getElem?_map] at hj
            cases hm : (cands1 n ns x)[j]? with
            | none =>
              rw [hm] at hj
              cases hj
            | some m =>
              rw [hm] at hj
              have ey : V.int m = y := Option.some.inj hj
              subst ey
              have sH6 : Same H H6 := ((s01.trans s5).trans s8).trans s9
              refine ⟨_, rfl, _, rfl, _, rfl, _, rfl, _, _, rfl, rfl, c, us, tk, m, m + n, rfl, sH6.seq hc, htk.mono (TS1.same sH6), by omega, fun H7 s10 => ?_⟩
              have bm := bOf_more (tk := tk) (n := n) (o := bOf tk n (cands n ns (l.take i)) none) hm
              have hq7 := s10 _ _ hq
              have set : ∀ (o : Option (Int × Int)), bOf tk n ((cands1 n ns x).take (j + 1)) (bOf tk n (cands n ns (l.take i)) none) = some (m, bf tk n m) → ∀ p, H7 p = none → H p = none ∧ upd H7 p (.lst [.int m, .int (mtI tk m (m + n))]) p = some (.lst ((asL (bOf tk n ((cands1 n ns x).take (j + 1)) (bOf tk n (cands n ns (l.take i)) none))).map V.int)) := fun _ e p np => by
                refine ⟨(sH6.trans s10).free np, ?_⟩
                rw [upd_same, e]
                rfl
              generalize bOf tk n ((cands1 n ns x).take j) (bOf tk n (cands n ns (l.take i)) none) = o at bm hq7
              cases o with
              | none =>
                refine ⟨_, rfl, q, _, rfl, .inl (SqL.of hq7), rfl, _, rfl, ?_⟩
                refine if_true_of (by decide) ?_
                refine if_true_of rfl ?_
                refine ⟨_, rfl, _, rfl, (by show 2 ≤ sizeLine; decide), fun p np => ?_⟩
                obtain ⟨z1, z2⟩ := set none bm p np
                exact ⟨p, _, _, rfl, (s9.trans s10).trans (same_new np), z1, z2⟩
              | some y =>
                refine ⟨_, rfl, q, _, rfl, .inl (SqL.of hq7), rfl, _, rfl, ?_⟩
                refine if_false_of (by show decide (V.int ((2 : Nat) : Int) = V.int 0) = false; decide) ?_
                refine ⟨_, rfl, _, rfl, q, _, _, _, rfl, rfl, SqL.of hq7, rfl, _, _, rfl, rfl, _, rfl, ?_⟩
                by_cases c3 : bf tk n m < y.2
                · refine if_true_of (decide_eq_true c3) ?_
                  have bm : _ = some (m, bf tk n m) := bm.trans (if_pos c3)
                  refine ⟨_, rfl, _, rfl, (by show 2 ≤ sizeLine; decide), fun p np => ?_⟩
                  obtain ⟨z1, z2⟩ := set none bm p np
                  exact ⟨p, _, _, rfl, (s9.trans s10).trans (same_new np), z1, z2⟩
                · refine if_false_of (decide_eq_false c3) ?_
                  have bm : _ = some y := bm.trans (if_neg c3)
                  exact ⟨q, _, _, rfl, s9.trans s10, nq, by rw [bm]; exact hq7⟩
          · rintro σ H6 ⟨q, v8, v9, rfl, s9, nq, hq⟩
            rw [List.length_map, List.take_length, ← bOf_app, ← cm] at hq
            exact ⟨q, _, _, _, _, _, rfl, (s5.trans s8).trans s9, nq, hq⟩
    · rintro σ H' ⟨q, v5, v6, v7, v8, v9, rfl, s5, nq, hq⟩
      rw [hl.length, List.take_length] at hq
      exact ⟨_, rfl, k _ q (s01.trans s5) nq hq⟩
end
end Fb
namespace Fb
open PySem PySem.Spec PyProof.Rows L2
abbrev sChg : Stmt := top 5
abbrev sMostS : Stmt := top 6
/-! ### triples in the heap -/
def Tri (H : Hp) (v : V) (x : T3) : Prop := ∃ t, v = .ref t ∧ H t = some (.tup [.int x.1, .int x.2.1, .int x.2.2])
def Trips (H : Hp) : List V → List T3 → Prop
  | [], [] => True
  | v :: vs, x :: l => Tri H v x ∧ Trips H vs l
  | _, _ => False
theorem Trips.mono {H H' : Hp} (h : TS1 H H') : ∀ {vs : List V} {l : List T3}, Trips H vs l → Trips H' vs l
  | [], [], _ => trivial
  | v :: vs, x :: l, q => by
    obtain ⟨⟨t, e, ht⟩, r⟩ := q
    exact ⟨⟨t, e, h _ _ ht⟩, Trips.mono h r⟩
  | [], _ :: _, q => q.elim
  | _ :: _, [], q => q.elim
theorem Trips.length {H : Hp} : ∀ {vs : List V} {l : List T3}, Trips H vs l → vs.length = l.length
  | [], [], _ => rfl
  | _ :: vs, _ :: l, q => congrArg (· + 1) (Trips.length (vs := vs) (l := l) q.2)
  | [], _ :: _, q => q.elim
  | _ :: _, [], q => q.elim
theorem Trips.get {H : Hp} : ∀ {vs : List V} {l : List T3} {i : Nat} {v : V}, Trips H vs l → vs[i]? = some v → ∃ x, l[i]? = some x ∧ Tri H v x
  | [], [], i, v, _, e => by simp at e
  | w :: vs, x :: l, 0, v, q, e => ⟨x, rfl, (Option.some.inj e) ▸ q.1⟩
  | w :: vs, x :: l, i + 1, v, q, e => Trips.get (vs := vs) (l := l) (i := i) q.2 e
  | [], _ :: _, _, _, q, _ => q.elim
  | _ :: _, [], _, _, q, _ => q.elim
theorem Trips.append {H : Hp} : ∀ {vs ws : List V} {l m : List T3}, Trips H vs l → Trips H ws m → Trips H (vs ++ ws) (l ++ m)
  | [], _, [], _, _, r => r
  | _ :: vs, ws, _ :: l, m, q, r => ⟨q.1, Trips.append (vs := vs) (l := l) q.2 r⟩
  | [], _, _ :: _, _, q, _ => q.elim
  | _ :: _, _, [], _, q, _ => q.elim
theorem Trips.one {H : Hp} {t : Addr} {x : T3} (h : H t = some (.tup [.int x.1, .int x.2.1, .int x.2.2])) : Trips H [.ref t] [x] := ⟨⟨t, rfl, h⟩, trivial⟩
def k3Of (H : Hp) (v : V) : T3 := match v with
  | .ref t => match H t with
    | some (.tup [.int x, .int y, .int z]) => (x, y, z)
    | _ => (0, 0, 0)
  | _ => (0, 0, 0)
theorem k3_of {H : Hp} {v : V} {x : T3} (h : Tri H v x) : k3Of H v = x := by
  obtain ⟨t, rfl, ht⟩ := h
  unfold k3Of
  simp only [ht]
theorem Trips.k {H : Hp} : ∀ {vs : List V} {l : List T3}, Trips H vs l → l = vs.map (k3Of H)
  | [], [], _ => rfl
  | v :: vs, x :: l, q => by rw [List.map_cons, k3_of q.1, ← Trips.k (vs := vs) (l := l) q.2]
  | [], _ :: _, q => q.elim
  | _ :: _, [], q => q.elim
theorem Trips.mem {H : Hp} {vs : List V} {l : List T3} (h : Trips H vs l) : ∀ v ∈ vs, Tri H v (k3Of H v) := fun v hv => by
  obtain ⟨i, hi⟩ := List.getElem?_of_mem hv
  obtain ⟨x, _, ht⟩ := h.get hi
  rw [k3_of ht]
  exact ht
theorem trips_of {H : Hp} : ∀ {vs : List V}, (∀ v ∈ vs, Tri H v (k3Of H v)) → Trips H vs (vs.map (k3Of H))
  | [], _ => trivial
  | v :: vs, h => ⟨h v (List.mem_cons_self ..), trips_of fun u hu => h u (List.mem_cons_of_mem _ hu)⟩
/-- a new list of triples at p -/
def NewTr (H : Hp) (Q : VK) (l : List T3) : Prop := ∀ (H' : Hp) (p : Addr) (ws : List V), Same H H' → H p = none → H' p = some (.lst ws) → Trips H' ws l → Q (.ref p) H'
theorem chg_more {n P : Int} {l : List (Int × Int)} {i : Nat} {x : Int × Int} (h : l[i]? = some x) : chg n P (l.take (i + 1)) = chg n P (l.take i) ++ chg1 n P x := by
  unfold chg
  rw [take_more h, List.flatMap_append, List.flatMap_cons, List.flatMap_nil, List.append_nil]
theorem chg_le (n P : Int) : ∀ l : List (Int × Int), (chg n P l).length ≤ 2 * l.length
  | [] => Nat.le_refl _
  | x :: l => by
    have ih := chg_le n P l
    unfold chg at *
    rw [List.flatMap_cons, List.length_append, List.length_cons]
    have : (chg1 n P x).length ≤ 2 := by
      unfold chg1
      split
      · exact Nat.le_refl _
      · exact Nat.zero_le _
    omega
def spChg (K : PySem.W.Frag) : Sp := fun vs H Q _ => ∃ (i : Nat) (a : Addr) (ws : List V) (l : List (Int × Int)) (n : Int), vs = [.int i, .ref a, .int n] ∧ i ≤ 20 ∧ SqL K H a ws ∧ Tups H ws l ∧ l.length ≤ 400000 ∧ NewTr H Q (chg n ((2 : Int) ^ i) l)
def spMostS (K : PySem.W.Frag) : Sp := fun vs H Q _ => ∃ (a : Int) (c : Addr) (ws : List V) (l : List T3), vs = [.int a, .ref c] ∧ SqL K H c ws ∧ Trips H ws l ∧ (∀ y ∈ l, -1 ≤ y.2.1 ∧ y.2.1 ≤ 1) ∧ ∀ l' : List T3, l'.Perm l → l'.Pairwise Ord3 → NewInts H Q [(mostM a l').1.1, (mostM a l').1.2.1, (mostM a l').1.2.2]
section
variable {P : Program} {w : World} {K : PySem.W.Frag} {mg : Str → Option Value} {base : Heap}
theorem scChg : FnScope ["person", "stretches", "long", "found", "begin", "end"] ["person", "stretches", "long"] (defScope sChg) := ⟨rfl, rfl, rfl, by decide +kernel, rfl, by decide +kernel, by decide +kernel⟩
theorem ok_chg {f : Addr} {fd : FuncData} (F : Fun K "changes" "changes" sChg f fd) : FnOk P w K mg base CX0 1 f fd ["person", "stretches", "long"] (spChg K) := by
  refine F.ok scChg (fun vs H Q E h => ?_) (fun cdv A outer s H vs Q E hr h => ?_)
  · obtain ⟨i, a, ws, l, n, rfl, _⟩ := h
    rfl
  · obtain ⟨i, a, ws, l, n, rfl, hi20, ha, ht, hl, k⟩ := h
    refine ⟨_, pss_cons (ps_set (i := 3) scChg.nd rfl (Or.inl rfl) (pe_lst pa_nil))
      (pss_cons (ps_for PassesOwn.never rfl (pi_list (pv 1)) (pg_tup rfl (pgs_cons (pg_name (i := 4) scChg.nd rfl (Or.inl rfl)) (pgs_cons (pg_name (i := 5) scChg.nd rfl (Or.inl rfl)) pgs_nil)))
        (pss_one (ps_if (pt_cmpR op_le (pe_op op_add (pv 4) (pv 2)) (pv 5) (nomark _))
          (pss_cons (ps_expr (pe_bm PySem.F.plainAttrs_list PySem.F.slot_list_append PySem.F.type_list_append mt_append (pv 3) (pa_cons (pe_tup (pa_cons (pv 4) (pa_cons pe_int (pa_cons (pe_op op_shl pe_int (pv 0)) pa_nil)))) pa_nil)))
          (pss_one (ps_expr (pe_bm PySem.F.plainAttrs_list PySem.F.slot_list_append PySem.F.type_list_append mt_append (pv 3) (pa_cons (pe_tup (pa_cons (pe_op op_add (pe_op op_sub (pv 5) (pv 2)) pe_int) (pa_cons (pe_un un_neg pe_int) (pa_cons (pe_op op_shl pe_int (pv 0)) pa_nil)))) pa_nil))))) pss_nil)))
      (pss_one (ps_ret (pv 3)))), ?_⟩
    have ep : (1 : Int) * 2 ^ ((i : Int)).toNat = (2 : Int) ^ i := by
      rw [Int.one_mul]
      rfl
    have cp : CPow 1 (i : Int) := ⟨by omega, by omega, by decide⟩
    refine ⟨Nat.zero_le _, fun p np => ?_⟩
    have s1 : Same H (upd H p (.lst [])) := same_new np
    refine ⟨_, rfl, a, rfl, ⟨_, s1.seq ha⟩, for_list (K := K) (a := a) (xs := ws) (fun j σ H' => ∃ (v1 v2 : Option V) (us : List V), σ = [some (.int i), some (.ref a), some (.int n), some (.ref p), v1, v2] ∧ Same H H' ∧ H' p = some (.lst us) ∧ Trips H' us (chg n ((2 : Int) ^ i) (l.take j)))
      ⟨none, none, [], rfl, s1, upd_same, trivial⟩ (fun j σ H' _ ⟨_, _, _, _, s5, _⟩ => s5.seq ha) ?_ ?_⟩
    · rintro j y σ H' hj ⟨v1, v2, us, rfl, s5, hp, hu⟩
      obtain ⟨t, x, rfl, hx, h2⟩ := ht.get hj
      have hjl : j < l.length := (List.getElem?_eq_some_iff.mp hx).1
      have cm := chg_more (n := n) (P := (2 : Int) ^ i) hx
      have hul := hu.length
      have hle := chg_le n ((2 : Int) ^ i) (l.take j)
      rw [List.length_take] at hle
      refine ⟨t, _, rfl, SqT.of (s5 _ _ h2), rfl, _, _, rfl, _, _, rfl, rfl, ?_⟩
      refine ⟨_, rfl, _, rfl, _, _, rfl, rfl, _, rfl, _, _, rfl, rfl, _, rfl, ?_⟩
      by_cases c : x.1 + n ≤ x.2
      · refine if_true_of (decide_eq_true c) ?_
        have ec : chg1 n ((2 : Int) ^ i) x = [(x.1, 1, (2 : Int) ^ i), (x.2 - n + 1, -1, (2 : Int) ^ i)] := if_pos c
        rw [ec] at cm
        refine ⟨_, rfl, .inl ⟨rfl, _, SqL.of hp⟩, _, rfl, _, rfl, _, _, rfl, rfl, cp, (by show 3 ≤ sizeLine; decide), fun q nq => ?_⟩
        have npq : p ≠ q := ne_of_none hp nq
        refine ⟨p, _, _, rfl, rfl, (upd_ne npq).trans hp, Nat.lt_of_le_of_lt (show us.length ≤ 800000 by omega) (by decide), ?_⟩
        have t1 : Trips (upd (upd H' q (.tup [.int x.1, .int 1, .int (1 * 2 ^ ((i : Int)).toNat)])) p (.lst (us ++ [.ref q]))) (us ++ [.ref q]) (chg n ((2 : Int) ^ i) (l.take j) ++ [(x.1, 1, (2 : Int) ^ i)]) := by
          refine (hu.mono ((TS1.new nq).trans (TS1.lst ((upd_ne npq).trans hp)))).append (Trips.one ?_)
          rw [upd_ne npq.symm, upd_same, ep]
        have s6 : Same H (upd (upd H' q (.tup [.int x.1, .int 1, .int (1 * 2 ^ ((i : Int)).toNat)])) p (.lst (us ++ [.ref q]))) := fun c' o' hc' => by
          rw [upd_ne (ne_of_none hc' np), upd_ne (ne_of_none (s5 _ _ hc') nq)]
          exact s5 _ _ hc'
        generalize hH6 : upd (upd H' q (.tup [.int x.1, .int 1, .int (1 * 2 ^ ((i : Int)).toNat)])) p (.lst (us ++ [.ref q])) = H6 at t1 s6
        have hp6 : H6 p = some (.lst (us ++ [.ref q])) := by
          rw [← hH6]
          exact upd_same
        refine ⟨_, rfl, .inl ⟨rfl, _, SqL.of hp6⟩, _, rfl, _, rfl, _, _, rfl, rfl, _, _, rfl, rfl, _, rfl, _, rfl, _, _, rfl, rfl, cp, (by show 3 ≤ sizeLine; decide), fun q2 nq2 => ?_⟩
        have npq2 : p ≠ q2 := ne_of_none hp6 nq2
        refine ⟨p, _, _, rfl, rfl, (upd_ne npq2).trans hp6, Nat.lt_of_le_of_lt (show (us ++ [V.ref q]).length ≤ 800001 by rw [List.length_append, List.length_singleton]; omega) (by decide), ?_⟩
        refine ⟨_, _, _, rfl, fun c' o' hc' => ?_, upd_same, ?_⟩
        · rw [upd_ne (ne_of_none hc' np), upd_ne (ne_of_none (s6 _ _ hc') nq2)]
          exact s6 _ _ hc'
        · rw [cm]
          have e2 : chg n ((2 : Int) ^ i) (l.take j) ++ [(x.1, 1, (2 : Int) ^ i), (x.2 - n + 1, -1, (2 : Int) ^ i)] = chg n ((2 : Int) ^ i) (l.take j) ++ [(x.1, 1, (2 : Int) ^ i)] ++ [(x.2 - n + 1, -1, (2 : Int) ^ i)] := by
            rw [List.append_assoc]
            rfl
          rw [e2]
          refine (t1.mono ((TS1.new nq2).trans (TS1.lst ((upd_ne npq2).trans hp6)))).append (Trips.one ?_)
          rw [upd_ne npq2.symm, upd_same]
          show some (HO.tup [.int (x.2 - n + 1), .int (-1), .int (1 * 2 ^ ((i : Int)).toNat)]) = _
          rw [ep]
      · refine if_false_of (decide_eq_false c) ?_
        have ec : chg1 n ((2 : Int) ^ i) x = [] := if_neg c
        rw [ec, List.append_nil] at cm
        exact ⟨_, _, us, rfl, s5, hp, by rw [cm]; exact hu⟩
    · rintro σ H' ⟨v1, v2, us, rfl, s5, hp, hu⟩
      rw [ht.length, List.take_length] at hu
      exact ⟨_, rfl, k H' p us s5 np hp hu⟩
theorem mostM_more {a : Int} {l : List T3} {i : Nat} {y : T3} (h : l[i]? = some y) : mostM a (l.take (i + 1)) = mostStep (mostM a (l.take i)) y := by
  unfold mostM
  rw [take_more h, List.foldl_append]
  rfl
theorem scMostS : FnScope ["a", "steps", "found", "count", "who", "moment", "step", "power"] ["a", "steps"] (defScope sMostS) := ⟨rfl, rfl, rfl, by decide +kernel, rfl, by decide +kernel, by decide +kernel⟩
theorem ok_mostS {f : Addr} {fd : FuncData} (F : Fun K "most_start" "most_start" sMostS f fd) (T : TxtG mg) : FnOk P w K mg base CX0 1 f fd ["a", "steps"] (spMostS K) := by
  refine F.ok scMostS (fun vs H Q E h => ?_) (fun cdv A outer s H vs Q E hr h => ?_)
  · obtain ⟨a, c, ws, l, rfl, _⟩ := h
    rfl
  · obtain ⟨a, c, ws, l, rfl, hc, ht, hst, k⟩ := h
    refine ⟨_, pss_cons (ps_set (i := 2) scMostS.nd rfl (Or.inl rfl) (pe_lst (pa_cons (pv 0) (pa_cons pe_int (pa_cons pe_int pa_nil)))))
      (pss_cons (ps_set (i := 3) scMostS.nd rfl (Or.inl rfl) pe_int)
      (pss_cons (ps_set (i := 4) scMostS.nd rfl (Or.inl rfl) pe_int)
      (pss_cons (ps_for PassesOwn.never rfl (pi_list (pe_callB cr_sorted3 (by rfl) T.sorted (by decide +kernel) (pa_cons (pv 1) pa_nil))) (pg_tup rfl (pgs_cons (pg_name (i := 5) scMostS.nd rfl (Or.inl rfl)) (pgs_cons (pg_name (i := 6) scMostS.nd rfl (Or.inl rfl)) (pgs_cons (pg_name (i := 7) scMostS.nd rfl (Or.inl rfl)) pgs_nil))))
        (pss_cons (ps_aug (i := 3) scMostS.nd rfl (Or.inl rfl) (pv 6) ip_add)
        (pss_cons (ps_aug (i := 4) scMostS.nd rfl (Or.inl rfl) (pe_op op_mul (pv 6) (pv 7)) ip_add)
        (pss_one (ps_if (pt_cmpR op_gt (pv 3) (pe_ix ix_list (pv 2) pe_int (fun _ _ => rfl)) (nomark _)) (pss_one (ps_set (i := 2) scMostS.nd rfl (Or.inl rfl) (pe_lst (pa_cons (pv 5) (pa_cons (pv 3) (pa_cons (pv 4) pa_nil)))))) pss_nil)))))
      (pss_one (ps_ret (pv 2)))))), ?_⟩
    refine ⟨_, rfl, (by show 3 ≤ sizeLine; decide), fun q0 nq0 => ?_⟩
    have s0 : Same H (upd H q0 (.lst [.int a, .int 0, .int 0])) := same_new nq0
    refine ⟨_, rfl, c, ws, k3Of H, rfl, s0.seq hc, fun v hv => ?_, fun ys p hperm0 hsrt np => ?_⟩
    · obtain ⟨t, e, z⟩ := ht.mem v hv
      exact ⟨t, e, s0 _ _ z⟩
    have nqp : q0 ≠ p := ne_of_none upd_same np
    have hys : Trips H ys (ys.map (k3Of H)) := trips_of fun v hv => ht.mem v (hperm0.mem_iff.mp hv)
    have hperm : (ys.map (k3Of H)).Perm l := by
      have z := hperm0.map (k3Of H)
      rw [← ht.k] at z
      exact z
    have hord : (ys.map (k3Of H)).Pairwise Ord3 := by
      rw [List.pairwise_map]
      refine List.Pairwise.imp (fun {x y} hxy => ?_) hsrt
      have z := lex3_no.mp hxy
      unfold Ord3
      omega
    have k := k _ hperm hord
    have hst : ∀ y ∈ ys.map (k3Of H), -1 ≤ y.2.1 ∧ y.2.1 ≤ 1 := fun y hy => hst y (hperm.mem_iff.mp hy)
    generalize ys.map (k3Of H) = l' at hys k hst
    have s1 : Same H (upd (upd H q0 (.lst [.int a, .int 0, .int 0])) p (.lst ys)) := s0.trans (same_new np)
    refine ⟨p, rfl, ⟨_, SqL.of upd_same⟩, for_list (K := K) (a := p) (xs := ys) (fun i σ H' => ∃ (q : Addr) (v5 v6 v7 : Option V), σ = [some (.int a), some (.ref c), some (.ref q), some (.int (mostM a (l'.take i)).2.1), some (.int (mostM a (l'.take i)).2.2), v5, v6, v7] ∧ Same H H' ∧ H' p = some (.lst ys) ∧ H q = none ∧ H' q = some (.lst [.int (mostM a (l'.take i)).1.1, .int (mostM a (l'.take i)).1.2.1, .int (mostM a (l'.take i)).1.2.2]))
      ⟨q0, none, none, none, rfl, s1, upd_same, nq0, (upd_ne nqp).trans upd_same⟩ (fun i σ H' _ ⟨_, _, _, _, _, _, z, _⟩ => SqL.of z) ?_ ?_⟩
    · rintro i v σ H' hi ⟨q, v5, v6, v7, rfl, s5, hp, nq, hq⟩
      obtain ⟨y, hy, t, rfl, h2⟩ := hys.get hi
      have hb := hst y (List.mem_of_getElem? hy)
      have mm := mostM_more (a := a) hy
      generalize mostM a (l'.take i) = st at mm hq
      refine ⟨t, _, rfl, SqT.of (s5 _ _ h2), rfl, _, _, rfl, _, _, rfl, _, _, rfl, rfl, ?_⟩
      refine ⟨_, rfl, _, rfl, _, _, rfl, rfl, ?_⟩
      refine ⟨_, rfl, _, rfl, _, rfl, _, _, rfl, rfl, .inl (by omega), _, _, rfl, rfl, ?_⟩
      refine ⟨_, rfl, _, rfl, q, _, _, _, rfl, rfl, SqL.of hq, rfl, _, _, rfl, rfl, _, rfl, ?_⟩
      by_cases cc : st.2.1 + y.2.1 > st.1.2.1
      · refine if_true_of (decide_eq_true cc) ?_
        have em : mostStep st y = ((y.1, st.2.1 + y.2.1, st.2.2 + y.2.1 * y.2.2), st.2.1 + y.2.1, st.2.2 + y.2.1 * y.2.2) := by
          unfold mostStep
          rw [if_pos cc]
        rw [em] at mm
        refine ⟨_, rfl, _, rfl, _, rfl, (by show 3 ≤ sizeLine; decide), fun q2 nq2 => ?_⟩
        refine ⟨q2, some (.int y.1), some (.int y.2.1), some (.int y.2.2), by rw [mm]; rfl, s5.trans (same_new nq2), (upd_ne (ne_of_none hp nq2)).trans hp, s5.free nq2, ?_⟩
        rw [upd_same, mm]
      · refine if_false_of (decide_eq_false cc) ?_
        have em : mostStep st y = (st.1, st.2.1 + y.2.1, st.2.2 + y.2.1 * y.2.2) := by
          unfold mostStep
          rw [if_neg cc]
        rw [em] at mm
        exact ⟨q, some (.int y.1), some (.int y.2.1), some (.int y.2.2), by rw [mm]; rfl, s5, hp, nq, by rw [mm]; exact hq⟩
    · rintro σ H' ⟨q, v5, v6, v7, rfl, s5, hp, nq, hq⟩
      rw [hys.length, List.take_length] at hq
      exact ⟨_, rfl, k _ q s5 nq hq⟩
end
end Fb
/-! first, best, most: what the program finds is the specification's. -/
namespace Fb
open Cl04 (Span END State)
theorem fit_within {c : List Span} (hc : Pl c) {n a b t : Nat} (h : a < b) : Fit (Cl04.within c a b) n a b t ↔ Fit c n a b t := by
  have w := within_ok hc h
  unfold Fit Thru
  constructor
  · rintro ⟨h1, h2, h3⟩
    exact ⟨h1, h2, fun u q1 q2 => ((w.2 u).mp (h3 u q1 q2)).1⟩
  · rintro ⟨h1, h2, h3⟩
    exact ⟨h1, h2, fun u q1 q2 => (w.2 u).mpr ⟨h3 u q1 q2, by omega, by omega⟩⟩
theorem within_in {c : List Span} (hc : Pl c) {a b : Nat} (h : a < b) : ∀ x ∈ Cl04.within c a b, x.1 < x.2 ∧ a ≤ x.1 ∧ x.2 ≤ b := fun x hx => by
  have w := within_ok hc h
  have h0 := w.1.ne x hx
  have h1 := (w.2 x.1).mp ⟨x, hx, Nat.le_refl _, h0⟩
  have h2 := (w.2 (x.2 - 1)).mp ⟨x, hx, by omega, by omega⟩
  omega
/-! ### first -/
theorem upG_is (m : Nat) {g : Nat} (hg : 0 < g) : upG (m : Int) (g : Int) = (((m + g - 1) / g * g : Nat) : Int) := by
  unfold upG
  have e : (m : Int) + (g : Int) - 1 = ((m + g - 1 : Nat) : Int) := by omega
  rw [e, Int.natCast_mul, Int.natCast_ediv]
theorem firstM_is {n g a b : Nat} (hg : 0 < g) : ∀ {c : List Span}, (∀ x ∈ c, a ≤ x.1 ∧ x.2 ≤ b) → firstM n g (c.map up) = match c.findSome? (fun (x : Span) => let t := (max x.1 a + g - 1) / g * g; if t + n ≤ min x.2 b then some t else none) with
    | none => []
    | some t => [(t : Int)]
  | [], _ => rfl
  | x :: c, h => by
    have ih := firstM_is (n := n) (a := a) (b := b) hg (c := c) fun y hy => h y (List.mem_cons_of_mem _ hy)
    have hx := h x (List.mem_cons_self ..)
    have e1 : max x.1 a = x.1 := by omega
    have e2 : min x.2 b = x.2 := by omega
    rw [List.map_cons, List.findSome?_cons]
    show (if upG (x.1 : Int) (g : Int) + (n : Int) ≤ (x.2 : Int) then [upG (x.1 : Int) (g : Int)] else firstM n g (c.map up)) = _
    rw [upG_is x.1 hg]
    dsimp only
    rw [e1, e2]
    by_cases q : (x.1 + g - 1) / g * g + n ≤ x.2
    · rw [if_pos (show (((x.1 + g - 1) / g * g : Nat) : Int) + (n : Int) ≤ (x.2 : Int) by omega), if_pos q]
    · rw [if_neg (show ¬ (((x.1 + g - 1) / g * g : Nat) : Int) + (n : Int) ≤ (x.2 : Int) by omega), if_neg q]
      exact ih
theorem first_is {s : State} {l : List Nat} {n a b g : Nat} (hg : 0 < g) (hn : 0 < n) (h : a < b) : firstM n g ((Cl04.within (Cl04.common s l) a b).map up) = match Cl04.first s l n a b g with
    | none => []
    | some t => [(t : Int)] := by
  have hw := within_in (common_pl s l) h
  have q := first_go (a := a) (b := b) (n := n) hg hn (within_ok (common_pl s l) h).1
  rw [firstM_is hg fun x hx => (hw x hx).2]
  revert q
  cases (Cl04.within (Cl04.common s l) a b).findSome? (fun (x : Span) => let t := (max x.1 a + g - 1) / g * g; if t + n ≤ min x.2 b then some t else none) with
  | none =>
    intro q
    have e := first_none (s := s) (l := l) (a := a) (b := b) hg hn fun t ht => q t ((fit_within (common_pl s l) h).mpr ht)
    rw [e]
  | some t =>
    intro q
    have e := first_some (s := s) (l := l) (a := a) (b := b) hg hn ((fit_within (common_pl s l) h).mp q.1) q.2.1 fun t' ht' => q.2.2 t' ((fit_within (common_pl s l) h).mpr ht')
    rw [e]
/-! ### best -/
theorem mtI_is (q : List Span) (t n : Nat) : mtI (q.map up) (t : Int) ((t : Int) + (n : Int)) = mtN t n q := by
  unfold mtI mtN
  rw [List.map_map]
  refine congrArg List.sum (List.map_congr_left fun x _ => ?_)
  show mx 0 (mn ((t : Int) + (n : Int)) (x.2 : Int) - mx (t : Int) (x.1 : Int)) = mt1 (t : Int) ((t : Int) + (n : Int)) ((x.1 : Int), (x.2 : Int))
  rw [mx_is, mx_is, mn_is]
  rfl
def perhaps (s : State) (l : List Nat) : List (List Span) := l.map fun (i : Nat) => Cl04.busyOf s i false
theorem bf_is (p : List (List Span)) (n t : Nat) : bf (p.flatten.map up) n (t : Int) = ((Cl04.cost p n t : Nat) : Int) := by
  unfold bf
  rw [mtI_is, cost_mt]
theorem pl_pw : ∀ {l : List Span}, Pl l → (l.map up).Pairwise (fun x y => x.2 ≤ y.1)
  | [], _ => List.Pairwise.nil
  | x :: l, h => by
    rw [List.map_cons, List.pairwise_cons]
    refine ⟨fun y hy => ?_, pl_pw h.2.2⟩
    obtain ⟨z, hz, rfl⟩ := List.mem_map.mp hy
    have := h.2.1 z hz
    show (x.2 : Int) ≤ (z.1 : Int)
    omega
theorem best_is {s : State} {l : List Nat} {n a b : Nat} (hn : 0 < n) (h : a < b) {ns : List Int} (hperm : ns.Perm (turnsI n ((perhaps s l).flatten.map up))) (hsort : ns.Pairwise (· ≤ ·)) :
    bOf ((perhaps s l).flatten.map up) n (cands n ns ((Cl04.within (Cl04.common s l) a b).map up)) none = (Cl04.best s l n a b).map fun m => ((m.1 : Int), (m.2 : Int)) := by
  have hc := common_pl s l
  have hw := within_in hc h
  have wp := (within_ok hc h).1
  have hp : ∀ m ∈ perhaps s l, Pl m := fun m hm => by
    obtain ⟨i, _, rfl⟩ := List.mem_map.mp hm
    exact busy_pl ..
  have fitx : ∀ {x : Span} {t : Nat}, x ∈ Cl04.within (Cl04.common s l) a b → x.1 ≤ t → t + n ≤ x.2 → Fit (Cl04.within (Cl04.common s l) a b) n a b t := fun {x t} hx q1 q2 =>
    ⟨by have := hw x hx; omega, by have := hw x hx; omega, (thru_iff wp hn).mpr ⟨x, hx, q1, q2⟩⟩
  have cfit : ∀ t ∈ cands n ns ((Cl04.within (Cl04.common s l) a b).map up), ∃ u : Nat, t = (u : Int) ∧ Fit (Cl04.within (Cl04.common s l) a b) n a b u := fun t ht => by
    obtain ⟨y, hy, ht⟩ := List.mem_flatMap.mp ht
    obtain ⟨x, hx, rfl⟩ := List.mem_map.mp hy
    have q := mem_cands1.mp ht
    have e1 : (up x).1 = (x.1 : Int) := rfl
    have e2 : (up x).2 = (x.2 : Int) := rfl
    rw [e1, e2] at q
    exact ⟨t.toNat, by omega, fitx hx (by omega) (by omega)⟩
  have fitc : ∀ {u : Nat}, Least (Cl04.cost (perhaps s l) n) (Fit (Cl04.within (Cl04.common s l) a b) n a b) u → (u : Int) ∈ cands n ns ((Cl04.within (Cl04.common s l) a b).map up) := fun {u} hu => by
    obtain ⟨x, hx, q1, q2, q3⟩ := best_cand2 wp (fun x hx => (hw x hx).2) hp hn hu
    refine List.mem_flatMap.mpr ⟨up x, List.mem_map.mpr ⟨x, hx, rfl⟩, mem_cands1.mpr ?_⟩
    have e1 : (up x).1 = (x.1 : Int) := rfl
    have e2 : (up x).2 = (x.2 : Int) := rfl
    rw [e1, e2]
    refine ⟨by omega, ?_⟩
    by_cases c1 : u = x.1
    · exact .inl (by omega)
    by_cases c2 : u + n = x.2
    · exact .inr (.inl (by omega))
    rcases q3 with q3 | q3 | ⟨m, hm, y, hy, q3⟩
    · exact absurd q3 c1
    · exact absurd q3 c2
    · refine .inr (.inr ⟨hperm.mem_iff.mpr (List.mem_flatMap.mpr ⟨up y, List.mem_map.mpr ⟨y, List.mem_flatten.mpr ⟨m, hm, hy⟩, rfl⟩, ?_⟩), by omega, by omega⟩)
      have f1 : (up y).1 = (y.1 : Int) := rfl
      have f2 : (up y).2 = (y.2 : Int) := rfl
      rw [f1, f2]
      rcases q3 with q3 | q3
      · exact (show (u : Int) = (y.1 : Int) - (n : Int) by omega) ▸ List.mem_cons_self ..
      · exact (show (u : Int) = (y.2 : Int) by omega) ▸ List.mem_cons_of_mem _ (List.mem_cons_self ..)
  by_cases ne : cands n ns ((Cl04.within (Cl04.common s l) a b).map up) = []
  · have no : ∀ t, ¬ Fit (Cl04.common s l) n a b t := fun t ht => by
      obtain ⟨u, hu⟩ := Least.ex (Cl04.cost (perhaps s l) n) (Fit (Cl04.within (Cl04.common s l) a b) n a b) (N := b) (fun t q => fit_le q) ((fit_within hc h).mpr ht)
      have := fitc hu
      rw [ne] at this
      cases this
    rw [best_none hn no, ne]
    rfl
  · obtain ⟨t, e, hm, hmin⟩ := bestM_some (bf ((perhaps s l).flatten.map up) n) (cands_sorted (by omega) hsort (pl_pw wp)) ne
    obtain ⟨u, rfl, hu⟩ := cfit t hm
    have hL : Least (Cl04.cost (perhaps s l) n) (Fit (Cl04.common s l) n a b) u := by
      refine ⟨(fit_within hc h).mp hu, fun u' hu' => ?_⟩
      have hu' := (fit_within hc h).mpr hu'
      obtain ⟨v, hv⟩ := Least.ex (Cl04.cost (perhaps s l) n) (Fit (Cl04.within (Cl04.common s l) a b) n a b) (N := b) (fun t q => fit_le q) hu'
      have q := hmin _ (fitc hv)
      rw [bf_is, bf_is] at q
      have q2 := hv.2 u' hu'
      omega
    have e2 : bOf ((perhaps s l).flatten.map up) n (cands n ns ((Cl04.within (Cl04.common s l) a b).map up)) none = some ((u : Int), bf ((perhaps s l).flatten.map up) n (u : Int)) := e
    rw [e2, bf_is, best_some hn hL]
    rfl
/-! ### most -/
def freeW (s : State) (a b : Nat) (i : Nat) : List (Int × Int) := (Cl04.within (Cl04.free s i) a b).map up
theorem in1_is {s : State} {i n a b u : Nat} (hn : 0 < n) (h : a < b) (h1 : a ≤ u) (h2 : u + n ≤ b) : In1 n u (freeW s a b i) = (Cl04.free s i).any fun (x : Span) => decide (x.1 ≤ u) && decide (u + n ≤ x.2) := by
  have w := within_ok (free_pl s i) h
  have e1 : In1 n u (freeW s a b i) = true ↔ ∃ x ∈ Cl04.within (Cl04.free s i) a b, x.1 ≤ u ∧ u + n ≤ x.2 := by
    unfold In1 freeW
    rw [List.any_eq_true]
    constructor
    · rintro ⟨y, hy, q⟩
      obtain ⟨x, hx, rfl⟩ := List.mem_map.mp hy
      rw [Bool.and_eq_true, decide_eq_true_eq, decide_eq_true_eq] at q
      have e1 : (up x).1 = (x.1 : Int) := rfl
      have e2 : (up x).2 = (x.2 : Int) := rfl
      rw [e1, e2] at q
      exact ⟨x, hx, by omega, by omega⟩
    · rintro ⟨x, hx, q1, q2⟩
      refine ⟨up x, List.mem_map.mpr ⟨x, hx, rfl⟩, ?_⟩
      rw [Bool.and_eq_true, decide_eq_true_eq, decide_eq_true_eq]
      have e1 : (up x).1 = (x.1 : Int) := rfl
      have e2 : (up x).2 = (x.2 : Int) := rfl
      rw [e1, e2]
      omega
  rw [Bool.eq_iff_iff, e1, ← thru_iff w.1 hn, thru_any (free_pl s i) hn]
  constructor
  · intro q v z1 z2
    exact ((w.2 v).mp (q v z1 z2)).1
  · intro q v z1 z2
    exact (w.2 v).mpr ⟨q v z1 z2, by omega, by omega⟩
theorem most_is {s : State} {l : List Nat} {n a b : Nat} (hn : 0 < n) (h : a < b) (hab : a + n ≤ b) {ys : List T3} (hperm : ys.Perm (all3 n (freeW s a b) l)) (hord : ys.Pairwise Ord3) :
    ∃ (u : Nat) (m : List Nat), Cl04.most s l n a b = some (u, m) ∧ (mostM a ys).1 = ((u : Int), (m.length : Int), ((Cl04.bits m : Nat) : Int)) := by
  obtain ⟨t, e, ht, hmax, hfirst⟩ := mostM_ok (a := (a : Int)) (n := (n : Int)) (by omega) (F := freeW s a b) (ls := l) (fun i _ => pl_pw (within_ok (free_pl s i) h).1) hperm hord
  obtain ⟨u, rfl, hu1, hu2⟩ : ∃ u : Nat, t = (u : Int) ∧ a ≤ u ∧ u + n ≤ b := by
    rcases ht with ht | ⟨i, hi, y, hy, ht, hy2⟩
    · exact ⟨a, ht, Nat.le_refl _, hab⟩
    · obtain ⟨x, hx, rfl⟩ := List.mem_map.mp hy
      have hw := within_in (free_pl s i) h x hx
      have e1 : (up x).1 = (x.1 : Int) := rfl
      have e2 : (up x).2 = (x.2 : Int) := rfl
      rw [e1] at ht
      rw [e1, e2] at hy2
      exact ⟨x.1, ht, hw.2.1, by omega⟩
  have fe : ∀ v : Nat, a ≤ v → v + n ≤ b → (l.filter fun i => In1 n v (freeW s a b i)) = Cl04.through (fr s l) v n := fun v h1 h2 => by
    rw [through_eq]
    exact List.filter_congr fun i _ => in1_is hn h h1 h2
  rw [fe u hu1 hu2] at e hmax hfirst
  refine ⟨u, Cl04.through (fr s l) u n, most_some ⟨⟨hu1, hu2⟩, fun v hv => ?_⟩, e⟩
  have q1 := hmax (v : Int)
  rw [fe v hv.1 hv.2] at q1
  have l1 := through_le s l u n
  have l2 := through_le s l v n
  by_cases c : v < u
  · have q2 := hfirst (v : Int) (by omega) (by omega)
    rw [fe v hv.1 hv.2] at q2
    show l.length - _ < l.length - _ ∨ _
    exact .inl (by omega)
  · show l.length - (Cl04.through (fr s l) u n).length < l.length - (Cl04.through (fr s l) v n).length ∨ (l.length - (Cl04.through (fr s l) u n).length = l.length - (Cl04.through (fr s l) v n).length ∧ u ≤ v)
    omega
end Fb
namespace Fb
open PySem PySem.Spec PyProof.Rows L2
abbrev sFirst : Stmt := inClass sDia 15
abbrev sBest : Stmt := inClass sDia 16
abbrev sMost : Stmt := inClass sDia 17
theorem Ret.ints {C : Cs} {H H1 : Hp} {d : Addr} {F : List Addr} {Q : VK} {s : Cl04.State} {l : List Int} (k : Ret C H d F Q (s, l)) (h : DA C H d F s) (e : Same H H1) {p : Addr} (np : H p = none) (hp : H1 p = some (.lst (l.map V.int))) : Q (.ref p) H1 :=
  k _ F p (h.same e) (fun x hx => .inl hx) (frame_of e) np hp
section
variable {P : Program} {w : World} {K : PySem.W.Frag} {mg : Str → Option Value} {base : Heap}
def spFirst (C : Cs) (K : PySem.W.Frag) : Sp := fun vs H Q _ => ∃ (d c : Addr) (F : List Addr) (s : Cl04.State) (l : List Nat) (n a b g : Nat), vs = [.ref d, .int n, .int a, .int b, .int g, .ref c] ∧ DA C H d F s ∧ WF s ∧ SqL K H c ((l.map Int.ofNat).map V.int) ∧ l.length ≤ 10 ∧ Ret C H d F Q (Cl04.step s (.first n a b g l))
theorem scFirst : FnScope ["self", "long", "a", "b", "g", "people", "refusal", "found"] ["self", "long", "a", "b", "g", "people"] (defScope sFirst) := ⟨rfl, rfl, rfl, by decide +kernel, rfl, by decide +kernel, by decide +kernel⟩
theorem ok_first {f : Addr} {C : Cs} {fd : FuncData} (F : Fun K "first" "Diary.first" sFirst f fd) (T : TxtD K mg C) (TC : TxtC mg) (TN : TxtN mg) (GR : GRef P w K mg base C) (GI : GFun P w K mg base "is_stretch" ["a", "b"] 1 spIs)
    (GC : GMeth P w K mg base C.D "common_stretches" ["self", "people", "a", "b"] 4 (spCs C K)) (GT : GFun P w K mg base "first_start" ["stretches", "long", "g"] 1 (spFst K)) : FnOk P w K mg base CX0 5 f fd ["self", "long", "a", "b", "g", "people"] (spFirst C K) := by
  refine F.ok scFirst (fun vs H Q E h => ?_) (fun cdv A outer s H vs Q E hr h => ?_)
  · obtain ⟨d, c, F, s, l, n, a, b, g, rfl, _⟩ := h
    rfl
  · obtain ⟨d, c, F, st, l, n, a, b, g, rfl, hDA, hwf, hS, h10, k⟩ := h
    obtain ⟨fk, fdk, GR, mR, bR⟩ := GR
    obtain ⟨fi, fdi, GI, mgi, kpi, bi⟩ := GI
    obtain ⟨fc, fdc, GC, mC, bC⟩ := GC
    obtain ⟨ft, fdt, GT, mgt, kpt, bt⟩ := GT
    obtain ⟨t3, e3⟩ := TC.day
    obtain ⟨t6, e6⟩ := TN.noStart
    have hr1 : Room 1 _ := hr.mono (by decide)
    have hr2 : Room 2 _ := hr.mono (by decide)
    refine ⟨_, pss_cons (ps_set (i := 6) scFirst.nd rfl (Or.inl rfl) (pe_meth (pv 0) T.clD mR GR hr2 bR .nil pass0 (pa_cons (pv 5) (pa_cons (pe_and (pe_call GI hr1 rfl mgi kpi bi .nil pass0 (pa_cons (pv 2) (pa_cons (pv 3) pa_nil)))
          (pe_and (pe_cmpR op_gt (pv 1) pe_int (nomark _)) (pe_and (pe_cmpR op_ge (pv 4) pe_int (nomark _)) (pe_one (pe_cmpR op_le (pv 4) (pe_glob (v := .int 1440) rfl e3 ⟨_, rfl⟩) (nomark _)))))) pa_nil))))
      (pss_cons (ps_if (pt_cmpR op_lt (pv 6) pe_int (nomark _)) (pss_one (ps_ret (pe_lst (pa_cons (pv 6) pa_nil)))) pss_nil)
      (pss_cons (ps_set (i := 7) scFirst.nd rfl (Or.inl rfl) (pe_call GT hr1 rfl mgt kpt bt .nil pass0 (pa_cons (pe_meth (pv 0) T.clD mC GC hr bC .nil pass0 (pa_cons (pv 5) (pa_cons (pv 2) (pa_cons (pv 3) pa_nil)))) (pa_cons (pv 1) (pa_cons (pv 4) pa_nil)))))
      (pss_one (ps_ret (pe_ifExp (pt_cmpR op_gt (pe_callB call_len_seq (by rfl) TC.len PySem.boot_len (pa_cons (pv 7) pa_nil)) pe_int (nomark _)) (pv 7) (pe_lst (pa_cons (pe_glob (v := .int (-6)) rfl e6 ⟨_, rfl⟩) pa_nil))))))), ?_⟩
    have hcopy := hDA
    obtain ⟨lp, de, ps, es, h, rfl⟩ := hDA
    obtain ⟨dx, hd⟩ := h.ins
    refine ⟨_, rfl, d, dx, _, rfl, hd, dF_no _ _ _ (by decide +kernel) (by decide +kernel) (by decide +kernel), _, rfl, ?_⟩
    refine Vv.and (fun Q kQ => ⟨_, rfl, _, rfl, (a : Int), (b : Int), rfl, kQ⟩) (fun _ => Vv.and (Vv.i2 (.var rfl) .con) fun _ => Vv.and (Vv.i2 (.var rfl) .con) fun _ => Vv.i2 (.var rfl) .con) _ ?_
    refine ⟨d, c, _, st, l, _, rfl, hcopy, hS, h10, ?_⟩
    generalize hb : (decide ((a : Int) < (b : Int) ∧ (b : Int) ≤ 144000) && (decide ((0 : Int) < (n : Int)) && (decide ((1 : Int) ≤ (g : Int)) && decide ((g : Int) ≤ 1440)))) = fits
    have hfit : fits = true ↔ (a < b ∧ b ≤ 144000) ∧ 0 < n ∧ 1 ≤ g ∧ g ≤ 1440 := by
      rw [← hb]
      simp only [Bool.and_eq_true, decide_eq_true_eq]
      omega
    have es1 : Cl04.step st (.first n a b g l) = Cl04.all st l (if fits = true then (match Cl04.first st l n a b g with | none => [-6] | some t => [(t : Int)]) else [-1]) := by
      refine congrArg (Cl04.all st l) ?_
      show (if 144000 < b ∨ b ≤ a then [-1] else if n = 0 ∨ (g = 0 ∨ 1440 < g) then [-1] else _) = _
      by_cases c1 : 144000 < b ∨ b ≤ a
      · rw [if_pos c1, if_neg]
        intro z
        have := hfit.mp z
        omega
      · rw [if_neg c1]
        by_cases c2 : n = 0 ∨ (g = 0 ∨ 1440 < g)
        · rw [if_pos c2, if_neg]
          intro z
          have := hfit.mp z
          omega
        · rw [if_neg c2, if_pos (hfit.mpr (by omega))]
          rfl
    rw [es1] at k
    refine ⟨_, rfl, _, _, rfl, rfl, _, rfl, ?_⟩
    rcases ref_neg (s := st) (l := l) (fits := fits) with e0 | e0
    rotate_left
    · refine if_true_of (decide_eq_true e0) ?_
      exact ⟨_, rfl, (by show 1 ≤ sizeLine; decide), fun p np => k.just (l := [refM st l fits]) hcopy (Same.refl H) p np (ref_step (fun z => by rw [z]; rfl) e0)⟩
    · refine if_false_of (decide_eq_false (by omega)) ?_
      obtain ⟨hk, hnd, hne, ef⟩ := ref_ok e0
      have hf := hfit.mp ef
      rw [ef] at e0 k
      rw [if_pos rfl, all_ok e0] at k
      refine ⟨_, rfl, d, dx, _, rfl, hd, dF_no _ _ _ (by decide +kernel) (by decide +kernel) (by decide +kernel), _, rfl, _, rfl, _, rfl, d, c, _, st, l, a, b, rfl, hcopy, hwf, hS, hk, by omega, (by show b ≤ 144000; omega), fun H1 q us s1 nq hq hu => ?_⟩
      refine ⟨_, rfl, _, rfl, q, us, _, (n : Int), (g : Int), rfl, SqL.of hq, hu, by omega, fun H2 p s2 np hp => ?_⟩
      rw [first_is (by omega) (by omega) (by omega)] at hp
      have s12 := s1.trans s2
      cases e5 : Cl04.first st l n a b g with
      | none =>
        rw [e5] at hp k
        refine ⟨_, rfl, p, _, rfl, .inl (SqL.of hp), _, _, rfl, rfl, _, rfl, ?_⟩
        refine if_false_of (by decide) ?_
        exact ⟨(by show 1 ≤ sizeLine; decide), fun p2 np2 => k.just (l := [-6]) hcopy s12 p2 np2 rfl⟩
      | some t =>
        rw [e5] at hp k
        refine ⟨_, rfl, p, _, rfl, .inl (SqL.of hp), _, _, rfl, rfl, _, rfl, ?_⟩
        refine if_true_of (by show decide ((0 : Int) < ((1 : Nat) : Int)) = true; decide) ?_
        exact ⟨_, rfl, k.ints hcopy s12 (s1.free np) hp⟩
def spBest (C : Cs) (K : PySem.W.Frag) : Sp := fun vs H Q _ => ∃ (d c : Addr) (F : List Addr) (s : Cl04.State) (l : List Nat) (n a b : Nat), vs = [.ref d, .int n, .int a, .int b, .ref c] ∧ DA C H d F s ∧ WF s ∧ SqL K H c ((l.map Int.ofNat).map V.int) ∧ l.length ≤ 10 ∧ Ret C H d F Q (Cl04.step s (.best n a b l))
theorem perhaps_more {s : Cl04.State} {l : List Nat} {j i : Nat} (h : l[j]? = some i) : (perhaps s (l.take (j + 1))).flatten.map up = (perhaps s (l.take j)).flatten.map up ++ (Cl04.busyOf s i false).map up := by
  unfold perhaps
  rw [take_more h, List.map_append, List.flatten_append, List.map_append]
  refine congrArg _ ?_
  show List.map up ((Cl04.busyOf s i false) ++ []) = _
  rw [List.append_nil]
theorem busy_short {s : Cl04.State} (hs : WF s) (i : Nat) : ((Cl04.busyOf s i false).map up).length ≤ 144000 :=
  pl_short (busy_pl s i false) (a := 0) (b := Cl04.END) (fun u hu => by
    obtain ⟨x, hx, _, _, z1, z2⟩ := (Hs_busy s i false u).mp hu
    have := (hs.bus x hx).2.1
    omega) (Nat.le_refl _)
/-- how many stretches what may be has: no more than there are of it -/
theorem into_len : ∀ (l : List Cl04.Span) (a : Cl04.Span), (Cl04.into a l).length ≤ l.length + 1
  | [], a => Nat.le_refl _
  | b :: l, a => by
    unfold Cl04.into
    split
    · exact Nat.le_trans (into_len l _) (by rw [List.length_cons]; omega)
    · exact Nat.le_refl _
theorem merge_len : ∀ l : List Cl04.Span, (Cl04.merge l).length ≤ l.length
  | [] => Nat.le_refl _
  | a :: l => Nat.le_trans (into_len (Cl04.merge l) a) (Nat.succ_le_succ (merge_len l))
theorem busy_len {s : Cl04.State} (hs : WF s) (i : Nat) (b : Bool) : (Cl04.busyOf s i b).length ≤ 50 := by
  unfold Cl04.busyOf Cl04.plain
  refine Nat.le_trans (merge_len _) ?_
  rw [List.length_mergeSort]
  refine Nat.le_trans (List.length_filter_le _ _) ?_
  rw [List.length_map]
  exact Nat.le_trans (List.length_filter_le _ _) hs.nb
theorem perhaps_len {s : Cl04.State} (hs : WF s) : ∀ l : List Nat, (perhaps s l).flatten.length ≤ 50 * l.length
  | [] => Nat.le_refl _
  | i :: l => by
    have ih := perhaps_len hs l
    have := busy_len hs i false
    unfold perhaps at *
    rw [List.map_cons, List.flatten_cons, List.length_append, List.length_cons]
    omega
theorem scBest : FnScope ["self", "long", "a", "b", "people", "refusal", "taken", "person", "found"] ["self", "long", "a", "b", "people"] (defScope sBest) := ⟨rfl, rfl, rfl, by decide +kernel, rfl, by decide +kernel, by decide +kernel⟩
theorem ok_best {f : Addr} {C : Cs} {fd : FuncData} (F : Fun K "best" "Diary.best" sBest f fd) (T : TxtD K mg C) (TC : TxtC mg) (TN : TxtN mg) (GR : GRef P w K mg base C) (GI : GFun P w K mg base "is_stretch" ["a", "b"] 1 spIs)
    (GC : GMeth P w K mg base C.D "common_stretches" ["self", "people", "a", "b"] 4 (spCs C K)) (GP : GMeth P w K mg base C.D "perhaps_stretches" ["self", "person"] 3 (spPs C)) (GT : GFun P w K mg base "best_start" ["stretches", "long", "taken"] 2 (spBestS K)) :
    FnOk P w K mg base CX0 5 f fd ["self", "long", "a", "b", "people"] (spBest C K) := by
  refine F.ok scBest (fun vs H Q E h => ?_) (fun cdv A outer s H vs Q E hr h => ?_)
  · obtain ⟨d, c, F, s, l, n, a, b, rfl, _⟩ := h
    rfl
  · obtain ⟨d, c, F, st, l, n, a, b, rfl, hDA, hwf, hS, h10, k⟩ := h
    obtain ⟨fk, fdk, GR, mR, bR⟩ := GR
    obtain ⟨fi, fdi, GI, mgi, kpi, bi⟩ := GI
    obtain ⟨fc, fdc, GC, mC, bC⟩ := GC
    obtain ⟨fp, fdp, GP, mP, bP⟩ := GP
    obtain ⟨ft, fdt, GT, mgt, kpt, bt⟩ := GT
    obtain ⟨t6, e6⟩ := TN.noStart
    have hr1 : Room 1 _ := hr.mono (by decide)
    have hr2 : Room 2 _ := hr.mono (by decide)
    have hr3 : Room 3 _ := hr.mono (by decide)
    refine ⟨_, pss_cons (ps_set (i := 5) scBest.nd rfl (Or.inl rfl) (pe_meth (pv 0) T.clD mR GR hr2 bR .nil pass0 (pa_cons (pv 4) (pa_cons (pe_and (pe_call GI hr1 rfl mgi kpi bi .nil pass0 (pa_cons (pv 2) (pa_cons (pv 3) pa_nil)))
          (pe_one (pe_cmpR op_gt (pv 1) pe_int (nomark _)))) pa_nil))))
      (pss_cons (ps_if (pt_cmpR op_lt (pv 5) pe_int (nomark _)) (pss_one (ps_ret (pe_lst (pa_cons (pv 5) pa_nil)))) pss_nil)
      (pss_cons (ps_set (i := 6) scBest.nd rfl (Or.inl rfl) (pe_lst pa_nil))
      (pss_cons (ps_for PassesOwn.never rfl (pi_list (pv 4)) (pg_name (i := 7) scBest.nd rfl (Or.inl rfl))
        (pss_one (ps_expr (pe_bm PySem.F.plainAttrs_list PySem.F.slot_list_extend PySem.F.type_list_extend mt_extend (pv 6) (pa_cons (pe_meth (pv 0) T.clD mP GP hr3 bP .nil pass0 (pa_cons (pv 7) pa_nil)) pa_nil)))))
      (pss_cons (ps_set (i := 8) scBest.nd rfl (Or.inl rfl) (pe_call GT hr2 rfl mgt kpt bt .nil pass0 (pa_cons (pe_meth (pv 0) T.clD mC GC hr bC .nil pass0 (pa_cons (pv 4) (pa_cons (pv 2) (pa_cons (pv 3) pa_nil)))) (pa_cons (pv 1) (pa_cons (pv 6) pa_nil)))))
      (pss_one (ps_ret (pe_ifExp (pt_cmpR op_gt (pe_callB call_len_seq (by rfl) TC.len PySem.boot_len (pa_cons (pv 8) pa_nil)) pe_int (nomark _)) (pv 8) (pe_lst (pa_cons (pe_glob (v := .int (-6)) rfl e6 ⟨_, rfl⟩) pa_nil))))))))), ?_⟩
    have hcopy := hDA
    obtain ⟨lp, de, ps, es, h, rfl⟩ := hDA
    obtain ⟨dx, hd⟩ := h.ins
    refine ⟨_, rfl, d, dx, _, rfl, hd, dF_no _ _ _ (by decide +kernel) (by decide +kernel) (by decide +kernel), _, rfl, ?_⟩
    refine Vv.and (fun Q kQ => ⟨_, rfl, _, rfl, (a : Int), (b : Int), rfl, kQ⟩) (fun _ => Vv.i2 (.var rfl) .con) _ ?_
    refine ⟨d, c, _, st, l, _, rfl, hcopy, hS, h10, ?_⟩
    generalize hb : (decide ((a : Int) < (b : Int) ∧ (b : Int) ≤ 144000) && decide ((0 : Int) < (n : Int))) = fits
    have hfit : fits = true ↔ (a < b ∧ b ≤ 144000) ∧ 0 < n := by
      rw [← hb]
      simp only [Bool.and_eq_true, decide_eq_true_eq]
      omega
    have es1 : Cl04.step st (.best n a b l) = Cl04.all st l (if fits = true then (match Cl04.best st l n a b with | none => [-6] | some m => [(m.1 : Int), (m.2 : Int)]) else [-1]) := by
      refine congrArg (Cl04.all st l) ?_
      show (if 144000 < b ∨ b ≤ a then [-1] else if n = 0 then [-1] else _) = _
      by_cases c1 : 144000 < b ∨ b ≤ a
      · rw [if_pos c1, if_neg]
        intro z
        have := hfit.mp z
        omega
      · rw [if_neg c1]
        by_cases c2 : n = 0
        · rw [if_pos c2, if_neg]
          intro z
          have := hfit.mp z
          omega
        · rw [if_neg c2, if_pos (hfit.mpr (by omega))]
          rfl
    rw [es1] at k
    refine ⟨_, rfl, _, _, rfl, rfl, _, rfl, ?_⟩
    rcases ref_neg (s := st) (l := l) (fits := fits) with e0 | e0
    rotate_left
    · refine if_true_of (decide_eq_true e0) ?_
      exact ⟨_, rfl, (by show 1 ≤ sizeLine; decide), fun p np => k.just (l := [refM st l fits]) hcopy (Same.refl H) p np (ref_step (fun z => by rw [z]; rfl) e0)⟩
    · refine if_false_of (decide_eq_false (by omega)) ?_
      obtain ⟨hk, hnd, hne, ef⟩ := ref_ok e0
      have hf := hfit.mp ef
      rw [ef] at e0 k
      rw [if_pos rfl, all_ok e0] at k
      refine ⟨Nat.zero_le _, fun tq ntq => ?_⟩
      have s0 : Same H (upd H tq (.lst [])) := same_new ntq
      refine ⟨_, rfl, c, rfl, ⟨_, s0.seq hS⟩, for_list (K := K) (a := c) (xs := (l.map Int.ofNat).map V.int) (fun j σ H' => ∃ (us : List V) (v : Option V), σ = [some (.ref d), some (.int n), some (.int a), some (.int b), some (.ref c), some (.int (refM st l true)), some (.ref tq), v, none] ∧ Same H H' ∧ H' tq = some (.lst us) ∧ Tups H' us ((perhaps st (l.take j)).flatten.map up))
        ⟨[], none, by rw [ef]; rfl, s0, upd_same, trivial⟩ (fun j σ H' _ ⟨_, _, _, s3, _⟩ => s3.seq hS) ?_ ?_⟩
      · rintro j y σ H' hj ⟨us, v, rfl, s3, htq, hu⟩
        rw [List.getElem?_map, List.getElem?_map] at hj
        cases hx : l[j]? with
        | none =>
          rw [hx] at hj
          cases hj
        | some i =>
          rw [hx] at hj
          have ey : V.int (i : Int) = y := Option.some.inj hj
          subst ey
          have hul := hu.length
          have pl1 := perhaps_len hwf (l.take j)
          have bl := busy_len hwf i false
          rw [List.length_map] at hul
          rw [List.length_take] at pl1
          refine ⟨_, rfl, .inl ⟨rfl, _, SqL.of htq⟩, _, rfl, d, dx, _, rfl, s3 _ _ hd, dF_no _ _ _ (by decide +kernel) (by decide +kernel) (by decide +kernel), _, rfl, d, _, st, i, rfl, hcopy.same s3, hwf, fun H2 r rs s4 nr hr4 ht => ?_⟩
          have hrl := ht.length
          rw [List.length_map] at hrl
          have nrt : r ≠ tq := fun z => by
            rw [z, htq] at nr
            cases nr
          refine ⟨tq, r, us, rs, rfl, rfl, s4 _ _ htq, hr4, Nat.le_trans (show us.length + rs.length ≤ 1000 by omega) (by decide), ?_⟩
          refine ⟨_, _, rfl, fun c' o' hc' => ?_, upd_same, ?_⟩
          · rw [upd_ne (ne_of_none hc' ntq)]
            exact s4 _ _ (s3 _ _ hc')
          · rw [perhaps_more hx]
            have tt : TS1 H2 (upd H2 tq (.lst (us ++ rs))) := TS1.lst (s4 _ _ htq)
            exact ((hu.mono (TS1.same s4)).mono tt).append (ht.mono tt)
      · rintro σ H' ⟨us, v, rfl, s3, htq, hu⟩
        rw [List.length_map, List.length_map, List.take_length] at hu
        have pl1 := perhaps_len hwf l
        refine ⟨_, rfl, d, dx, _, rfl, s3 _ _ hd, dF_no _ _ _ (by decide +kernel) (by decide +kernel) (by decide +kernel), _, rfl, _, rfl, _, rfl, d, c, _, st, l, a, b, rfl, hcopy.same s3, hwf, s3.seq hS, hk, by omega, (by show b ≤ 144000; omega), fun H1 q ws s4 nq hq hw => ?_⟩
        refine ⟨_, rfl, _, rfl, q, tq, ws, us, _, _, (n : Int), rfl, SqL.of hq, hw, SqL.of (s4 _ _ htq), hu.mono (TS1.same s4), by rw [List.length_map]; omega, fun ns hperm hsort H2 p s5 np hp => ?_⟩
        rw [best_is (by omega) (by omega) hperm hsort] at hp
        have s15 := (s3.trans s4).trans s5
        cases e5 : Cl04.best st l n a b with
        | none =>
          rw [e5] at hp k
          refine ⟨_, rfl, p, _, rfl, .inl (SqL.of hp), _, _, rfl, rfl, _, rfl, ?_⟩
          refine if_false_of (by decide) ?_
          exact ⟨(by show 1 ≤ sizeLine; decide), fun p2 np2 => k.just (l := [-6]) hcopy s15 p2 np2 rfl⟩
        | some m =>
          rw [e5] at hp k
          refine ⟨_, rfl, p, _, rfl, .inl (SqL.of hp), _, _, rfl, rfl, _, rfl, ?_⟩
          refine if_true_of (by show decide ((0 : Int) < ((2 : Nat) : Int)) = true; decide) ?_
          exact ⟨_, rfl, k.ints hcopy s15 ((s3.trans s4).free np) hp⟩
def spMost (C : Cs) (K : PySem.W.Frag) : Sp := fun vs H Q _ => ∃ (d c : Addr) (F : List Addr) (s : Cl04.State) (l : List Nat) (n a b : Nat), vs = [.ref d, .int n, .int a, .int b, .ref c] ∧ DA C H d F s ∧ WF s ∧ SqL K H c ((l.map Int.ofNat).map V.int) ∧ l.length ≤ 10 ∧ (∀ i ∈ l, i ≤ 20) ∧ Ret C H d F Q (Cl04.step s (.most n a b l))
theorem all3_more {n : Int} {G : Nat → List (Int × Int)} {l : List Nat} {j i : Nat} (h : l[j]? = some i) : all3 n G (l.take (j + 1)) = all3 n G (l.take j) ++ chg n ((2 : Int) ^ i) (G i) := by
  unfold all3
  rw [take_more h, List.flatMap_append, List.flatMap_cons, List.flatMap_nil, List.append_nil]
theorem all3_len {s : Cl04.State} {a b : Nat} (hab : a < b) (hE : b ≤ Cl04.END) (n : Int) : ∀ l : List Nat, (all3 n (freeW s a b) l).length ≤ 288000 * l.length
  | [] => Nat.le_refl _
  | i :: l => by
    have ih := all3_len (s := s) hab hE n l
    have h1 := chg_le n ((2 : Int) ^ i) (freeW s a b i)
    have h2 := within_short (free_pl s i) hab hE
    unfold all3 at *
    rw [List.flatMap_cons, List.length_append, List.length_cons]
    unfold freeW at *
    omega
theorem scMost : FnScope ["self", "long", "a", "b", "people", "refusal", "steps", "person"] ["self", "long", "a", "b", "people"] (defScope sMost) := ⟨rfl, rfl, rfl, by decide +kernel, rfl, by decide +kernel, by decide +kernel⟩
theorem ok_most {f : Addr} {C : Cs} {fd : FuncData} (F : Fun K "most" "Diary.most" sMost f fd) (T : TxtD K mg C) (TC : TxtC mg) (TN : TxtN mg) (GR : GRef P w K mg base C) (GI : GFun P w K mg base "is_stretch" ["a", "b"] 1 spIs)
    (GF : GMeth P w K mg base C.D "free_stretches" ["self", "person", "a", "b"] 3 (spFreeSt C)) (GC : GFun P w K mg base "changes" ["person", "stretches", "long"] 1 (spChg K)) (GT : GFun P w K mg base "most_start" ["a", "steps"] 1 (spMostS K)) :
    FnOk P w K mg base CX0 4 f fd ["self", "long", "a", "b", "people"] (spMost C K) := by
  refine F.ok scMost (fun vs H Q E h => ?_) (fun cdv A outer s H vs Q E hr h => ?_)
  · obtain ⟨d, c, F, s, l, n, a, b, rfl, _⟩ := h
    rfl
  · obtain ⟨d, c, F, st, l, n, a, b, rfl, hDA, hwf, hS, h10, h20, k⟩ := h
    obtain ⟨fk, fdk, GR, mR, bR⟩ := GR
    obtain ⟨fi, fdi, GI, mgi, kpi, bi⟩ := GI
    obtain ⟨ff, fdf, GF, mF, bF⟩ := GF
    obtain ⟨fc, fdc, GC, mgc, kpc, bc⟩ := GC
    obtain ⟨ft, fdt, GT, mgt, kpt, bt⟩ := GT
    obtain ⟨t6, e6⟩ := TN.noStart
    have hr1 : Room 1 _ := hr.mono (by decide)
    have hr2 : Room 2 _ := hr.mono (by decide)
    refine ⟨_, pss_cons (ps_set (i := 5) scMost.nd rfl (Or.inl rfl) (pe_meth (pv 0) T.clD mR GR hr2 bR .nil pass0 (pa_cons (pv 4) (pa_cons (pe_and (pe_call GI hr1 rfl mgi kpi bi .nil pass0 (pa_cons (pv 2) (pa_cons (pv 3) pa_nil)))
          (pe_one (pe_cmpR op_gt (pv 1) pe_int (nomark _)))) pa_nil))))
      (pss_cons (ps_if (pt_cmpR op_lt (pv 5) pe_int (nomark _)) (pss_one (ps_ret (pe_lst (pa_cons (pv 5) pa_nil)))) pss_nil)
      (pss_cons (ps_if (pt_cmpR op_lt (pe_op op_sub (pv 3) (pv 2)) (pv 1) (nomark _)) (pss_one (ps_ret (pe_lst (pa_cons (pe_glob (v := .int (-6)) rfl e6 ⟨_, rfl⟩) pa_nil)))) pss_nil)
      (pss_cons (ps_set (i := 6) scMost.nd rfl (Or.inl rfl) (pe_lst pa_nil))
      (pss_cons (ps_for PassesOwn.never rfl (pi_list (pv 4)) (pg_name (i := 7) scMost.nd rfl (Or.inl rfl))
        (pss_one (ps_expr (pe_bm PySem.F.plainAttrs_list PySem.F.slot_list_extend PySem.F.type_list_extend mt_extend (pv 6) (pa_cons (pe_call GC hr1 rfl mgc kpc bc .nil pass0 (pa_cons (pv 7) (pa_cons (pe_meth (pv 0) T.clD mF GF hr bF .nil pass0 (pa_cons (pv 7) (pa_cons (pv 2) (pa_cons (pv 3) pa_nil)))) (pa_cons (pv 1) pa_nil)))) pa_nil)))))
      (pss_one (ps_ret (pe_call GT hr1 rfl mgt kpt bt .nil pass0 (pa_cons (pv 2) (pa_cons (pv 6) pa_nil))))))))), ?_⟩
    have hcopy := hDA
    obtain ⟨lp, de, ps, es, h, rfl⟩ := hDA
    obtain ⟨dx, hd⟩ := h.ins
    refine ⟨_, rfl, d, dx, _, rfl, hd, dF_no _ _ _ (by decide +kernel) (by decide +kernel) (by decide +kernel), _, rfl, ?_⟩
    refine Vv.and (fun Q kQ => ⟨_, rfl, _, rfl, (a : Int), (b : Int), rfl, kQ⟩) (fun _ => Vv.i2 (.var rfl) .con) _ ?_
    refine ⟨d, c, _, st, l, _, rfl, hcopy, hS, h10, ?_⟩
    generalize hb : (decide ((a : Int) < (b : Int) ∧ (b : Int) ≤ 144000) && decide ((0 : Int) < (n : Int))) = fits
    have hfit : fits = true ↔ (a < b ∧ b ≤ 144000) ∧ 0 < n := by
      rw [← hb]
      simp only [Bool.and_eq_true, decide_eq_true_eq]
      omega
    have es1 : Cl04.step st (.most n a b l) = Cl04.all st l (if fits = true then (match Cl04.most st l n a b with | none => [-6] | some m => Cl04.nums [m.1, m.2.length, Cl04.bits m.2]) else [-1]) := by
      refine congrArg (Cl04.all st l) ?_
      show (if 144000 < b ∨ b ≤ a then [-1] else if n = 0 then [-1] else _) = _
      by_cases c1 : 144000 < b ∨ b ≤ a
      · rw [if_pos c1, if_neg]
        intro z
        have := hfit.mp z
        omega
      · rw [if_neg c1]
        by_cases c2 : n = 0
        · rw [if_pos c2, if_neg]
          intro z
          have := hfit.mp z
          omega
        · rw [if_neg c2, if_pos (hfit.mpr (by omega))]
          rfl
    rw [es1] at k
    refine ⟨_, rfl, _, _, rfl, rfl, _, rfl, ?_⟩
    rcases ref_neg (s := st) (l := l) (fits := fits) with e0 | e0
    rotate_left
    · refine if_true_of (decide_eq_true e0) ?_
      exact ⟨_, rfl, (by show 1 ≤ sizeLine; decide), fun p np => k.just (l := [refM st l fits]) hcopy (Same.refl H) p np (ref_step (fun z => by rw [z]; rfl) e0)⟩
    · refine if_false_of (decide_eq_false (by omega)) ?_
      obtain ⟨hk, hnd, hne, ef⟩ := ref_ok e0
      have hf := hfit.mp ef
      rw [ef] at e0 k
      rw [if_pos rfl, all_ok e0] at k
      have hab : a < b := by omega
      have hbE : b ≤ Cl04.END := by show b ≤ 144000; omega
      refine ⟨_, rfl, _, rfl, _, _, rfl, rfl, _, rfl, _, _, rfl, rfl, _, rfl, ?_⟩
      by_cases c5 : b < a + n
      · refine if_true_of (decide_eq_true (by omega)) ?_
        rw [most_none c5] at k
        exact ⟨(by show 1 ≤ sizeLine; decide), fun p np => k.just (l := [-6]) hcopy (Same.refl H) p np rfl⟩
      refine if_false_of (decide_eq_false (by omega)) ?_
      refine ⟨Nat.zero_le _, fun tq ntq => ?_⟩
      have s0 : Same H (upd H tq (.lst [])) := same_new ntq
      refine ⟨_, rfl, c, rfl, ⟨_, s0.seq hS⟩, for_list (K := K) (a := c) (xs := (l.map Int.ofNat).map V.int) (fun j σ H' => ∃ (us : List V) (v : Option V), σ = [some (.ref d), some (.int n), some (.int a), some (.int b), some (.ref c), some (.int (refM st l true)), some (.ref tq), v] ∧ Same H H' ∧ H' tq = some (.lst us) ∧ Trips H' us (all3 n (freeW st a b) (l.take j)))
        ⟨[], none, by rw [ef]; rfl, s0, upd_same, trivial⟩ (fun j σ H' _ ⟨_, _, _, s3, _⟩ => s3.seq hS) ?_ ?_⟩
      · rintro j y σ H' hj ⟨us, v, rfl, s3, htq, hu⟩
        rw [List.getElem?_map, List.getElem?_map] at hj
        cases hx : l[j]? with
        | none =>
          rw [hx] at hj
          cases hj
        | some i =>
          rw [hx] at hj
          have ey : V.int (i : Int) = y := Option.some.inj hj
          subst ey
          have im := List.mem_of_getElem? hx
          have hul := hu.length
          have al := all3_len (s := st) hab hbE n (l.take j)
          rw [List.length_take] at al
          have wl := within_short (free_pl st i) hab hbE
          have cl := chg_le n ((2 : Int) ^ i) (freeW st a b i)
          refine ⟨_, rfl, .inl ⟨rfl, _, SqL.of htq⟩, _, rfl, _, rfl, d, dx, _, rfl, s3 _ _ hd, dF_no _ _ _ (by decide +kernel) (by decide +kernel) (by decide +kernel), _, rfl, _, rfl, _, rfl, d, _, st, i, a, b, rfl, hcopy.same s3, hwf, hk i im, hab, hbE, fun H2 q ws s4 nq hq hw => ?_⟩
          refine ⟨_, rfl, i, q, ws, _, (n : Int), rfl, h20 i im, SqL.of hq, hw, by omega, fun H3 r rs s5 nr hr5 ht => ?_⟩
          have hrl := ht.length
          have htq3 := (s4.trans s5) _ _ htq
          have fl : (chg n ((2 : Int) ^ i) ((Cl04.within (Cl04.free st i) a b).map up)).length ≤ 288000 := by
            unfold freeW at cl
            omega
          refine ⟨tq, r, us, rs, rfl, rfl, htq3, hr5, Nat.le_trans (show us.length + rs.length ≤ 4000000 by omega) (by decide), ?_⟩
          refine ⟨_, _, rfl, fun c' o' hc' => ?_, upd_same, ?_⟩
          · rw [upd_ne (ne_of_none hc' ntq)]
            exact (s4.trans s5) _ _ (s3 _ _ hc')
          · rw [all3_more hx]
            have tt : TS1 H3 (upd H3 tq (.lst (us ++ rs))) := TS1.lst htq3
            exact ((hu.mono (TS1.same (s4.trans s5))).mono tt).append (ht.mono tt)
      · rintro σ H' ⟨us, v, rfl, s3, htq, hu⟩
        rw [List.length_map, List.length_map, List.take_length] at hu
        refine ⟨_, rfl, _, rfl, (a : Int), tq, us, _, rfl, SqL.of htq, hu, fun y hy => ?_, fun l' hperm hord H2 p s5 np hp => ?_⟩
        · obtain ⟨_, _, _, _, _, q⟩ := mem_all3 hy
          rcases q with q | q
          · rw [q]
            exact ⟨by show (-1 : Int) ≤ 1; decide, Int.le_refl _⟩
          · rw [q]
            exact ⟨Int.le_refl _, by show (-1 : Int) ≤ 1; decide⟩
        · obtain ⟨u, m, e7, e8⟩ := most_is (by omega) hab (by omega) hperm hord
          rw [e8] at hp
          rw [e7] at k
          exact k.ints hcopy (s3.trans s5) (s3.free np) hp
end
end Fb
/-! The line of calls: what is asked, how it is read, what is told. -/
namespace Fb
open Cl04 (State Call)
theorem whole_id (c : List (List Int)) : PyCl04.whole c = c := by
  unfold PyCl04.whole
  split <;> rfl
/-- a call as it stands in the list, and as the specification has it -/
inductive View : List (List Int) → Call → Prop
  | person (z : Int) : View [[0, z]] (.person z)
  | hours (p d a b : Nat) : View [[1, (p : Int), (d : Int), (a : Int), (b : Int)]] (.hours p d a b)
  | off (p : Nat) (z : Int) : View [[2, (p : Int), z]] (.off p z)
  | busy (p a b v : Nat) : View [[3, (p : Int), (a : Int), (b : Int), (v : Int)]] (.busy p a b v)
  | drop (k : Nat) : View [[4, (k : Int)]] (.drop k)
  | sure (k : Nat) : View [[5, (k : Int)]] (.sure k)
  | free (p a b : Nat) : View [[6, (p : Int), (a : Int), (b : Int)]] (.free p a b)
  | common (a b : Nat) (l : List Nat) (h1 : l.length ≤ 10) (h2 : ∀ i ∈ l, i ≤ 20) : View [[7, (a : Int), (b : Int)], l.map Int.ofNat] (.common a b l)
  | first (n a b g : Nat) (l : List Nat) (h1 : l.length ≤ 10) (h2 : ∀ i ∈ l, i ≤ 20) : View [[8, (n : Int), (a : Int), (b : Int), (g : Int)], l.map Int.ofNat] (.first n a b g l)
  | best (n a b : Nat) (l : List Nat) (h1 : l.length ≤ 10) (h2 : ∀ i ∈ l, i ≤ 20) : View [[9, (n : Int), (a : Int), (b : Int)], l.map Int.ofNat] (.best n a b l)
  | most (n a b : Nat) (l : List Nat) (h1 : l.length ≤ 10) (h2 : ∀ i ∈ l, i ≤ 20) : View [[10, (n : Int), (a : Int), (b : Int)], l.map Int.ofNat] (.most n a b l)
  | at_ (u : Nat) (l : List Nat) (h1 : l.length ≤ 10) (h2 : ∀ i ∈ l, i ≤ 20) : View [[11, (u : Int)], l.map Int.ofNat] (.at_ u l)
  | minutes (p a b : Nat) : View [[12, (p : Int), (a : Int), (b : Int)]] (.minutes p a b)
theorem within_iff {n lo hi : Int} : NeutralIO.within n lo hi = true ↔ lo ≤ n ∧ n ≤ hi := by
  unfold NeutralIO.within
  rw [Bool.and_eq_true, decide_eq_true_eq, decide_eq_true_eq]
theorem people_of {l : List Int} (h : Cl04Neutral.people l = true) : l = (Cl04Neutral.nats l).map Int.ofNat ∧ (Cl04Neutral.nats l).length ≤ 10 ∧ ∀ i ∈ Cl04Neutral.nats l, i ≤ 20 := by
  unfold Cl04Neutral.people at h
  rw [Bool.and_eq_true, decide_eq_true_eq, List.all_eq_true] at h
  obtain ⟨h1, h2⟩ := h
  unfold Cl04Neutral.nats
  refine ⟨?_, by rw [List.length_map]; exact h1, fun i hi => ?_⟩
  · rw [List.map_map]
    have : l.map (Int.ofNat ∘ Int.toNat) = l.map id := List.map_congr_left fun x hx => by
      have := within_iff.mp (h2 x hx)
      show ((x.toNat : Nat) : Int) = x
      omega
    rw [this, List.map_id]
  · obtain ⟨x, hx, rfl⟩ := List.mem_map.mp hi
    have := within_iff.mp (h2 x hx)
    omega
theorem asked_view {c : List (List Int)} (h : Cl04Neutral.asked1 c = true) : ∃ x, Cl04Neutral.callOf c = some x ∧ View c x := by
  unfold Cl04Neutral.asked1 Cl04Neutral.who Cl04Neutral.moment Cl04Neutral.small at h
  split at h
  · exact ⟨_, rfl, .person _⟩
  · simp only [Bool.and_eq_true, within_iff] at h
    obtain ⟨n0, e0⟩ := Int.eq_ofNat_of_zero_le h.1.1
    obtain ⟨n1, e1⟩ := Int.eq_ofNat_of_zero_le h.2.1.1
    obtain ⟨n2, e2⟩ := Int.eq_ofNat_of_zero_le h.2.2.1.1
    obtain ⟨n3, e3⟩ := Int.eq_ofNat_of_zero_le h.2.2.2.1
    subst e0
    subst e1
    subst e2
    subst e3
    exact ⟨_, rfl, .hours n0 n1 n2 n3⟩
  · simp only [Bool.and_eq_true, within_iff] at h
    obtain ⟨n0, e0⟩ := Int.eq_ofNat_of_zero_le h.1.1
    subst e0
    exact ⟨_, rfl, .off n0 _⟩
  · simp only [Bool.and_eq_true, within_iff] at h
    obtain ⟨n0, e0⟩ := Int.eq_ofNat_of_zero_le h.1.1
    obtain ⟨n1, e1⟩ := Int.eq_ofNat_of_zero_le h.2.1.1
    obtain ⟨n2, e2⟩ := Int.eq_ofNat_of_zero_le h.2.2.1.1
    obtain ⟨n3, e3⟩ := Int.eq_ofNat_of_zero_le h.2.2.2.1
    subst e0
    subst e1
    subst e2
    subst e3
    exact ⟨_, rfl, .busy n0 n1 n2 n3⟩
  · simp only [within_iff] at h
    obtain ⟨n0, e0⟩ := Int.eq_ofNat_of_zero_le h.1
    subst e0
    exact ⟨_, rfl, .drop n0⟩
  · simp only [within_iff] at h
    obtain ⟨n0, e0⟩ := Int.eq_ofNat_of_zero_le h.1
    subst e0
    exact ⟨_, rfl, .sure n0⟩
  · simp only [Bool.and_eq_true, within_iff] at h
    obtain ⟨n0, e0⟩ := Int.eq_ofNat_of_zero_le h.1.1
    obtain ⟨n1, e1⟩ := Int.eq_ofNat_of_zero_le h.2.1.1
    obtain ⟨n2, e2⟩ := Int.eq_ofNat_of_zero_le h.2.2.1
    subst e0
    subst e1
    subst e2
    exact ⟨_, rfl, .free n0 n1 n2⟩
  · simp only [Bool.and_eq_true, within_iff] at h
    obtain ⟨n0, e0⟩ := Int.eq_ofNat_of_zero_le h.1.1
    obtain ⟨n1, e1⟩ := Int.eq_ofNat_of_zero_le h.2.1.1
    subst e0
    subst e1
    obtain ⟨e, h1, h2⟩ := people_of h.2.2
    refine ⟨_, rfl, ?_⟩
    have q := View.common n0 n1 _ h1 h2
    rw [← e] at q
    exact q
  · simp only [Bool.and_eq_true, within_iff] at h
    obtain ⟨n0, e0⟩ := Int.eq_ofNat_of_zero_le h.1.1
    obtain ⟨n1, e1⟩ := Int.eq_ofNat_of_zero_le h.2.1.1
    obtain ⟨n2, e2⟩ := Int.eq_ofNat_of_zero_le h.2.2.1.1
    obtain ⟨n3, e3⟩ := Int.eq_ofNat_of_zero_le h.2.2.2.1.1
    subst e0
    subst e1
    subst e2
    subst e3
    obtain ⟨e, h1, h2⟩ := people_of h.2.2.2.2
    refine ⟨_, rfl, ?_⟩
    have q := View.first n0 n1 n2 n3 _ h1 h2
    rw [← e] at q
    exact q
  · simp only [Bool.and_eq_true, within_iff] at h
    obtain ⟨n0, e0⟩ := Int.eq_ofNat_of_zero_le h.1.1
    obtain ⟨n1, e1⟩ := Int.eq_ofNat_of_zero_le h.2.1.1
    obtain ⟨n2, e2⟩ := Int.eq_ofNat_of_zero_le h.2.2.1.1
    subst e0
    subst e1
    subst e2
    obtain ⟨e, h1, h2⟩ := people_of h.2.2.2
    refine ⟨_, rfl, ?_⟩
    have q := View.best n0 n1 n2 _ h1 h2
    rw [← e] at q
    exact q
  · simp only [Bool.and_eq_true, within_iff] at h
    obtain ⟨n0, e0⟩ := Int.eq_ofNat_of_zero_le h.1.1
    obtain ⟨n1, e1⟩ := Int.eq_ofNat_of_zero_le h.2.1.1
    obtain ⟨n2, e2⟩ := Int.eq_ofNat_of_zero_le h.2.2.1.1
    subst e0
    subst e1
    subst e2
    obtain ⟨e, h1, h2⟩ := people_of h.2.2.2
    refine ⟨_, rfl, ?_⟩
    have q := View.most n0 n1 n2 _ h1 h2
    rw [← e] at q
    exact q
  · simp only [Bool.and_eq_true, within_iff] at h
    obtain ⟨n0, e0⟩ := Int.eq_ofNat_of_zero_le h.1.1
    subst e0
    obtain ⟨e, h1, h2⟩ := people_of h.2
    refine ⟨_, rfl, ?_⟩
    have q := View.at_ n0 _ h1 h2
    rw [← e] at q
    exact q
  · simp only [Bool.and_eq_true, within_iff] at h
    obtain ⟨n0, e0⟩ := Int.eq_ofNat_of_zero_le h.1.1
    obtain ⟨n1, e1⟩ := Int.eq_ofNat_of_zero_le h.2.1.1
    obtain ⟨n2, e2⟩ := Int.eq_ofNat_of_zero_le h.2.2.1
    subst e0
    subst e1
    subst e2
    exact ⟨_, rfl, .minutes n0 n1 n2⟩
  · cases h
/-- what a line that may be handed in is -/
theorem asked_line {l : List Int} (h : PyCl04.answers_asked l = true) : ∃ cs : List (List (List Int)), l = PyFlat.put cs ∧ cs.length ≤ 60 ∧ (∀ c ∈ cs, Cl04Neutral.asked1 c = true) ∧ PyCl04.answers l = PyFlat.told (PyFlat.played Cl04Neutral.step Cl04Neutral.start cs) := by
  unfold PyCl04.answers_asked at h
  cases e : PyFlat.calls PyCl04.shape l.length l with
  | none =>
    rw [e] at h
    cases h
  | some raw =>
    rw [e] at h
    have ew : raw.map PyCl04.whole = raw := by
      have : raw.map PyCl04.whole = raw.map id := List.map_congr_left fun c _ => whole_id c
      rw [this, List.map_id]
    simp only [Bool.and_eq_true, ew] at h
    obtain ⟨⟨⟨_, _⟩, ha⟩, _⟩ := h
    unfold Cl04Neutral.asked at ha
    rw [Bool.and_eq_true, Bool.and_eq_true, decide_eq_true_eq, decide_eq_true_eq, List.all_eq_true] at ha
    refine ⟨raw, (PyFlat.put_calls _ _ _ e).1, ha.2.1, ha.2.2, ?_⟩
    unfold PyCl04.answers PyCl04.calls
    rw [e]
    dsimp only
    rw [ew]
/-! ### step by step -/
def stateOf (cs : List (List (List Int))) : State := cs.foldl (fun s c => (Cl04Neutral.step s c).1) Cl04.init
def toldOf (cs : List (List (List Int))) : List Int := PyFlat.told (PyFlat.played Cl04Neutral.step Cl04Neutral.start cs)
theorem played_snoc (c : List (List Int)) : ∀ (cs : List (List (List Int))) (s : State), PyFlat.played Cl04Neutral.step s (cs ++ [c]) = PyFlat.played Cl04Neutral.step s cs ++ [(Cl04Neutral.step (cs.foldl (fun s c => (Cl04Neutral.step s c).1) s) c).2]
  | [], s => rfl
  | d :: cs, s => by
    show (Cl04Neutral.step s d).2 :: PyFlat.played Cl04Neutral.step (Cl04Neutral.step s d).1 (cs ++ [c]) = _
    rw [played_snoc c cs]
    rfl
theorem stateOf_more {cs : List (List (List Int))} {j : Nat} {c : List (List Int)} (h : cs[j]? = some c) : stateOf (cs.take (j + 1)) = (Cl04Neutral.step (stateOf (cs.take j)) c).1 := by
  unfold stateOf
  rw [take_more h, List.foldl_append]
  rfl
theorem toldOf_more {cs : List (List (List Int))} {j : Nat} {c : List (List Int)} (h : cs[j]? = some c) : toldOf (cs.take (j + 1)) = toldOf (cs.take j) ++ ((Cl04Neutral.step (stateOf (cs.take j)) c).2.length : Int) :: (Cl04Neutral.step (stateOf (cs.take j)) c).2 := by
  unfold toldOf
  rw [take_more h, played_snoc]
  unfold PyFlat.told
  rw [List.flatMap_append, List.flatMap_cons, List.flatMap_nil, List.append_nil]
  rfl
theorem put_append : ∀ (cs ds : List (List (List Int))), PyFlat.put (cs ++ ds) = PyFlat.put cs ++ PyFlat.put ds
  | [], _ => rfl
  | c :: cs, ds => by
    show PyFlat.put1 c ++ PyFlat.put (cs ++ ds) = PyFlat.put1 c ++ PyFlat.put cs ++ PyFlat.put ds
    rw [put_append cs ds, List.append_assoc]
theorem put_at {cs : List (List (List Int))} {j : Nat} {c : List (List Int)} (h : cs[j]? = some c) : PyFlat.put cs = PyFlat.put (cs.take j) ++ (PyFlat.put1 c ++ PyFlat.put (cs.drop (j + 1))) ∧ PyFlat.put (cs.take (j + 1)) = PyFlat.put (cs.take j) ++ PyFlat.put1 c := by
  have e : cs = cs.take j ++ (c :: cs.drop (j + 1)) := by
    obtain ⟨hl, e⟩ := List.getElem?_eq_some_iff.mp h
    rw [← e, ← List.drop_eq_getElem_cons hl, List.take_append_drop]
  refine ⟨?_, ?_⟩
  · have q := put_append (cs.take j) (c :: cs.drop (j + 1))
    rw [← e] at q
    exact q
  · rw [take_more h, put_append]
    show _ ++ (PyFlat.put1 c ++ []) = _
    rw [List.append_nil]
/-! ### the state stays well formed -/
theorem wf_init : WF Cl04.init := ⟨fun p hp => (by cases hp), Nat.zero_le _, fun x hx => (by cases hx), Nat.zero_le _, List.nodup_nil⟩
theorem mem_set {α : Type} {l : List α} {i : Nat} {x y : α} (h : y ∈ l.set i x) : y ∈ l ∨ y = x := List.mem_or_eq_of_mem_set h
theorem wf_step {s : State} (h : WF s) (c : Call) : WF (Cl04.step s c).1 := by
  cases c with
  | person z =>
    show WF (if z < -840 ∨ 840 < z then (s, [-1]) else if 8 ≤ s.people.length then (s, [-5]) else ({ s with people := s.people ++ [newPer z] }, [(s.people.length : Int)])).1
    by_cases c1 : z < -840 ∨ 840 < z
    · rw [if_pos c1]
      exact h
    · rw [if_neg c1]
      by_cases c2 : 8 ≤ s.people.length
      · rw [if_pos c2]
        exact h
      · rw [if_neg c2]
        refine ⟨fun p hp => ?_, ?_, fun x hx => ?_, h.nb, h.ids⟩
        · rcases List.mem_append.mp hp with hp | hp
          · exact h.per p hp
          · rcases List.mem_cons.mp hp with rfl | hp
            · refine ⟨by show -840 ≤ z ∧ z ≤ 840; omega, rfl, fun x hx => ?_, fun x hx => (by cases hx), List.nodup_nil⟩
              have := List.eq_of_mem_replicate hx
              subst this
              exact ⟨Nat.le_refl _, Nat.zero_le _⟩
            · cases hp
        · show (s.people ++ [newPer z]).length ≤ 8
          rw [List.length_append, List.length_singleton]
          omega
        · obtain ⟨q1, q2, q3, q4⟩ := h.bus x hx
          refine ⟨q1, q2, q3, ?_⟩
          show x.who < (s.people ++ [newPer z]).length
          rw [List.length_append]
          omega
  | hours p d a b =>
    show WF (if s.people.length ≤ p then (s, [-3]) else if d < 1 ∨ (7 < d ∨ (1440 < b ∨ b < a)) then (s, [-1]) else
        ({ s with people := s.people.set p { Cl04.person s p with hours := (Cl04.person s p).hours.set (d - 1) (a, b) } }, _)).1
    by_cases c1 : s.people.length ≤ p
    · rw [if_pos c1]
      exact h
    · rw [if_neg c1]
      by_cases c2 : d < 1 ∨ (7 < d ∨ (1440 < b ∨ b < a))
      · rw [if_pos c2]
        exact h
      · rw [if_neg c2]
        have hm : Cl04.person s p ∈ s.people := by
          unfold Cl04.person
          rw [List.getD_eq_getElem?_getD, List.getElem?_eq_getElem (by omega)]
          exact List.getElem_mem (by omega)
        have hp := h.per _ hm
        refine ⟨fun q hq => ?_, ?_, fun x hx => ?_, h.nb, h.ids⟩
        · rcases mem_set hq with hq | rfl
          · exact h.per q hq
          · refine ⟨hp.ahead, (List.length_set ..).trans hp.seven, fun x hx => ?_, hp.off, hp.nd⟩
            rcases mem_set hx with hx | rfl
            · exact hp.hours x hx
            · exact ⟨by show a ≤ b; omega, by show b ≤ 1440; omega⟩
        · show (s.people.set p _).length ≤ 8
          rw [List.length_set]
          exact h.np
        · obtain ⟨q1, q2, q3, q4⟩ := h.bus x hx
          refine ⟨q1, q2, q3, ?_⟩
          show x.who < (s.people.set p _).length
          rw [List.length_set]
          exact q4
  | off p d =>
    show WF (if s.people.length ≤ p then (s, [-3]) else if d < -1 ∨ 100 < d then (s, [-1]) else
        ({ s with people := s.people.set p { Cl04.person s p with off := if (Cl04.person s p).off.contains d = true then (Cl04.person s p).off.filter (fun e => e != d) else (Cl04.person s p).off ++ [d] } }, _)).1
    by_cases c1 : s.people.length ≤ p
    · rw [if_pos c1]
      exact h
    · rw [if_neg c1]
      by_cases c2 : d < -1 ∨ 100 < d
      · rw [if_pos c2]
        exact h
      · rw [if_neg c2]
        have hm : Cl04.person s p ∈ s.people := by
          unfold Cl04.person
          rw [List.getD_eq_getElem?_getD, List.getElem?_eq_getElem (by omega)]
          exact List.getElem_mem (by omega)
        have hp := h.per _ hm
        refine ⟨fun q hq => ?_, ?_, fun x hx => ?_, h.nb, h.ids⟩
        · rcases mem_set hq with hq | rfl
          · exact h.per q hq
          · by_cases c3 : (Cl04.person s p).off.contains d = true
            · rw [if_pos c3]
              exact ⟨hp.ahead, hp.seven, hp.hours, fun x hx => hp.off x (List.mem_filter.mp hx).1, hp.nd.filter _⟩
            · rw [if_neg c3]
              refine ⟨hp.ahead, hp.seven, hp.hours, fun x hx => ?_, nd_snoc1 hp.nd fun m => c3 (List.contains_iff_mem.mpr m)⟩
              rcases List.mem_append.mp hx with hx | hx
              · exact hp.off x hx
              · rcases List.mem_cons.mp hx with rfl | hx
                · omega
                · cases hx
        · show (s.people.set p _).length ≤ 8
          rw [List.length_set]
          exact h.np
        · obtain ⟨q1, q2, q3, q4⟩ := h.bus x hx
          refine ⟨q1, q2, q3, ?_⟩
          show x.who < (s.people.set p _).length
          rw [List.length_set]
          exact q4
  | busy p a b v =>
    show WF (if s.people.length ≤ p then (s, [-3]) else if 144000 < b ∨ (b ≤ a ∨ 1 < v) then (s, [-1]) else if 50 ≤ s.busy.length then (s, [-5]) else ({ s with busy := s.busy ++ [⟨s.next, p, a, b, v == 1⟩], next := s.next + 1 }, [(s.next : Int)])).1
    by_cases c1 : s.people.length ≤ p
    · rw [if_pos c1]
      exact h
    · rw [if_neg c1]
      by_cases c2 : 144000 < b ∨ (b ≤ a ∨ 1 < v)
      · rw [if_pos c2]
        exact h
      · rw [if_neg c2]
        by_cases c3 : 50 ≤ s.busy.length
        · rw [if_pos c3]
          exact h
        · rw [if_neg c3]
          refine ⟨h.per, h.np, fun x hx => ?_, ?_, ?_⟩
          · rcases List.mem_append.mp hx with hx | hx
            · obtain ⟨q1, q2, q3, q4⟩ := h.bus x hx
              exact ⟨q1, q2, by show x.id < s.next + 1; omega, q4⟩
            · rcases List.mem_cons.mp hx with rfl | hx
              · exact ⟨by show a < b; omega, by show b ≤ 144000; omega, by show s.next < s.next + 1; omega, by show p < s.people.length; omega⟩
              · cases hx
          · show (s.busy ++ [_]).length ≤ 50
            rw [List.length_append, List.length_singleton]
            omega
          · show ((s.busy ++ [(⟨s.next, p, a, b, v == 1⟩ : Cl04.Busy)]).map (·.id)).Nodup
            rw [List.map_append]
            refine nd_snoc1 h.ids fun m => ?_
            obtain ⟨x, hx, e⟩ := List.mem_map.mp m
            have := (h.bus x hx).2.2.1
            have e : x.id = s.next := e
            omega
  | drop k =>
    show WF (if s.busy.any (fun (x : Cl04.Busy) => x.id == k) = false then (s, [-4]) else ({ s with busy := s.busy.filter fun (x : Cl04.Busy) => x.id != k }, [(s.busy.length : Int) - 1])).1
    by_cases c1 : s.busy.any (fun (x : Cl04.Busy) => x.id == k) = false
    · rw [if_pos c1]
      exact h
    · rw [if_neg c1]
      exact ⟨h.per, h.np, fun x hx => h.bus x (List.mem_filter.mp hx).1, Nat.le_trans (List.length_filter_le _ _) h.nb, h.ids.sublist (List.Sublist.map _ List.filter_sublist)⟩
  | sure k =>
    show WF (match s.busy.find? fun (x : Cl04.Busy) => x.id == k with
      | none => (s, [-4])
      | some x => ({ s with busy := s.busy.map fun (y : Cl04.Busy) => if y.id = k then { y with sure := !y.sure } else y }, [if x.sure = true then 0 else 1])).1
    cases s.busy.find? fun (x : Cl04.Busy) => x.id == k with
    | none => exact h
    | some x =>
      refine ⟨h.per, h.np, fun y hy => ?_, ?_, ?_⟩
      · obtain ⟨z, hz, rfl⟩ := List.mem_map.mp hy
        by_cases c : z.id = k
        · rw [if_pos c]
          exact h.bus z hz
        · rw [if_neg c]
          exact h.bus z hz
      · show (s.busy.map _).length ≤ 50
        rw [List.length_map]
        exact h.nb
      · show ((s.busy.map fun (y : Cl04.Busy) => if y.id = k then { y with sure := !y.sure } else y).map (·.id)).Nodup
        rw [List.map_map]
        have e : s.busy.map ((·.id) ∘ fun (y : Cl04.Busy) => if y.id = k then { y with sure := !y.sure } else y) = s.busy.map (·.id) := List.map_congr_left fun z _ => by
          show (if z.id = k then { z with sure := !z.sure } else z : Cl04.Busy).id = z.id
          split <;> rfl
        rw [e]
        exact h.ids
  | free p a b =>
    show WF (if s.people.length ≤ p then (s, [-3]) else (s, _)).1
    by_cases c1 : s.people.length ≤ p
    · rw [if_pos c1]
      exact h
    · rw [if_neg c1]
      exact h
  | common a b l => exact h
  | first n a b g l => exact h
  | best n a b l => exact h
  | most n a b l => exact h
  | at_ u l => exact h
  | minutes p a b =>
    show WF (if s.people.length ≤ p then (s, [-3]) else (s, _)).1
    by_cases c1 : s.people.length ≤ p
    · rw [if_pos c1]
      exact h
    · rw [if_neg c1]
      exact h
theorem step_view {s : State} {c : List (List Int)} {x : Call} (h : Cl04Neutral.callOf c = some x) : Cl04Neutral.step s c = Cl04.step s x := by
  unfold Cl04Neutral.step
  rw [h]
theorem wf_state {cs : List (List (List Int))} (h : ∀ c ∈ cs, Cl04Neutral.asked1 c = true) : WF (stateOf cs) := by
  have go : ∀ (cs : List (List (List Int))) (s : State), WF s → (∀ c ∈ cs, Cl04Neutral.asked1 c = true) → WF (cs.foldl (fun s c => (Cl04Neutral.step s c).1) s) := by
    intro cs
    induction cs with
    | nil => intro s hs _; exact hs
    | cons c cs ih =>
      intro s hs hc
      obtain ⟨x, hx, _⟩ := asked_view (hc c (List.mem_cons_self ..))
      rw [List.foldl_cons]
      refine ih _ ?_ fun d hd => hc d (List.mem_cons_of_mem _ hd)
      rw [step_view hx]
      exact wf_step hs x
  exact go cs _ wf_init h
/-! ### answers are short -/
theorem spans_le (l : List Cl04.Span) : (Cl04.spans l).length ≤ 61 := by
  unfold Cl04.spans Cl04.nums
  rw [List.length_map, List.length_cons]
  have : ((l.take 30).flatMap fun (x : Cl04.Span) => [x.1, x.2]).length ≤ 60 := by
    have e : ∀ m : List Cl04.Span, (m.flatMap fun (x : Cl04.Span) => [x.1, x.2]).length = 2 * m.length := by
      intro m
      induction m with
      | nil => rfl
      | cons x r ih =>
        rw [List.flatMap_cons, List.length_append, ih]
        show 2 + 2 * r.length = 2 * (r.length + 1)
        omega
    rw [e, List.length_take]
    omega
  omega
theorem ans_le (s : State) (c : Call) : (Cl04.step s c).2.length ≤ 61 := by
  have win : ∀ (a b : Nat) (f : List Int), f.length ≤ 61 → (Cl04.window a b f).length ≤ 61 := fun a b f h => by
    unfold Cl04.window
    split
    · exact Nat.le_trans (Nat.le_refl 1) (by decide)
    · exact h
  have all : ∀ (l : List Nat) (f : List Int), f.length ≤ 61 → (Cl04.all s l f).2.length ≤ 61 := fun l f h => by
    unfold Cl04.all
    dsimp only
    split
    · exact Nat.le_trans (Nat.le_refl 1) (by decide)
    · split
      · exact Nat.le_trans (Nat.le_refl 1) (by decide)
      · exact h
  have known : ∀ (p : Nat) (f : State × List Int), f.2.length ≤ 61 → (Cl04.known s p f).2.length ≤ 61 := fun p f h => by
    unfold Cl04.known
    split
    · exact Nat.le_trans (Nat.le_refl 1) (by decide)
    · exact h
  cases c with
  | person z =>
    unfold Cl04.step
    dsimp only
    split
    · exact Nat.le_trans (Nat.le_refl 1) (by decide)
    · split <;> exact Nat.le_trans (Nat.le_refl 1) (by decide)
  | hours p d a b =>
    refine known _ _ ?_
    split <;> exact Nat.le_trans (Nat.le_refl 1) (by decide)
  | off p d =>
    refine known _ _ ?_
    split <;> exact Nat.le_trans (Nat.le_refl 1) (by decide)
  | busy p a b v =>
    refine known _ _ ?_
    split
    · exact Nat.le_trans (Nat.le_refl 1) (by decide)
    · split <;> exact Nat.le_trans (Nat.le_refl 1) (by decide)
  | drop k =>
    unfold Cl04.step
    dsimp only
    split <;> exact Nat.le_trans (Nat.le_refl 1) (by decide)
  | sure k =>
    unfold Cl04.step
    dsimp only
    split <;> exact Nat.le_trans (Nat.le_refl 1) (by decide)
  | free p a b => exact known _ _ (win _ _ _ (spans_le _))
  | common a b l => exact all _ _ (win _ _ _ (spans_le _))
  | first n a b g l =>
    refine all _ _ (win _ _ _ ?_)
    split
    · exact Nat.le_trans (Nat.le_refl 1) (by decide)
    · split <;> exact Nat.le_trans (Nat.le_refl 1) (by decide)
  | best n a b l =>
    refine all _ _ (win _ _ _ ?_)
    split
    · exact Nat.le_trans (Nat.le_refl 1) (by decide)
    · split
      · exact Nat.le_trans (Nat.le_refl 1) (by decide)
      · exact Nat.le_trans (Nat.le_refl 2) (by decide)
  | most n a b l =>
    refine all _ _ (win _ _ _ ?_)
    split
    · exact Nat.le_trans (Nat.le_refl 1) (by decide)
    · split
      · exact Nat.le_trans (Nat.le_refl 1) (by decide)
      · exact Nat.le_trans (Nat.le_refl 3) (by decide)
  | at_ u l =>
    refine all _ _ ?_
    split <;> exact Nat.le_trans (Nat.le_refl 1) (by decide)
  | minutes p a b => exact known _ _ (win _ _ _ (Nat.le_trans (Nat.le_refl 3) (by decide)))
end Fb
namespace Fb
open PySem PySem.Spec PyProof.Rows L2
abbrev sHas : Stmt := top 46
abbrev sAnswer : Stmt := top 47
structure TxtH (mg : Str → Option Value) : Prop where
  c0 : ∃ t, mg "PERSON" = some (.int 0 t)
  c1 : ∃ t, mg "HOURS" = some (.int 1 t)
  c2 : ∃ t, mg "OFF" = some (.int 2 t)
  c3 : ∃ t, mg "BUSY" = some (.int 3 t)
  c4 : ∃ t, mg "DROP" = some (.int 4 t)
  c5 : ∃ t, mg "SURE" = some (.int 5 t)
  c6 : ∃ t, mg "FREE" = some (.int 6 t)
  c7 : ∃ t, mg "COMMON" = some (.int 7 t)
  c8 : ∃ t, mg "FIRST" = some (.int 8 t)
  c9 : ∃ t, mg "BEST" = some (.int 9 t)
  c10 : ∃ t, mg "MOST" = some (.int 10 t)
  c11 : ∃ t, mg "AT" = some (.int 11 t)
/-- all the calls' methods -/
structure Meths (P : Program) (w : World) (K : PySem.W.Frag) (mg : Str → Option Value) (base : Heap) (C : Cs) : Prop where
  m0 : GMeth P w K mg base C.D "person" ["self", "ahead"] 3 (spPerson C)
  m1 : GMeth P w K mg base C.D "hours" ["self", "person", "weekday", "begin", "end"] 3 (spHours C)
  m2 : GMeth P w K mg base C.D "off" ["self", "person", "day"] 3 (spOff C)
  m3 : GMeth P w K mg base C.D "busy" ["self", "person", "begin", "end", "sort"] 3 (spBusy C)
  m4 : GMeth P w K mg base C.D "drop" ["self", "item"] 1 (spDrop C)
  m5 : GMeth P w K mg base C.D "sure" ["self", "item"] 1 (spSure C)
  m6 : GMeth P w K mg base C.D "free" ["self", "person", "a", "b"] 6 (spFree C)
  m7 : GMeth P w K mg base C.D "common" ["self", "a", "b", "people"] 5 (spCommon C K)
  m8 : GMeth P w K mg base C.D "first" ["self", "long", "a", "b", "g", "people"] 5 (spFirst C K)
  m9 : GMeth P w K mg base C.D "best" ["self", "long", "a", "b", "people"] 5 (spBest C K)
  m10 : GMeth P w K mg base C.D "most" ["self", "long", "a", "b", "people"] 4 (spMost C K)
  m11 : GMeth P w K mg base C.D "at" ["self", "moment", "people"] 4 (spAt C K)
  m12 : GMeth P w K mg base C.D "minutes" ["self", "person", "a", "b"] 4 (spMin C)
def spHas : Sp := fun vs H Q _ => ∃ k : Int, vs = [.int k] ∧ Q (.bl (decide (7 ≤ k) && decide (k ≤ 11))) H
def spAnswer (C : Cs) (K : PySem.W.Frag) : Sp := fun vs H Q _ => ∃ (d l p : Addr) (F : List Addr) (s : Cl04.State) (x : Cl04.Call) (k : Int) (ns : List Int) (rows : List (List Int)), vs = [.ref d, .int k, .ref l, .ref p] ∧ DA C H d F s ∧ WF s ∧ View ((k :: ns) :: rows) x ∧ SqL K H l (ns.map V.int) ∧ SqL K H p ((rows.headD []).map V.int) ∧ Ret C H d F Q (Cl04.step s x)
section
variable {P : Program} {w : World} {K : PySem.W.Frag} {mg : Str → Option Value} {base : Heap}
theorem scHas : FnScope ["call"] ["call"] (defScope sHas) := ⟨rfl, rfl, rfl, by decide +kernel, rfl, by decide +kernel, by decide +kernel⟩
theorem ok_has {f : Addr} {fd : FuncData} (F : Fun K "has_people" "has_people" sHas f fd) (T : TxtH mg) : FnOk P w K mg base CX0 1 f fd ["call"] spHas := by
  refine F.ok scHas (fun vs H Q E h => ?_) (fun cdv A outer s H vs Q E hr h => ?_)
  · obtain ⟨k, rfl, _⟩ := h
    rfl
  · obtain ⟨n, rfl, k⟩ := h
    obtain ⟨t7, e7⟩ := T.c7
    obtain ⟨t11, e11⟩ := T.c11
    refine ⟨_, pss_one (ps_ret (pe_and (pe_cmpR op_ge (pv 0) (pe_glob (v := .int 7) rfl e7 ⟨_, rfl⟩) (nomark _)) (pe_one (pe_cmpR op_le (pv 0) (pe_glob (v := .int 11) rfl e11 ⟨_, rfl⟩) (nomark _))))), ?_⟩
    exact Vv.and (Vv.i2 (.var rfl) .con) (fun _ => Vv.i2 (.var rfl) .con) _ k
theorem scAnswer : FnScope ["diary", "call", "numbers", "people"] ["diary", "call", "numbers", "people"] (defScope sAnswer) := ⟨rfl, rfl, rfl, by decide +kernel, rfl, by decide +kernel, by decide +kernel⟩
theorem ok_answer {f : Addr} {C : Cs} {fd : FuncData} (F : Fun K "answer" "answer" sAnswer f fd) (T : TxtD K mg C) (TH : TxtH mg) (G : Meths P w K mg base C) : FnOk P w K mg base CX0 7 f fd ["diary", "call", "numbers", "people"] (spAnswer C K) := by
  refine F.ok scAnswer (fun vs H Q E h => ?_) (fun cdv A outer s H vs Q E hr h => ?_)
  · obtain ⟨d, l, p, F, s, x, k, ns, rows, rfl, _⟩ := h
    rfl
  · obtain ⟨d, l, p, F, st, x, kk, ns, rows, rfl, hDA, hwf, hv, hN, hP, k⟩ := h
    obtain ⟨t0, e0⟩ := TH.c0
    obtain ⟨t1, e1⟩ := TH.c1
    obtain ⟨t2, e2⟩ := TH.c2
    obtain ⟨t3, e3⟩ := TH.c3
    obtain ⟨t4, e4⟩ := TH.c4
    obtain ⟨t5, e5⟩ := TH.c5
    obtain ⟨t6, e6⟩ := TH.c6
    obtain ⟨t7, e7⟩ := TH.c7
    obtain ⟨t8, e8⟩ := TH.c8
    obtain ⟨t9, e9⟩ := TH.c9
    obtain ⟨t10, e10⟩ := TH.c10
    obtain ⟨t11, e11⟩ := TH.c11
    obtain ⟨f0, fd0, G0, mt0, b0⟩ := G.m0
    obtain ⟨f1, fd1, G1, mt1, b1⟩ := G.m1
    obtain ⟨f2, fd2, G2, mt2, b2⟩ := G.m2
    obtain ⟨f3, fd3, G3, mt3, b3⟩ := G.m3
    obtain ⟨f4, fd4, G4, mt4, b4⟩ := G.m4
    obtain ⟨f5, fd5, G5, mt5, b5⟩ := G.m5
    obtain ⟨f6, fd6, G6, mt6, b6⟩ := G.m6
    obtain ⟨f7, fd7, G7, mt7, b7⟩ := G.m7
    obtain ⟨f8, fd8, G8, mt8, b8⟩ := G.m8
    obtain ⟨f9, fd9, G9, mt9, b9⟩ := G.m9
    obtain ⟨f10, fd10, G10, mt10, b10⟩ := G.m10
    obtain ⟨f11, fd11, G11, mt11, b11⟩ := G.m11
    obtain ⟨f12, fd12, G12, mt12, b12⟩ := G.m12
    have hr1 : Room 1 _ := hr.mono (by decide)
    have hr3 : Room 3 _ := hr.mono (by decide)
    have hr4 : Room 4 _ := hr.mono (by decide)
    have hr5 : Room 5 _ := hr.mono (by decide)
    refine ⟨_, pss_cons (ps_if (pt_cmpR op_eq (pv 1) (pe_glob (v := .int 0) rfl e0 ⟨_, rfl⟩) (nomark _)) (pss_one (ps_ret (pe_meth (pv 0) T.clD mt0 G0 hr3 b0 .nil pass0 (pa_cons (pe_ix ix_list (pv 2) pe_int (fun _ _ => rfl)) pa_nil)))) pss_nil)
      (pss_cons (ps_if (pt_cmpR op_eq (pv 1) (pe_glob (v := .int 1) rfl e1 ⟨_, rfl⟩) (nomark _)) (pss_one (ps_ret (pe_meth (pv 0) T.clD mt1 G1 hr3 b1 .nil pass0 (pa_cons (pe_ix ix_list (pv 2) pe_int (fun _ _ => rfl)) (pa_cons (pe_ix ix_list (pv 2) pe_int (fun _ _ => rfl)) (pa_cons (pe_ix ix_list (pv 2) pe_int (fun _ _ => rfl)) (pa_cons (pe_ix ix_list (pv 2) pe_int (fun _ _ => rfl)) pa_nil))))))) pss_nil)
      (pss_cons (ps_if (pt_cmpR op_eq (pv 1) (pe_glob (v := .int 2) rfl e2 ⟨_, rfl⟩) (nomark _)) (pss_one (ps_ret (pe_meth (pv 0) T.clD mt2 G2 hr3 b2 .nil pass0 (pa_cons (pe_ix ix_list (pv 2) pe_int (fun _ _ => rfl)) (pa_cons (pe_ix ix_list (pv 2) pe_int (fun _ _ => rfl)) pa_nil))))) pss_nil)
      (pss_cons (ps_if (pt_cmpR op_eq (pv 1) (pe_glob (v := .int 3) rfl e3 ⟨_, rfl⟩) (nomark _)) (pss_one (ps_ret (pe_meth (pv 0) T.clD mt3 G3 hr3 b3 .nil pass0 (pa_cons (pe_ix ix_list (pv 2) pe_int (fun _ _ => rfl)) (pa_cons (pe_ix ix_list (pv 2) pe_int (fun _ _ => rfl)) (pa_cons (pe_ix ix_list (pv 2) pe_int (fun _ _ => rfl)) (pa_cons (pe_ix ix_list (pv 2) pe_int (fun _ _ => rfl)) pa_nil))))))) pss_nil)
      (pss_cons (ps_if (pt_cmpR op_eq (pv 1) (pe_glob (v := .int 4) rfl e4 ⟨_, rfl⟩) (nomark _)) (pss_one (ps_ret (pe_meth (pv 0) T.clD mt4 G4 hr1 b4 .nil pass0 (pa_cons (pe_ix ix_list (pv 2) pe_int (fun _ _ => rfl)) pa_nil)))) pss_nil)
      (pss_cons (ps_if (pt_cmpR op_eq (pv 1) (pe_glob (v := .int 5) rfl e5 ⟨_, rfl⟩) (nomark _)) (pss_one (ps_ret (pe_meth (pv 0) T.clD mt5 G5 hr1 b5 .nil pass0 (pa_cons (pe_ix ix_list (pv 2) pe_int (fun _ _ => rfl)) pa_nil)))) pss_nil)
      (pss_cons (ps_if (pt_cmpR op_eq (pv 1) (pe_glob (v := .int 6) rfl e6 ⟨_, rfl⟩) (nomark _)) (pss_one (ps_ret (pe_meth (pv 0) T.clD mt6 G6 hr b6 .nil pass0 (pa_cons (pe_ix ix_list (pv 2) pe_int (fun _ _ => rfl)) (pa_cons (pe_ix ix_list (pv 2) pe_int (fun _ _ => rfl)) (pa_cons (pe_ix ix_list (pv 2) pe_int (fun _ _ => rfl)) pa_nil)))))) pss_nil)
      (pss_cons (ps_if (pt_cmpR op_eq (pv 1) (pe_glob (v := .int 7) rfl e7 ⟨_, rfl⟩) (nomark _)) (pss_one (ps_ret (pe_meth (pv 0) T.clD mt7 G7 hr5 b7 .nil pass0 (pa_cons (pe_ix ix_list (pv 2) pe_int (fun _ _ => rfl)) (pa_cons (pe_ix ix_list (pv 2) pe_int (fun _ _ => rfl)) (pa_cons (pv 3) pa_nil)))))) pss_nil)
      (pss_cons (ps_if (pt_cmpR op_eq (pv 1) (pe_glob (v := .int 8) rfl e8 ⟨_, rfl⟩) (nomark _)) (pss_one (ps_ret (pe_meth (pv 0) T.clD mt8 G8 hr5 b8 .nil pass0 (pa_cons (pe_ix ix_list (pv 2) pe_int (fun _ _ => rfl)) (pa_cons (pe_ix ix_list (pv 2) pe_int (fun _ _ => rfl)) (pa_cons (pe_ix ix_list (pv 2) pe_int (fun _ _ => rfl)) (pa_cons (pe_ix ix_list (pv 2) pe_int (fun _ _ => rfl)) (pa_cons (pv 3) pa_nil)))))))) pss_nil)
      (pss_cons (ps_if (pt_cmpR op_eq (pv 1) (pe_glob (v := .int 9) rfl e9 ⟨_, rfl⟩) (nomark _)) (pss_one (ps_ret (pe_meth (pv 0) T.clD mt9 G9 hr5 b9 .nil pass0 (pa_cons (pe_ix ix_list (pv 2) pe_int (fun _ _ => rfl)) (pa_cons (pe_ix ix_list (pv 2) pe_int (fun _ _ => rfl)) (pa_cons (pe_ix ix_list (pv 2) pe_int (fun _ _ => rfl)) (pa_cons (pv 3) pa_nil))))))) pss_nil)
      (pss_cons (ps_if (pt_cmpR op_eq (pv 1) (pe_glob (v := .int 10) rfl e10 ⟨_, rfl⟩) (nomark _)) (pss_one (ps_ret (pe_meth (pv 0) T.clD mt10 G10 hr4 b10 .nil pass0 (pa_cons (pe_ix ix_list (pv 2) pe_int (fun _ _ => rfl)) (pa_cons (pe_ix ix_list (pv 2) pe_int (fun _ _ => rfl)) (pa_cons (pe_ix ix_list (pv 2) pe_int (fun _ _ => rfl)) (pa_cons (pv 3) pa_nil))))))) pss_nil)
      (pss_cons (ps_if (pt_cmpR op_eq (pv 1) (pe_glob (v := .int 11) rfl e11 ⟨_, rfl⟩) (nomark _)) (pss_one (ps_ret (pe_meth (pv 0) T.clD mt11 G11 hr4 b11 .nil pass0 (pa_cons (pe_ix ix_list (pv 2) pe_int (fun _ _ => rfl)) (pa_cons (pv 3) pa_nil))))) pss_nil)
      (pss_one (ps_ret (pe_meth (pv 0) T.clD mt12 G12 hr4 b12 .nil pass0 (pa_cons (pe_ix ix_list (pv 2) pe_int (fun _ _ => rfl)) (pa_cons (pe_ix ix_list (pv 2) pe_int (fun _ _ => rfl)) (pa_cons (pe_ix ix_list (pv 2) pe_int (fun _ _ => rfl)) pa_nil))))))))))))))))), ?_⟩
    have hcopy := hDA
    obtain ⟨lp, de, ps, es, h, rfl⟩ := hDA
    obtain ⟨dx, hd⟩ := h.ins
    cases hv with
    | person z =>
      refine ⟨_, rfl, rfl, _, rfl, ?_⟩
      refine if_true_of (by decide) ?_
      exact ⟨_, rfl, d, dx, _, rfl, hd, dF_no _ _ _ (by decide +kernel) (by decide +kernel) (by decide +kernel), _, rfl, l, _, _, _, rfl, rfl, hN, rfl, d, _, st, z, rfl, hcopy, hwf, k⟩
    | hours i wd a b =>
      refine ⟨_, rfl, rfl, _, rfl, ?_⟩
      refine if_false_of (by decide) ?_
      refine ⟨_, rfl, rfl, _, rfl, ?_⟩
      refine if_true_of (by decide) ?_
      exact ⟨_, rfl, d, dx, _, rfl, hd, dF_no _ _ _ (by decide +kernel) (by decide +kernel) (by decide +kernel), _, rfl, l, _, _, _, rfl, rfl, hN, rfl, _, rfl, l, _, _, _, rfl, rfl, hN, rfl, _, rfl, l, _, _, _, rfl, rfl, hN, rfl, _, rfl, l, _, _, _, rfl, rfl, hN, rfl, d, _, st, i, wd, a, b, rfl, hcopy, hwf, k⟩
    | off i z =>
      refine ⟨_, rfl, rfl, _, rfl, ?_⟩
      refine if_false_of (by decide) ?_
      refine ⟨_, rfl, rfl, _, rfl, ?_⟩
      refine if_false_of (by decide) ?_
      refine ⟨_, rfl, rfl, _, rfl, ?_⟩
      refine if_true_of (by decide) ?_
      exact ⟨_, rfl, d, dx, _, rfl, hd, dF_no _ _ _ (by decide +kernel) (by decide +kernel) (by decide +kernel), _, rfl, l, _, _, _, rfl, rfl, hN, rfl, _, rfl, l, _, _, _, rfl, rfl, hN, rfl, d, _, st, i, z, rfl, hcopy, hwf, k⟩
    | busy i a b v =>
      refine ⟨_, rfl, rfl, _, rfl, ?_⟩
      refine if_false_of (by decide) ?_
      refine ⟨_, rfl, rfl, _, rfl, ?_⟩
      refine if_false_of (by decide) ?_
      refine ⟨_, rfl, rfl, _, rfl, ?_⟩
      refine if_false_of (by decide) ?_
      refine ⟨_, rfl, rfl, _, rfl, ?_⟩
      refine if_true_of (by decide) ?_
      exact ⟨_, rfl, d, dx, _, rfl, hd, dF_no _ _ _ (by decide +kernel) (by decide +kernel) (by decide +kernel), _, rfl, l, _, _, _, rfl, rfl, hN, rfl, _, rfl, l, _, _, _, rfl, rfl, hN, rfl, _, rfl, l, _, _, _, rfl, rfl, hN, rfl, _, rfl, l, _, _, _, rfl, rfl, hN, rfl, d, _, st, i, a, b, v, rfl, hcopy, hwf, k⟩
    | drop i =>
      refine ⟨_, rfl, rfl, _, rfl, ?_⟩
      refine if_false_of (by decide) ?_
      refine ⟨_, rfl, rfl, _, rfl, ?_⟩
      refine if_false_of (by decide) ?_
      refine ⟨_, rfl, rfl, _, rfl, ?_⟩
      refine if_false_of (by decide) ?_
      refine ⟨_, rfl, rfl, _, rfl, ?_⟩
      refine if_false_of (by decide) ?_
      refine ⟨_, rfl, rfl, _, rfl, ?_⟩
      refine if_true_of (by decide) ?_
      exact ⟨_, rfl, d, dx, _, rfl, hd, dF_no _ _ _ (by decide +kernel) (by decide +kernel) (by decide +kernel), _, rfl, l, _, _, _, rfl, rfl, hN, rfl, d, _, st, i, rfl, hcopy, hwf, k⟩
    | sure i =>
      refine ⟨_, rfl, rfl, _, rfl, ?_⟩
      refine if_false_of (by decide) ?_
      refine ⟨_, rfl, rfl, _, rfl, ?_⟩
      refine if_false_of (by decide) ?_
      refine ⟨_, rfl, rfl, _, rfl, ?_⟩
      refine if_false_of (by decide) ?_
      refine ⟨_, rfl, rfl, _, rfl, ?_⟩
      refine if_false_of (by decide) ?_
      refine ⟨_, rfl, rfl, _, rfl, ?_⟩
      refine if_false_of (by decide) ?_
      refine ⟨_, rfl, rfl, _, rfl, ?_⟩
      refine if_true_of (by decide) ?_
      exact ⟨_, rfl, d, dx, _, rfl, hd, dF_no _ _ _ (by decide +kernel) (by decide +kernel) (by decide +kernel), _, rfl, l, _, _, _, rfl, rfl, hN, rfl, d, _, st, i, rfl, hcopy, hwf, k⟩
    | free i a b =>
      refine ⟨_, rfl, rfl, _, rfl, ?_⟩
      refine if_false_of (by decide) ?_
      refine ⟨_, rfl, rfl, _, rfl, ?_⟩
      refine if_false_of (by decide) ?_
      refine ⟨_, rfl, rfl, _, rfl, ?_⟩
      refine if_false_of (by decide) ?_
      refine ⟨_, rfl, rfl, _, rfl, ?_⟩
      refine if_false_of (by decide) ?_
      refine ⟨_, rfl, rfl, _, rfl, ?_⟩
      refine if_false_of (by decide) ?_
      refine ⟨_, rfl, rfl, _, rfl, ?_⟩
      refine if_false_of (by decide) ?_
      refine ⟨_, rfl, rfl, _, rfl, ?_⟩
      refine if_true_of (by decide) ?_
      exact ⟨_, rfl, d, dx, _, rfl, hd, dF_no _ _ _ (by decide +kernel) (by decide +kernel) (by decide +kernel), _, rfl, l, _, _, _, rfl, rfl, hN, rfl, _, rfl, l, _, _, _, rfl, rfl, hN, rfl, _, rfl, l, _, _, _, rfl, rfl, hN, rfl, d, _, st, i, a, b, rfl, hcopy, hwf, k⟩
    | common a b l' h1 h2 =>
      refine ⟨_, rfl, rfl, _, rfl, ?_⟩
      refine if_false_of (by decide) ?_
      refine ⟨_, rfl, rfl, _, rfl, ?_⟩
      refine if_false_of (by decide) ?_
      refine ⟨_, rfl, rfl, _, rfl, ?_⟩
      refine if_false_of (by decide) ?_
      refine ⟨_, rfl, rfl, _, rfl, ?_⟩
      refine if_false_of (by decide) ?_
      refine ⟨_, rfl, rfl, _, rfl, ?_⟩
      refine if_false_of (by decide) ?_
      refine ⟨_, rfl, rfl, _, rfl, ?_⟩
      refine if_false_of (by decide) ?_
      refine ⟨_, rfl, rfl, _, rfl, ?_⟩
      refine if_false_of (by decide) ?_
      refine ⟨_, rfl, rfl, _, rfl, ?_⟩
      refine if_true_of (by decide) ?_
      exact ⟨_, rfl, d, dx, _, rfl, hd, dF_no _ _ _ (by decide +kernel) (by decide +kernel) (by decide +kernel), _, rfl, l, _, _, _, rfl, rfl, hN, rfl, _, rfl, l, _, _, _, rfl, rfl, hN, rfl, _, rfl, d, p, _, st, l', a, b, rfl, hcopy, hwf, hP, h1, k⟩
    | first n a b g l' h1 h2 =>
      refine ⟨_, rfl, rfl, _, rfl, ?_⟩
      refine if_false_of (by decide) ?_
      refine ⟨_, rfl, rfl, _, rfl, ?_⟩
      refine if_false_of (by decide) ?_
      refine ⟨_, rfl, rfl, _, rfl, ?_⟩
      refine if_false_of (by decide) ?_
      refine ⟨_, rfl, rfl, _, rfl, ?_⟩
      refine if_false_of (by decide) ?_
      refine ⟨_, rfl, rfl, _, rfl, ?_⟩
      refine if_false_of (by decide) ?_
      refine ⟨_, rfl, rfl, _, rfl, ?_⟩
      refine if_false_of (by decide) ?_
      refine ⟨_, rfl, rfl, _, rfl, ?_⟩
      refine if_false_of (by decide) ?_
      refine ⟨_, rfl, rfl, _, rfl, ?_⟩
      refine if_false_of (by decide) ?_
      refine ⟨_, rfl, rfl, _, rfl, ?_⟩
      refine if_true_of (by decide) ?_
      exact ⟨_, rfl, d, dx, _, rfl, hd, dF_no _ _ _ (by decide +kernel) (by decide +kernel) (by decide +kernel), _, rfl, l, _, _, _, rfl, rfl, hN, rfl, _, rfl, l, _, _, _, rfl, rfl, hN, rfl, _, rfl, l, _, _, _, rfl, rfl, hN, rfl, _, rfl, l, _, _, _, rfl, rfl, hN, rfl, _, rfl, d, p, _, st, l', n, a, b, g, rfl, hcopy, hwf, hP, h1, k⟩
    | best n a b l' h1 h2 =>
      refine ⟨_, rfl, rfl, _, rfl, ?_⟩
      refine if_false_of (by decide) ?_
      refine ⟨_, rfl, rfl, _, rfl, ?_⟩
      refine if_false_of (by decide) ?_
      refine ⟨_, rfl, rfl, _, rfl, ?_⟩
      refine if_false_of (by decide) ?_
      refine ⟨_, rfl, rfl, _, rfl, ?_⟩
      refine if_false_of (by decide) ?_
      refine ⟨_, rfl, rfl, _, rfl, ?_⟩
      refine if_false_of (by decide) ?_
      refine ⟨_, rfl, rfl, _, rfl, ?_⟩
      refine if_false_of (by decide) ?_
      refine ⟨_, rfl, rfl, _, rfl, ?_⟩
      refine if_false_of (by decide) ?_
      refine ⟨_, rfl, rfl, _, rfl, ?_⟩
      refine if_false_of (by decide) ?_
      refine ⟨_, rfl, rfl, _, rfl, ?_⟩
      refine if_false_of (by decide) ?_
      refine ⟨_, rfl, rfl, _, rfl, ?_⟩
      refine if_true_of (by decide) ?_
      exact ⟨_, rfl, d, dx, _, rfl, hd, dF_no _ _ _ (by decide +kernel) (by decide +kernel) (by decide +kernel), _, rfl, l, _, _, _, rfl, rfl, hN, rfl, _, rfl, l, _, _, _, rfl, rfl, hN, rfl, _, rfl, l, _, _, _, rfl, rfl, hN, rfl, _, rfl, d, p, _, st, l', n, a, b, rfl, hcopy, hwf, hP, h1, k⟩
    | most n a b l' h1 h2 =>
      refine ⟨_, rfl, rfl, _, rfl, ?_⟩
      refine if_false_of (by decide) ?_
      refine ⟨_, rfl, rfl, _, rfl, ?_⟩
      refine if_false_of (by decide) ?_
      refine ⟨_, rfl, rfl, _, rfl, ?_⟩
      refine if_false_of (by decide) ?_
      refine ⟨_, rfl, rfl, _, rfl, ?_⟩
      refine if_false_of (by decide) ?_
      refine ⟨_, rfl, rfl, _, rfl, ?_⟩
      refine if_false_of (by decide) ?_
      refine ⟨_, rfl, rfl, _, rfl, ?_⟩
      refine if_false_of (by decide) ?_
      refine ⟨_, rfl, rfl, _, rfl, ?_⟩
      refine if_false_of (by decide) ?_
      refine ⟨_, rfl, rfl, _, rfl, ?_⟩
      refine if_false_of (by decide) ?_
      refine ⟨_, rfl, rfl, _, rfl, ?_⟩
      refine if_false_of (by decide) ?_
      refine ⟨_, rfl, rfl, _, rfl, ?_⟩
      refine if_false_of (by decide) ?_
      refine ⟨_, rfl, rfl, _, rfl, ?_⟩
      refine if_true_of (by decide) ?_
      exact ⟨_, rfl, d, dx, _, rfl, hd, dF_no _ _ _ (by decide +kernel) (by decide +kernel) (by decide +kernel), _, rfl, l, _, _, _, rfl, rfl, hN, rfl, _, rfl, l, _, _, _, rfl, rfl, hN, rfl, _, rfl, l, _, _, _, rfl, rfl, hN, rfl, _, rfl, d, p, _, st, l', n, a, b, rfl, hcopy, hwf, hP, h1, h2, k⟩
    | at_ u l' h1 h2 =>
      refine ⟨_, rfl, rfl, _, rfl, ?_⟩
      refine if_false_of (by decide) ?_
      refine ⟨_, rfl, rfl, _, rfl, ?_⟩
      refine if_false_of (by decide) ?_
      refine ⟨_, rfl, rfl, _, rfl, ?_⟩
      refine if_false_of (by decide) ?_
      refine ⟨_, rfl, rfl, _, rfl, ?_⟩
      refine if_false_of (by decide) ?_
      refine ⟨_, rfl, rfl, _, rfl, ?_⟩
      refine if_false_of (by decide) ?_
      refine ⟨_, rfl, rfl, _, rfl, ?_⟩
      refine if_false_of (by decide) ?_
      refine ⟨_, rfl, rfl, _, rfl, ?_⟩
      refine if_false_of (by decide) ?_
      refine ⟨_, rfl, rfl, _, rfl, ?_⟩
      refine if_false_of (by decide) ?_
      refine ⟨_, rfl, rfl, _, rfl, ?_⟩
      refine if_false_of (by decide) ?_
      refine ⟨_, rfl, rfl, _, rfl, ?_⟩
      refine if_false_of (by decide) ?_
      refine ⟨_, rfl, rfl, _, rfl, ?_⟩
      refine if_false_of (by decide) ?_
      refine ⟨_, rfl, rfl, _, rfl, ?_⟩
      refine if_true_of (by decide) ?_
      exact ⟨_, rfl, d, dx, _, rfl, hd, dF_no _ _ _ (by decide +kernel) (by decide +kernel) (by decide +kernel), _, rfl, l, _, _, _, rfl, rfl, hN, rfl, _, rfl, d, p, _, st, l', u, rfl, hcopy, hwf, hP, h1, h2, k⟩
    | minutes i a b =>
      refine ⟨_, rfl, rfl, _, rfl, ?_⟩
      refine if_false_of (by decide) ?_
      refine ⟨_, rfl, rfl, _, rfl, ?_⟩
      refine if_false_of (by decide) ?_
      refine ⟨_, rfl, rfl, _, rfl, ?_⟩
      refine if_false_of (by decide) ?_
      refine ⟨_, rfl, rfl, _, rfl, ?_⟩
      refine if_false_of (by decide) ?_
      refine ⟨_, rfl, rfl, _, rfl, ?_⟩
      refine if_false_of (by decide) ?_
      refine ⟨_, rfl, rfl, _, rfl, ?_⟩
      refine if_false_of (by decide) ?_
      refine ⟨_, rfl, rfl, _, rfl, ?_⟩
      refine if_false_of (by decide) ?_
      refine ⟨_, rfl, rfl, _, rfl, ?_⟩
      refine if_false_of (by decide) ?_
      refine ⟨_, rfl, rfl, _, rfl, ?_⟩
      refine if_false_of (by decide) ?_
      refine ⟨_, rfl, rfl, _, rfl, ?_⟩
      refine if_false_of (by decide) ?_
      refine ⟨_, rfl, rfl, _, rfl, ?_⟩
      refine if_false_of (by decide) ?_
      refine ⟨_, rfl, rfl, _, rfl, ?_⟩
      refine if_false_of (by decide) ?_
      exact ⟨_, rfl, d, dx, _, rfl, hd, dF_no _ _ _ (by decide +kernel) (by decide +kernel) (by decide +kernel), _, rfl, l, _, _, _, rfl, rfl, hN, rfl, _, rfl, l, _, _, _, rfl, rfl, hN, rfl, _, rfl, l, _, _, _, rfl, rfl, hN, rfl, d, _, st, i, a, b, rfl, hcopy, hwf, k⟩
end
end Fb
namespace Fb
open PySem PySem.Spec PyProof.Rows L2
abbrev sAns : Stmt := top 48
def handed : List Int := [1, 4, 2, 4, 1, 1, 3, 2, 4, 3, 3, 1, 3]
structure TxtA (K : PySem.W.Frag) (mg : Str → Option Value) : Prop where
  handed : ∃ a, mg "HANDED" = some (.ref a) ∧ ∀ H, SqT K H a (handed.map V.int)
  len : mg "len" = none
/-- how a call stands in the list -/
theorem view_shape {c : List (List Int)} {x : Cl04.Call} (h : View c x) : ∃ (k : Nat) (r : List Int) (rows : List (List Int)), c = ((k : Int) :: r) :: rows ∧ handed[k]? = some (r.length : Int) ∧ (((7 ≤ k ∧ k ≤ 11) ∧ ∃ p, rows = [p]) ∨ (¬ (7 ≤ k ∧ k ≤ 11) ∧ rows = [])) := by
  cases h with
  | person z => exact ⟨0, _, _, rfl, rfl, .inr ⟨by decide, rfl⟩⟩
  | hours p d a b => exact ⟨1, _, _, rfl, rfl, .inr ⟨by decide, rfl⟩⟩
  | off p z => exact ⟨2, _, _, rfl, rfl, .inr ⟨by decide, rfl⟩⟩
  | busy p a b v => exact ⟨3, _, _, rfl, rfl, .inr ⟨by decide, rfl⟩⟩
  | drop k => exact ⟨4, _, _, rfl, rfl, .inr ⟨by decide, rfl⟩⟩
  | sure k => exact ⟨5, _, _, rfl, rfl, .inr ⟨by decide, rfl⟩⟩
  | free p a b => exact ⟨6, _, _, rfl, rfl, .inr ⟨by decide, rfl⟩⟩
  | common a b l h1 h2 => exact ⟨7, _, _, rfl, rfl, .inl ⟨by decide, _, rfl⟩⟩
  | first n a b g l h1 h2 => exact ⟨8, _, _, rfl, rfl, .inl ⟨by decide, _, rfl⟩⟩
  | best n a b l h1 h2 => exact ⟨9, _, _, rfl, rfl, .inl ⟨by decide, _, rfl⟩⟩
  | most n a b l h1 h2 => exact ⟨10, _, _, rfl, rfl, .inl ⟨by decide, _, rfl⟩⟩
  | at_ u l h1 h2 => exact ⟨11, _, _, rfl, rfl, .inl ⟨by decide, _, rfl⟩⟩
  | minutes p a b => exact ⟨12, _, _, rfl, rfl, .inr ⟨by decide, rfl⟩⟩
theorem mid_cut {α : Type} (k : α) (r B : List α) : ∀ A : List α, ((A ++ (k :: r ++ B)).drop (A.length + 1)).take r.length = r
  | [] => by
    show (r ++ B).take r.length = r
    rw [List.take_append_of_le_length (Nat.le_refl _), List.take_of_length_le (Nat.le_refl _)]
  | a :: A => mid_cut k r B A
theorem DA.put {C : Cs} {H : Hp} {d g : Addr} {F : List Addr} {s : Cl04.State} {ys : List V} {o : HO} (h : DA C H d F s) (hg : ¬ g ∈ F) (e : H g = some (.lst ys)) : DA C (upd H g o) d F s := by
  obtain ⟨lp, de, ps, es, q, rfl⟩ := h
  refine ⟨lp, de, ps, es, ?_, rfl⟩
  have nt : ∀ xs, H g ≠ some (.tup xs) := not_tup e fun _ z => by cases z
  have nin : ∀ x, x ∈ foot d lp de ps es → x ≠ g := fun x hx z => hg (z ▸ hx)
  have f3 : lp ∈ foot d lp de ps es := List.mem_cons_of_mem _ (List.mem_cons_self ..)
  refine { q with ins := q.ins.imp fun _ z => (upd_ne (nin _ foot_d)).trans z, ppl := (upd_ne (nin _ f3)).trans q.ppl, ent := (upd_ne (nin _ foot_de)).trans q.ent, per := fun y hy => ?_, enA := fun y hy => (q.enA y hy).imp fun _ z => (upd_ne (nin _ (in_foot_e hy))).trans z }
  have hp := q.per y hy
  exact hp.upd (by obtain ⟨dx', z⟩ := hp.ins; exact ne_of z e (by intro z; cases z)) (nin _ (in_foot_w hy)) (nin _ (in_foot_o hy)) nt
theorem told_le {cs : List (List (List Int))} (h : ∀ c ∈ cs, Cl04Neutral.asked1 c = true) : ∀ j, (toldOf (cs.take j)).length ≤ 62 * j
  | 0 => Nat.le_refl _
  | j + 1 => by
    have ih := told_le h j
    cases e : cs[j]? with
    | none =>
      have : cs.take (j + 1) = cs.take j := by
        have hl := List.getElem?_eq_none_iff.mp e
        rw [List.take_of_length_le (by omega), List.take_of_length_le hl]
      rw [this]
      omega
    | some c =>
      obtain ⟨x, hx, _⟩ := asked_view (h c (List.mem_of_getElem? e))
      have := ans_le (stateOf (cs.take j)) x
      rw [toldOf_more e, List.length_append, List.length_cons, step_view hx]
      omega
def spAns0 (K : PySem.W.Frag) : Sp := fun vs H Q _ => ∃ (a : Addr) (cs : List (List (List Int))), vs = [.ref a] ∧ SqL K H a ((PyFlat.put cs).map V.int) ∧ (∀ c ∈ cs, Cl04Neutral.asked1 c = true) ∧ cs.length ≤ 60 ∧
  ∀ (H' : Hp) (p : Addr), H' p = some (.lst ((toldOf cs).map V.int)) → Q (.ref p) H'
/-- what stands behind the reading of a call -/
def tRest (C : Cs) (K : PySem.W.Frag) : TS := tSeq (tAsg (tCall (spAnswer C K) [] E0 (tCons (tVar 1) (tCons (tVar 4) (tCons (tVar 6) (tCons (tVar 7) tNil))))) (gName 9))
  (tSeq (tDrop (tBM K "list" rAppend (tVar 2) (tCons (tCB (rLenSeq K) (tCons (tVar 9) tNil)) tNil))) (tSeq (tDrop (tBM K "list" rExtend (tVar 2) (tCons (tVar 9) tNil))) (tAsg (tVar 5) (gName 3))))
section
variable {P : Program} {w : World} {K : PySem.W.Frag} {mg : Str → Option Value} {base : Heap}
theorem scAns : FnScope ["calls", "diary", "given", "place", "call", "behind", "numbers", "people", "row", "told"] ["calls"] (defScope sAns) := ⟨rfl, rfl, rfl, by decide +kernel, rfl, by decide +kernel, by decide +kernel⟩
theorem ok_ans0 {f : Addr} {C : Cs} {fd : FuncData} (F : Fun K "answers" "answers" sAns f fd) (T : TxtD K mg C) (TA : TxtA K mg) (GD : GMake P w K mg base C.D "Diary" ["self"] 1 (spDInit C)) (GH : GFun P w K mg base "has_people" ["call"] 1 spHas)
    (GA : GFun P w K mg base "answer" ["diary", "call", "numbers", "people"] 7 (spAnswer C K)) : FnOk P w K mg base CX0 8 f fd ["calls"] (spAns0 K) := by
  refine F.ok scAns (fun vs H Q E h => ?_) (fun cdv A outer s H vs Q E hr h => ?_)
  · obtain ⟨a, cs, rfl, _⟩ := h
    rfl
  · obtain ⟨a, cs, rfl, hS, hask, h60, k⟩ := h
    obtain ⟨fd', fdd, GD, mkD, mgD, bD⟩ := GD
    obtain ⟨fh, fdh, GH, mgh, kph, bh⟩ := GH
    obtain ⟨fa, fda, GA, mga, kpa, ba⟩ := GA
    obtain ⟨aH, eH, hH⟩ := TA.handed
    have hr1 : Room 1 _ := hr.mono (by decide)
    have hr2 : Room 2 _ := hr.mono (by decide)
    refine ⟨_, pss_cons (ps_set (i := 1) scAns.nd rfl (Or.inl rfl) (pe_make0 mkD GD hr2 rfl mgD bD .nil pass0))
      (pss_cons (ps_set (i := 2) scAns.nd rfl (Or.inl rfl) (pe_lst pa_nil))
      (pss_cons (ps_set (i := 3) scAns.nd rfl (Or.inl rfl) pe_int)
      (pss_cons (ps_while PassesOwn.never (pt_cmpR op_lt (pv 3) (pe_callB call_len_seq (by rfl) TA.len PySem.boot_len (pa_cons (pv 0) pa_nil)) (nomark _))
        (pss_cons (ps_set (i := 4) scAns.nd rfl (Or.inl rfl) (pe_ix ix_list (pv 0) (pv 3) (fun _ _ => rfl)))
        (pss_cons (ps_set (i := 5) scAns.nd rfl (Or.inl rfl) (pe_op op_add (pe_op op_add (pv 3) pe_int) (pe_ix ix_tup (pe_glob (v := .ref aH) rfl eH rfl) (pv 4) (fun _ _ => rfl))))
        (pss_cons (ps_set (i := 6) scAns.nd rfl (Or.inl rfl) (pe_slice sl_list (pv 0) (po_some (pe_op op_add (pv 3) pe_int)) (po_some (pv 5))))
        (pss_cons (ps_set (i := 7) scAns.nd rfl (Or.inl rfl) (pe_lst pa_nil))
        (pss_cons (ps_if (pt_val (pe_call GH hr1 rfl mgh kph bh .nil pass0 (pa_cons (pv 4) pa_nil)))
          (pss_cons (ps_set (i := 8) scAns.nd rfl (Or.inl rfl) (pe_op op_add (pv 5) pe_int))
          (pss_cons (ps_set (i := 5) scAns.nd rfl (Or.inl rfl) (pe_op op_add (pv 8) (pe_ix ix_list (pv 0) (pv 5) (fun _ _ => rfl))))
          (pss_one (ps_set (i := 7) scAns.nd rfl (Or.inl rfl) (pe_slice sl_list (pv 0) (po_some (pv 8)) (po_some (pv 5))))))) pss_nil)
        (pss_cons (ps_set (i := 9) scAns.nd rfl (Or.inl rfl) (pe_call GA hr rfl mga kpa ba .nil pass0 (pa_cons (pv 1) (pa_cons (pv 4) (pa_cons (pv 6) (pa_cons (pv 7) pa_nil))))))
        (pss_cons (ps_expr (pe_bm PySem.F.plainAttrs_list PySem.F.slot_list_append PySem.F.type_list_append mt_append (pv 2) (pa_cons (pe_callB call_len_seq (by rfl) TA.len PySem.boot_len (pa_cons (pv 9) pa_nil)) pa_nil)))
        (pss_cons (ps_expr (pe_bm PySem.F.plainAttrs_list PySem.F.slot_list_extend PySem.F.type_list_extend mt_extend (pv 2) (pa_cons (pv 9) pa_nil)))
        (pss_one (ps_set (i := 3) scAns.nd rfl (Or.inl rfl) (pv 5))))))))))))
      (pss_one (ps_ret (pv 2)))))), ?_⟩
    intro d dx nd ndx nex
    refine ⟨d, dx, rfl, upd_same, fun H1 lp de hD nlp nde hB => ⟨rfl, ?_⟩⟩
    have s0 : Same H H1 := Same.made nd ndx hB
    have s00 : Same H (upd (upd H dx (.own d)) d (.ins C.D dx [])) := fun b u e => by
      rw [upd_ne (ne_of_none e nd), upd_ne (ne_of_none e ndx)]
      exact e
    refine ⟨Nat.zero_le _, fun g ng => ?_⟩
    have s1 : Same H1 (upd H1 g (.lst [])) := same_new ng
    -- the invariant
    refine ⟨fun m σ H' => ∃ (j : Nat) (F : List Addr) (v4 v5 v6 v7 v8 v9 : Option V), m = cs.length - j ∧ j ≤ cs.length ∧ σ = [some (.ref a), some (.ref d), some (.ref g), some (.int ((PyFlat.put (cs.take j)).length : Nat)), v4, v5, v6, v7, v8, v9] ∧
        DA C H' d F (stateOf (cs.take j)) ∧ ¬ g ∈ F ∧ (∀ x ∈ F, H x = none) ∧ Same H H' ∧ H' g = some (.lst ((toldOf (cs.take j)).map V.int)), ⟨cs.length, 0, foot d lp de [] [], none, none, none, none, none, none, rfl, Nat.zero_le _, rfl, ?_, ?_, ?_, s0.trans s1, upd_same⟩, ?_⟩
    · exact ⟨lp, de, [], [], hD.same s1, rfl⟩
    · intro m
      unfold foot at m
      obtain ⟨dz, hd⟩ := hD.ins
      rcases List.mem_cons.mp m with m | m
      · exact ne_of_none hd ng m.symm
      · rcases List.mem_cons.mp m with m | m
        · exact ne_of_none hD.ppl ng m.symm
        · rcases List.mem_cons.mp m with m | m
          · exact ne_of_none hD.ent ng m.symm
          · cases m
    · intro x m
      unfold foot at m
      rcases List.mem_cons.mp m with m | m
      · exact m ▸ nd
      · rcases List.mem_cons.mp m with m | m
        · exact m ▸ s00.free nlp
        · rcases List.mem_cons.mp m with m | m
          · exact m ▸ s00.free nde
          · cases m
    · rintro m σ H' ⟨j, F, v4, v5, v6, v7, v8, v9, rfl, hj, rfl, hDA, ngF, hF, s2, hg⟩
      have hS' := s2.seq hS
      refine ⟨_, rfl, _, rfl, a, _, rfl, .inl hS', _, _, rfl, rfl, _, rfl, ?_⟩
      have hwf : WF (stateOf (cs.take j)) := wf_state fun c hc => hask c (List.mem_of_mem_take hc)
      by_cases c : j < cs.length
      · have hc := List.getElem?_eq_getElem c
        generalize cs[j] = cj at hc
        have cm := List.mem_of_getElem? hc
        obtain ⟨x, hx, hv⟩ := asked_view (hask cj cm)
        obtain ⟨kk, r, rows, rfl, hr0, hrows⟩ := view_shape hv
        obtain ⟨e1, e2⟩ := put_at hc
        have ep1 : PyFlat.put1 (((kk : Int) :: r) :: rows) = (kk : Int) :: r ++ PyFlat.putRows rows := rfl
        rw [ep1] at e1 e2
        have hlt : (PyFlat.put (cs.take j)).length < (PyFlat.put cs).length := by
          rw [e1, List.length_append, List.length_append, List.length_append, List.length_cons]
          omega
        refine if_true_of (decide_eq_true (by rw [List.length_map]; omega)) ?_
        have tl := told_le hask j
        refine ⟨fun σ' H2 => ∃ (F : List Addr) (v4 v5 v6 v7 v8 v9 : Option V), σ' = [some (.ref a), some (.ref d), some (.ref g), some (.int ((PyFlat.put (cs.take (j + 1))).length : Nat)), v4, v5, v6, v7, v8, v9] ∧
          DA C H2 d F (stateOf (cs.take (j + 1))) ∧ ¬ g ∈ F ∧ (∀ x ∈ F, H x = none) ∧ Same H H2 ∧ H2 g = some (.lst ((toldOf (cs.take (j + 1))).map V.int)), ?_, ?_⟩
        · rintro σ' H2 ⟨F, v4, v5, v6, v7, v8, v9, q1, q2, q3, q4, q5, q6⟩
          exact ⟨cs.length - (j + 1), by omega, j + 1, F, v4, v5, v6, v7, v8, v9, rfl, c, q1, q2, q3, q4, q5, q6⟩
        · -- what comes behind: the answer, told
          have rest : ∀ (D : Ends) (Hr : Hp) (l pl : Addr) (w8 w9 : Option V), (∀ (H2 : Hp) (F : List Addr) (w9 : Option V), DA C H2 d F (stateOf (cs.take (j + 1))) → ¬ g ∈ F → (∀ x ∈ F, H x = none) → Same H H2 → H2 g = some (.lst ((toldOf (cs.take (j + 1))).map V.int)) →
                D.nx [some (.ref a), some (.ref d), some (.ref g), some (.int ((PyFlat.put (cs.take (j + 1))).length : Nat)), some (.int kk), some (.int ((PyFlat.put (cs.take (j + 1))).length : Nat)), some (.ref l), some (.ref pl), w8, w9] H2) →
              Same H' Hr → SqL K Hr l (r.map V.int) → SqL K Hr pl ((rows.headD []).map V.int) →
              tRest C K D [some (.ref a), some (.ref d), some (.ref g), some (.int ((PyFlat.put (cs.take j)).length : Nat)), some (.int kk), some (.int ((PyFlat.put (cs.take (j + 1))).length : Nat)), some (.ref l), some (.ref pl), w8, w9] Hr := by
            intro D Hr l pl w8 w9 kD sl hl hpl
            refine ⟨_, rfl, _, rfl, _, rfl, _, rfl, d, l, pl, F, stateOf (cs.take j), x, (kk : Int), r, rows, rfl, hDA.same sl, hwf, hv, hl, hpl, fun H2 F2 p hD2 hF2 hfr np hp => ?_⟩
            have g2 : H2 g = some (.lst ((toldOf (cs.take j)).map V.int)) := hfr _ _ (sl _ _ hg) ngF
            have ngF2 : ¬ g ∈ F2 := fun m => (hF2 g m).elim ngF fun q => by
              rw [sl _ _ hg] at q
              cases q
            have hFH2 : ∀ x ∈ F2, H x = none := fun y m => (hF2 y m).elim (hF y) fun q => (s2.trans sl).free q
            have s3 : Same H H2 := fun b o e => hfr _ _ ((s2.trans sl) _ _ e) fun m => by
              rw [hF b m] at e
              cases e
            have npg : p ≠ g := fun q => by
              rw [q, sl _ _ hg] at np
              cases np
            have tm := toldOf_more hc
            rw [step_view hx] at tm
            have ns := stateOf_more hc
            rw [step_view hx] at ns
            have al := ans_le (stateOf (cs.take j)) x
            refine ⟨_, rfl, .inl ⟨rfl, _, SqL.of g2⟩, _, rfl, p, _, rfl, .inl (SqL.of hp), g, _, _, rfl, rfl, g2, ?_, ?_⟩
            · rw [List.length_map]
              exact Nat.lt_of_le_of_lt (show (toldOf (cs.take j)).length ≤ 62 * 60 by omega) (by decide)
            refine ⟨_, rfl, .inl ⟨rfl, _, SqL.of upd_same⟩, _, rfl, g, p, _, _, rfl, rfl, upd_same, (upd_ne npg).trans hp, ?_, ?_⟩
            · rw [List.length_append, List.length_map, List.length_map, List.length_singleton]
              exact Nat.le_trans (show (toldOf (cs.take j)).length + 1 + (Cl04.step (stateOf (cs.take j)) x).2.length ≤ 62 * 60 + 62 by omega) (by decide)
            refine ⟨_, rfl, kD _ F2 _ ?_ ngF2 hFH2 ?_ ?_⟩
            · rw [ns]
              exact (hD2.put ngF2 g2).put ngF2 upd_same
            · intro b o e
              have nb : b ≠ g := ne_of_none e (s0.free ng)
              rw [upd_ne nb, upd_ne nb]
              exact s3 _ _ e
            · rw [upd_same, tm, List.map_append, List.map_cons]
              refine congrArg (fun z => some (HO.lst z)) ?_
              rw [List.append_assoc, List.length_map]
              rfl
          have at0 : atI ((PyFlat.put cs).map V.int) ((PyFlat.put (cs.take j)).length : Nat) = some (.int kk) := atI_nat (by
            rw [e1, List.getElem?_map, List.getElem?_append_right (Nat.le_refl _), Nat.sub_self]
            rfl)
          have atH : atI (handed.map V.int) (kk : Int) = some (.int (r.length : Int)) := atI_nat (by
            rw [List.getElem?_map, hr0]
            rfl)
          refine ⟨_, rfl, _, rfl, a, _, _, _, rfl, rfl, hS', at0, ?_⟩
          refine ⟨_, rfl, _, _, rfl, rfl, _, rfl, aH, _, _, _, rfl, rfl, hH _, atH, _, _, rfl, rfl, ?_⟩
          refine ⟨_, rfl, _, rfl, _, _, rfl, rfl, _, rfl, _, rfl, _, rfl, a, _, rfl, hS', fun l nl => ?_⟩
          have ecut : cutV ((PyFlat.put cs).map V.int) (some (((PyFlat.put (cs.take j)).length : Nat) + 1)) (some (((PyFlat.put (cs.take j)).length : Nat) + 1 + (r.length : Int))) = r.map V.int := by
            have q := cutV_mid ((PyFlat.put cs).map V.int) ((PyFlat.put (cs.take j)).length + 1) ((PyFlat.put (cs.take j)).length + 1 + r.length)
            have z1 : (((PyFlat.put (cs.take j)).length + 1 : Nat) : Int) = ((PyFlat.put (cs.take j)).length : Nat) + 1 := by omega
            have z2 : (((PyFlat.put (cs.take j)).length + 1 + r.length : Nat) : Int) = ((PyFlat.put (cs.take j)).length : Nat) + 1 + (r.length : Int) := by omega
            rw [z1, z2] at q
            rw [q, ← List.map_drop, ← List.map_take, e1, Nat.add_sub_cancel_left, List.append_assoc]
            exact congrArg _ (mid_cut _ _ _ _)
          rw [ecut]
          have sl : Same H' (upd H' l (.lst (r.map V.int))) := same_new nl
          refine ⟨Nat.zero_le _, fun pe npe => ?_⟩
          have nlp' : l ≠ pe := ne_of_none upd_same npe
          have slp : Same H' (upd (upd H' l (.lst (r.map V.int))) pe (.lst [])) := sl.trans (same_new npe)
          have hl2 : upd (upd H' l (.lst (r.map V.int))) pe (.lst []) l = some (.lst (r.map V.int)) := (upd_ne nlp').trans upd_same
          refine ⟨_, rfl, (kk : Int), rfl, _, rfl, ?_⟩
          rcases hrows with ⟨c7, pr, erow⟩ | ⟨c7, erow⟩
          · refine if_true_of (by rw [Bool.and_eq_true, decide_eq_true_eq, decide_eq_true_eq]; omega) ?_
            have er : PyFlat.putRows rows = (pr.length : Int) :: pr := by
              rw [erow]
              exact List.append_nil _
            rw [er] at e1 e2
            have ebeh : (((PyFlat.put (cs.take (j + 1))).length : Nat) : Int) = ((PyFlat.put (cs.take j)).length : Nat) + 1 + (r.length : Int) + 1 + (pr.length : Int) := by
              rw [e2, List.length_append, List.length_append, List.length_cons, List.length_cons]
              omega
            have atB : atI ((PyFlat.put cs).map V.int) (((PyFlat.put (cs.take j)).length : Nat) + 1 + (r.length : Int)) = some (.int (pr.length : Int)) := by
              have q : ((PyFlat.put cs).map V.int)[(PyFlat.put (cs.take j)).length + 1 + r.length]? = some (.int (pr.length : Int)) := by
                rw [e1, List.getElem?_map, List.getElem?_append_right (by omega), List.append_assoc, List.getElem?_append_right (by rw [List.length_cons]; omega), List.length_cons]
                have z : (PyFlat.put (cs.take j)).length + 1 + r.length - (PyFlat.put (cs.take j)).length - (r.length + 1) = 0 := by omega
                rw [z]
                rfl
              have q2 := atI_nat q
              have z2 : (((PyFlat.put (cs.take j)).length + 1 + r.length : Nat) : Int) = ((PyFlat.put (cs.take j)).length : Nat) + 1 + (r.length : Int) := by omega
              rw [z2] at q2
              exact q2
            have ecut2 : cutV ((PyFlat.put cs).map V.int) (some (((PyFlat.put (cs.take j)).length : Nat) + 1 + (r.length : Int) + 1)) (some (((PyFlat.put (cs.take j)).length : Nat) + 1 + (r.length : Int) + 1 + (pr.length : Int))) = pr.map V.int := by
              have q := cutV_mid ((PyFlat.put cs).map V.int) ((PyFlat.put (cs.take j)).length + 1 + r.length + 1) ((PyFlat.put (cs.take j)).length + 1 + r.length + 1 + pr.length)
              have z1 : (((PyFlat.put (cs.take j)).length + 1 + r.length + 1 : Nat) : Int) = ((PyFlat.put (cs.take j)).length : Nat) + 1 + (r.length : Int) + 1 := by omega
              have z2 : (((PyFlat.put (cs.take j)).length + 1 + r.length + 1 + pr.length : Nat) : Int) = ((PyFlat.put (cs.take j)).length : Nat) + 1 + (r.length : Int) + 1 + (pr.length : Int) := by omega
              rw [z1, z2] at q
              rw [q, ← List.map_drop, ← List.map_take, e1, Nat.add_sub_cancel_left]
              have m := mid_cut (pr.length : Int) pr (PyFlat.put (cs.drop (j + 1))) (PyFlat.put (cs.take j) ++ ((kk : Int) :: r))
              rw [List.length_append, List.length_cons, List.append_assoc] at m
              have z3 : (PyFlat.put (cs.take j)).length + (r.length + 1) + 1 = (PyFlat.put (cs.take j)).length + 1 + r.length + 1 := by omega
              rw [z3] at m
              rw [List.append_assoc ((kk : Int) :: r)]
              exact congrArg _ m
            refine ⟨_, rfl, _, _, rfl, rfl, ?_⟩
            refine ⟨_, rfl, _, rfl, _, rfl, a, _, _, _, rfl, rfl, slp.seq hS', atB, _, _, rfl, rfl, ?_⟩
            refine ⟨_, rfl, _, rfl, _, rfl, _, rfl, _, rfl, a, _, rfl, slp.seq hS', fun pq npq => ?_⟩
            rw [ecut2]
            have hrest := rest
            rw [ebeh] at hrest
            refine hrest _ _ l pq (some (.int (((PyFlat.put (cs.take j)).length : Nat) + 1 + (r.length : Int) + 1))) _ (fun H2 F w9 q1 q2 q3 q4 q5 => ⟨F, some (.int kk), some (.int (((PyFlat.put (cs.take j)).length : Nat) + 1 + (r.length : Int) + 1 + (pr.length : Int))), some (.ref l), some (.ref pq), some (.int (((PyFlat.put (cs.take j)).length : Nat) + 1 + (r.length : Int) + 1)), w9, (by rw [ebeh]), q1, q2, q3, q4, q5⟩) (slp.trans (same_new npq)) ?_ ?_
            · exact SqL.of ((same_new npq) _ _ hl2)
            · rw [erow]
              exact SqL.of upd_same
          · refine if_false_of ?_ ?_
            · rw [Bool.and_eq_false_iff]
              by_cases z : 7 ≤ kk
              · exact .inr (decide_eq_false (by omega))
              · exact .inl (decide_eq_false (by omega))
            have er : PyFlat.putRows rows = [] := by
              rw [erow]
              rfl
            rw [er, List.append_nil] at e1 e2
            have ebeh : (((PyFlat.put (cs.take (j + 1))).length : Nat) : Int) = ((PyFlat.put (cs.take j)).length : Nat) + 1 + (r.length : Int) := by
              rw [e2, List.length_append, List.length_cons]
              omega
            have hrest := rest
            rw [ebeh] at hrest
            refine hrest _ _ l pe v8 _ (fun H2 F w9 q1 q2 q3 q4 q5 => ⟨F, some (.int kk), some (.int (((PyFlat.put (cs.take j)).length : Nat) + 1 + (r.length : Int))), some (.ref l), some (.ref pe), v8, w9, (by rw [ebeh]), q1, q2, q3, q4, q5⟩) slp (SqL.of hl2) ?_
            rw [erow]
            exact SqL.of upd_same
      · have e : cs.take j = cs := List.take_of_length_le (by omega)
        rw [e] at hg
        refine if_false_of (decide_eq_false (by rw [List.length_map, e]; omega)) ?_
        exact ⟨_, rfl, k _ g hg⟩
end
end Fb
namespace Fb
open PySem PySem.Spec PyProof.Rows L2
def spAns (K : PySem.W.Frag) : Sp := fun vs H Q _ => ∃ (a : Addr) (ns : List Int), vs = [.ref a] ∧ SqL K H a (ns.map V.int) ∧ PyCl04.answers_asked ns = true ∧
  ∀ (H' : Hp) (p : Addr), H' p = some (.lst ((PyCl04.answers ns).map V.int)) → Q (.ref p) H'
theorem ans_of (K : PySem.W.Frag) {vs : List V} {H : Hp} {Q : VK} {E : XK} (h : spAns K vs H Q E) : spAns0 K vs H Q E := by
  obtain ⟨a, ns, rfl, hS, hask, k⟩ := h
  obtain ⟨cs, e1, h60, hall, e2⟩ := asked_line hask
  subst e1
  refine ⟨a, cs, rfl, hS, hall, h60, fun H' p hp => k H' p ?_⟩
  rw [hp, e2]
  rfl
theorem all_mk {P : Program} {w : World} {K : PySem.W.Frag} {h : Heap} {mg : Str → Option Value} {fa CP CE CD fFst fMt fTurns fBestS fChg fMostS fPut fJoin fBoth fWo fTot fTold fIs fHas fAnswer fAns fPInit fWorks fEInit fDInit fKnows fRef fPerson fHours fOff fBusy fDrop fSure fBs fFreeSt fPs fCs fFree fCommon fFirst fBest fMost fAt fMin aHd : Addr} (X : K.In h) (G : h.Ns mainGlobals mg) (hfa : mg "answers" = some (.ref fa))
    {odFst anFst odMt anMt odTurns anTurns odBestS anBestS odChg anChg odMostS anMostS odPut anPut odJoin anJoin odBoth anBoth odWo anWo odTot anTot odTold anTold odIs anIs odHas anHas odAnswer anAnswer odAns anAns odPInit anPInit odWorks anWorks odEInit anEInit odDInit anDInit odKnows anKnows odRef anRef odPerson anPerson odHours anHours odOff anOff odBusy anBusy odDrop anDrop odSure anSure odBs anBs odFreeSt anFreeSt odPs anPs odCs anCs odFree anFree odCommon anCommon odFirst anFirst odBest anBest odMost anMost odAt anAt odMin anMin odHd : Option Addr} {slFst slMt slTurns slBestS slChg slMostS slPut slJoin slBoth slWo slTot slTold slIs slHas slAnswer slAns slPInit slWorks slEInit slDInit slKnows slRef slPerson slHours slOff slBusy slDrop slSure slBs slFreeSt slPs slCs slFree slCommon slFirst slBest slMost slAt slMin slHd : Array (Option Value)} {ocFst kVFst dcFst pmFst cdFst ctFst ocMt kVMt dcMt pmMt cdMt ctMt ocTurns kVTurns dcTurns pmTurns cdTurns ctTurns ocBestS kVBestS dcBestS pmBestS cdBestS ctBestS ocChg kVChg dcChg pmChg cdChg ctChg ocMostS kVMostS dcMostS pmMostS cdMostS ctMostS ocPut kVPut dcPut pmPut cdPut ctPut ocJoin kVJoin dcJoin pmJoin cdJoin ctJoin ocBoth kVBoth dcBoth pmBoth cdBoth ctBoth ocWo kVWo dcWo pmWo cdWo ctWo ocTot kVTot dcTot pmTot cdTot ctTot ocTold kVTold dcTold pmTold cdTold ctTold ocIs kVIs dcIs pmIs cdIs ctIs ocHas kVHas dcHas pmHas cdHas ctHas ocAnswer kVAnswer dcAnswer pmAnswer cdAnswer ctAnswer ocAns kVAns dcAns pmAns cdAns ctAns ocPInit kVPInit dcPInit pmPInit cdPInit ctPInit ocWorks kVWorks dcWorks pmWorks cdWorks ctWorks ocEInit kVEInit dcEInit pmEInit cdEInit ctEInit ocDInit kVDInit dcDInit pmDInit cdDInit ctDInit ocKnows kVKnows dcKnows pmKnows cdKnows ctKnows ocRef kVRef dcRef pmRef cdRef ctRef ocPerson kVPerson dcPerson pmPerson cdPerson ctPerson ocHours kVHours dcHours pmHours cdHours ctHours ocOff kVOff dcOff pmOff cdOff ctOff ocBusy kVBusy dcBusy pmBusy cdBusy ctBusy ocDrop kVDrop dcDrop pmDrop cdDrop ctDrop ocSure kVSure dcSure pmSure cdSure ctSure ocBs kVBs dcBs pmBs cdBs ctBs ocFreeSt kVFreeSt dcFreeSt pmFreeSt cdFreeSt ctFreeSt ocPs kVPs dcPs pmPs cdPs ctPs ocCs kVCs dcCs pmCs cdCs ctCs ocFree kVFree dcFree pmFree cdFree ctFree ocCommon kVCommon dcCommon pmCommon cdCommon ctCommon ocFirst kVFirst dcFirst pmFirst cdFirst ctFirst ocBest kVBest dcBest pmBest cdBest ctBest ocMost kVMost dcMost pmMost cdMost ctMost ocAt kVAt dcAt pmAt cdAt ctAt ocMin kVMin dcMin pmMin cdMin ctMin : Value} {tTOLD_AT_MOST tUNFIT tNOBODY tNOT_BUSY tFULL tNO_START tDAY tMOMENTS tFIRST_DAY tLAST_DAY tAHEAD_AT_MOST tPEOPLE_AT_MOST tBUSY_AT_MOST tPERSON tHOURS tOFF tBUSY tDROP tSURE tFREE tCOMMON tFIRST tBEST tMOST tAT h0 h1 h2 h3 h4 h5 h6 h7 h8 h9 h10 h11 h12 : Tok} {nHd : Nat}
    (aCP : PySem.W.nsIn K mainGlobals "Person" = some (some (.ref CP)))
    (pgP : PySem.W.plainGet K CP Str.empty = true)
    (hdP : PySem.W.hasDictIn K CP = true)
    (poP : PySem.W.plainOver K CP = true)
    (saP : PySem.W.findIn K (.ref CP) "__setattr__" = some (some (.builtin "object.__setattr__")))
    (mkP : PySem.W.makesIn K CP = true)
    (kcP : PySem.W.keepIn K (.ref CP) = true)
    (nP_ahead : PySem.W.findIn K (.ref CP) "ahead" = some none)
    (nP_week : PySem.W.findIn K (.ref CP) "week" = some none)
    (nP_days_off : PySem.W.findIn K (.ref CP) "days_off" = some none)
    (aPInit : PySem.W.findIn K (.ref CP) "__init__" = some (some (.ref fPInit)))
    (iPInit : PySem.W.isFn K (.ref fPInit) = true)
    (lPInit : K.lookup fPInit = some ⟨ocPInit, odPInit, .func (PySem.W.fnOf "__init__" "Person.__init__" (defArgs sPInit) (defBody sPInit) (defScope sPInit) .none kVPInit dcPInit pmPInit anPInit cdPInit ctPInit), slPInit⟩)
    (cPInit : PySem.W.codeIn K cdPInit "Person.__init__" = true)
    (kPInit : PySem.W.keepIn K (.ref fPInit) = true)
    (aWorks : PySem.W.findIn K (.ref CP) "works" = some (some (.ref fWorks)))
    (iWorks : PySem.W.isFn K (.ref fWorks) = true)
    (lWorks : K.lookup fWorks = some ⟨ocWorks, odWorks, .func (PySem.W.fnOf "works" "Person.works" (defArgs sWorks) (defBody sWorks) (defScope sWorks) .none kVWorks dcWorks pmWorks anWorks cdWorks ctWorks), slWorks⟩)
    (cWorks : PySem.W.codeIn K cdWorks "Person.works" = true)
    (kWorks : PySem.W.keepIn K (.ref fWorks) = true)
    (aCE : PySem.W.nsIn K mainGlobals "Entry" = some (some (.ref CE)))
    (pgE : PySem.W.plainGet K CE Str.empty = true)
    (hdE : PySem.W.hasDictIn K CE = true)
    (poE : PySem.W.plainOver K CE = true)
    (saE : PySem.W.findIn K (.ref CE) "__setattr__" = some (some (.builtin "object.__setattr__")))
    (mkE : PySem.W.makesIn K CE = true)
    (kcE : PySem.W.keepIn K (.ref CE) = true)
    (nE_whose : PySem.W.findIn K (.ref CE) "whose" = some none)
    (nE_begin : PySem.W.findIn K (.ref CE) "begin" = some none)
    (nE_end : PySem.W.findIn K (.ref CE) "end" = some none)
    (nE_for_sure : PySem.W.findIn K (.ref CE) "for_sure" = some none)
    (aEInit : PySem.W.findIn K (.ref CE) "__init__" = some (some (.ref fEInit)))
    (iEInit : PySem.W.isFn K (.ref fEInit) = true)
    (lEInit : K.lookup fEInit = some ⟨ocEInit, odEInit, .func (PySem.W.fnOf "__init__" "Entry.__init__" (defArgs sEInit) (defBody sEInit) (defScope sEInit) .none kVEInit dcEInit pmEInit anEInit cdEInit ctEInit), slEInit⟩)
    (cEInit : PySem.W.codeIn K cdEInit "Entry.__init__" = true)
    (kEInit : PySem.W.keepIn K (.ref fEInit) = true)
    (aCD : PySem.W.nsIn K mainGlobals "Diary" = some (some (.ref CD)))
    (pgD : PySem.W.plainGet K CD Str.empty = true)
    (hdD : PySem.W.hasDictIn K CD = true)
    (poD : PySem.W.plainOver K CD = true)
    (saD : PySem.W.findIn K (.ref CD) "__setattr__" = some (some (.builtin "object.__setattr__")))
    (mkD : PySem.W.makesIn K CD = true)
    (kcD : PySem.W.keepIn K (.ref CD) = true)
    (nD_people : PySem.W.findIn K (.ref CD) "people" = some none)
    (nD_entries : PySem.W.findIn K (.ref CD) "entries" = some none)
    (nD_entries_so_far : PySem.W.findIn K (.ref CD) "entries_so_far" = some none)
    (aDInit : PySem.W.findIn K (.ref CD) "__init__" = some (some (.ref fDInit)))
    (iDInit : PySem.W.isFn K (.ref fDInit) = true)
    (lDInit : K.lookup fDInit = some ⟨ocDInit, odDInit, .func (PySem.W.fnOf "__init__" "Diary.__init__" (defArgs sDInit) (defBody sDInit) (defScope sDInit) .none kVDInit dcDInit pmDInit anDInit cdDInit ctDInit), slDInit⟩)
    (cDInit : PySem.W.codeIn K cdDInit "Diary.__init__" = true)
    (kDInit : PySem.W.keepIn K (.ref fDInit) = true)
    (aKnows : PySem.W.findIn K (.ref CD) "knows" = some (some (.ref fKnows)))
    (iKnows : PySem.W.isFn K (.ref fKnows) = true)
    (lKnows : K.lookup fKnows = some ⟨ocKnows, odKnows, .func (PySem.W.fnOf "knows" "Diary.knows" (defArgs sKnows) (defBody sKnows) (defScope sKnows) .none kVKnows dcKnows pmKnows anKnows cdKnows ctKnows), slKnows⟩)
    (cKnows : PySem.W.codeIn K cdKnows "Diary.knows" = true)
    (kKnows : PySem.W.keepIn K (.ref fKnows) = true)
    (aRef : PySem.W.findIn K (.ref CD) "refusal" = some (some (.ref fRef)))
    (iRef : PySem.W.isFn K (.ref fRef) = true)
    (lRef : K.lookup fRef = some ⟨ocRef, odRef, .func (PySem.W.fnOf "refusal" "Diary.refusal" (defArgs sRef) (defBody sRef) (defScope sRef) .none kVRef dcRef pmRef anRef cdRef ctRef), slRef⟩)
    (cRef : PySem.W.codeIn K cdRef "Diary.refusal" = true)
    (kRef : PySem.W.keepIn K (.ref fRef) = true)
    (aPerson : PySem.W.findIn K (.ref CD) "person" = some (some (.ref fPerson)))
    (iPerson : PySem.W.isFn K (.ref fPerson) = true)
    (lPerson : K.lookup fPerson = some ⟨ocPerson, odPerson, .func (PySem.W.fnOf "person" "Diary.person" (defArgs sPerson) (defBody sPerson) (defScope sPerson) .none kVPerson dcPerson pmPerson anPerson cdPerson ctPerson), slPerson⟩)
    (cPerson : PySem.W.codeIn K cdPerson "Diary.person" = true)
    (kPerson : PySem.W.keepIn K (.ref fPerson) = true)
    (aHours : PySem.W.findIn K (.ref CD) "hours" = some (some (.ref fHours)))
    (iHours : PySem.W.isFn K (.ref fHours) = true)
    (lHours : K.lookup fHours = some ⟨ocHours, odHours, .func (PySem.W.fnOf "hours" "Diary.hours" (defArgs sHours) (defBody sHours) (defScope sHours) .none kVHours dcHours pmHours anHours cdHours ctHours), slHours⟩)
    (cHours : PySem.W.codeIn K cdHours "Diary.hours" = true)
    (kHours : PySem.W.keepIn K (.ref fHours) = true)
    (aOff : PySem.W.findIn K (.ref CD) "off" = some (some (.ref fOff)))
    (iOff : PySem.W.isFn K (.ref fOff) = true)
    (lOff : K.lookup fOff = some ⟨ocOff, odOff, .func (PySem.W.fnOf "off" "Diary.off" (defArgs sOff) (defBody sOff) (defScope sOff) .none kVOff dcOff pmOff anOff cdOff ctOff), slOff⟩)
    (cOff : PySem.W.codeIn K cdOff "Diary.off" = true)
    (kOff : PySem.W.keepIn K (.ref fOff) = true)
    (aBusy : PySem.W.findIn K (.ref CD) "busy" = some (some (.ref fBusy)))
    (iBusy : PySem.W.isFn K (.ref fBusy) = true)
    (lBusy : K.lookup fBusy = some ⟨ocBusy, odBusy, .func (PySem.W.fnOf "busy" "Diary.busy" (defArgs sBusy) (defBody sBusy) (defScope sBusy) .none kVBusy dcBusy pmBusy anBusy cdBusy ctBusy), slBusy⟩)
    (cBusy : PySem.W.codeIn K cdBusy "Diary.busy" = true)
    (kBusy : PySem.W.keepIn K (.ref fBusy) = true)
    (aDrop : PySem.W.findIn K (.ref CD) "drop" = some (some (.ref fDrop)))
    (iDrop : PySem.W.isFn K (.ref fDrop) = true)
    (lDrop : K.lookup fDrop = some ⟨ocDrop, odDrop, .func (PySem.W.fnOf "drop" "Diary.drop" (defArgs sDrop) (defBody sDrop) (defScope sDrop) .none kVDrop dcDrop pmDrop anDrop cdDrop ctDrop), slDrop⟩)
    (cDrop : PySem.W.codeIn K cdDrop "Diary.drop" = true)
    (kDrop : PySem.W.keepIn K (.ref fDrop) = true)
    (aSure : PySem.W.findIn K (.ref CD) "sure" = some (some (.ref fSure)))
    (iSure : PySem.W.isFn K (.ref fSure) = true)
    (lSure : K.lookup fSure = some ⟨ocSure, odSure, .func (PySem.W.fnOf "sure" "Diary.sure" (defArgs sSure) (defBody sSure) (defScope sSure) .none kVSure dcSure pmSure anSure cdSure ctSure), slSure⟩)
    (cSure : PySem.W.codeIn K cdSure "Diary.sure" = true)
    (kSure : PySem.W.keepIn K (.ref fSure) = true)
    (aBs : PySem.W.findIn K (.ref CD) "busy_stretches" = some (some (.ref fBs)))
    (iBs : PySem.W.isFn K (.ref fBs) = true)
    (lBs : K.lookup fBs = some ⟨ocBs, odBs, .func (PySem.W.fnOf "busy_stretches" "Diary.busy_stretches" (defArgs sBs) (defBody sBs) (defScope sBs) .none kVBs dcBs pmBs anBs cdBs ctBs), slBs⟩)
    (cBs : PySem.W.codeIn K cdBs "Diary.busy_stretches" = true)
    (kBs : PySem.W.keepIn K (.ref fBs) = true)
    (aFreeSt : PySem.W.findIn K (.ref CD) "free_stretches" = some (some (.ref fFreeSt)))
    (iFreeSt : PySem.W.isFn K (.ref fFreeSt) = true)
    (lFreeSt : K.lookup fFreeSt = some ⟨ocFreeSt, odFreeSt, .func (PySem.W.fnOf "free_stretches" "Diary.free_stretches" (defArgs sFreeSt) (defBody sFreeSt) (defScope sFreeSt) .none kVFreeSt dcFreeSt pmFreeSt anFreeSt cdFreeSt ctFreeSt), slFreeSt⟩)
    (cFreeSt : PySem.W.codeIn K cdFreeSt "Diary.free_stretches" = true)
    (kFreeSt : PySem.W.keepIn K (.ref fFreeSt) = true)
    (aPs : PySem.W.findIn K (.ref CD) "perhaps_stretches" = some (some (.ref fPs)))
    (iPs : PySem.W.isFn K (.ref fPs) = true)
    (lPs : K.lookup fPs = some ⟨ocPs, odPs, .func (PySem.W.fnOf "perhaps_stretches" "Diary.perhaps_stretches" (defArgs sPs) (defBody sPs) (defScope sPs) .none kVPs dcPs pmPs anPs cdPs ctPs), slPs⟩)
    (cPs : PySem.W.codeIn K cdPs "Diary.perhaps_stretches" = true)
    (kPs : PySem.W.keepIn K (.ref fPs) = true)
    (aCs : PySem.W.findIn K (.ref CD) "common_stretches" = some (some (.ref fCs)))
    (iCs : PySem.W.isFn K (.ref fCs) = true)
    (lCs : K.lookup fCs = some ⟨ocCs, odCs, .func (PySem.W.fnOf "common_stretches" "Diary.common_stretches" (defArgs sCs) (defBody sCs) (defScope sCs) .none kVCs dcCs pmCs anCs cdCs ctCs), slCs⟩)
    (cCs : PySem.W.codeIn K cdCs "Diary.common_stretches" = true)
    (kCs : PySem.W.keepIn K (.ref fCs) = true)
    (aFree : PySem.W.findIn K (.ref CD) "free" = some (some (.ref fFree)))
    (iFree : PySem.W.isFn K (.ref fFree) = true)
    (lFree : K.lookup fFree = some ⟨ocFree, odFree, .func (PySem.W.fnOf "free" "Diary.free" (defArgs sFree) (defBody sFree) (defScope sFree) .none kVFree dcFree pmFree anFree cdFree ctFree), slFree⟩)
    (cFree : PySem.W.codeIn K cdFree "Diary.free" = true)
    (kFree : PySem.W.keepIn K (.ref fFree) = true)
    (aCommon : PySem.W.findIn K (.ref CD) "common" = some (some (.ref fCommon)))
    (iCommon : PySem.W.isFn K (.ref fCommon) = true)
    (lCommon : K.lookup fCommon = some ⟨ocCommon, odCommon, .func (PySem.W.fnOf "common" "Diary.common" (defArgs sCommon) (defBody sCommon) (defScope sCommon) .none kVCommon dcCommon pmCommon anCommon cdCommon ctCommon), slCommon⟩)
    (cCommon : PySem.W.codeIn K cdCommon "Diary.common" = true)
    (kCommon : PySem.W.keepIn K (.ref fCommon) = true)
    (aFirst : PySem.W.findIn K (.ref CD) "first" = some (some (.ref fFirst)))
    (iFirst : PySem.W.isFn K (.ref fFirst) = true)
    (lFirst : K.lookup fFirst = some ⟨ocFirst, odFirst, .func (PySem.W.fnOf "first" "Diary.first" (defArgs sFirst) (defBody sFirst) (defScope sFirst) .none kVFirst dcFirst pmFirst anFirst cdFirst ctFirst), slFirst⟩)
    (cFirst : PySem.W.codeIn K cdFirst "Diary.first" = true)
    (kFirst : PySem.W.keepIn K (.ref fFirst) = true)
    (aBest : PySem.W.findIn K (.ref CD) "best" = some (some (.ref fBest)))
    (iBest : PySem.W.isFn K (.ref fBest) = true)
    (lBest : K.lookup fBest = some ⟨ocBest, odBest, .func (PySem.W.fnOf "best" "Diary.best" (defArgs sBest) (defBody sBest) (defScope sBest) .none kVBest dcBest pmBest anBest cdBest ctBest), slBest⟩)
    (cBest : PySem.W.codeIn K cdBest "Diary.best" = true)
    (kBest : PySem.W.keepIn K (.ref fBest) = true)
    (aMost : PySem.W.findIn K (.ref CD) "most" = some (some (.ref fMost)))
    (iMost : PySem.W.isFn K (.ref fMost) = true)
    (lMost : K.lookup fMost = some ⟨ocMost, odMost, .func (PySem.W.fnOf "most" "Diary.most" (defArgs sMost) (defBody sMost) (defScope sMost) .none kVMost dcMost pmMost anMost cdMost ctMost), slMost⟩)
    (cMost : PySem.W.codeIn K cdMost "Diary.most" = true)
    (kMost : PySem.W.keepIn K (.ref fMost) = true)
    (aAt : PySem.W.findIn K (.ref CD) "at" = some (some (.ref fAt)))
    (iAt : PySem.W.isFn K (.ref fAt) = true)
    (lAt : K.lookup fAt = some ⟨ocAt, odAt, .func (PySem.W.fnOf "at" "Diary.at" (defArgs sAt) (defBody sAt) (defScope sAt) .none kVAt dcAt pmAt anAt cdAt ctAt), slAt⟩)
    (cAt : PySem.W.codeIn K cdAt "Diary.at" = true)
    (kAt : PySem.W.keepIn K (.ref fAt) = true)
    (aMin : PySem.W.findIn K (.ref CD) "minutes" = some (some (.ref fMin)))
    (iMin : PySem.W.isFn K (.ref fMin) = true)
    (lMin : K.lookup fMin = some ⟨ocMin, odMin, .func (PySem.W.fnOf "minutes" "Diary.minutes" (defArgs sMin) (defBody sMin) (defScope sMin) .none kVMin dcMin pmMin anMin cdMin ctMin), slMin⟩)
    (cMin : PySem.W.codeIn K cdMin "Diary.minutes" = true)
    (kMin : PySem.W.keepIn K (.ref fMin) = true)
    (aFst : PySem.W.nsIn K mainGlobals "first_start" = some (some (.ref fFst)))
    (lFst : K.lookup fFst = some ⟨ocFst, odFst, .func (PySem.W.fnOf "first_start" "first_start" (defArgs sFst) (defBody sFst) (defScope sFst) .none kVFst dcFst pmFst anFst cdFst ctFst), slFst⟩)
    (cFst : PySem.W.codeIn K cdFst "first_start" = true)
    (kFst : PySem.W.keepIn K (.ref fFst) = true)
    (aMt : PySem.W.nsIn K mainGlobals "minutes_taken" = some (some (.ref fMt)))
    (lMt : K.lookup fMt = some ⟨ocMt, odMt, .func (PySem.W.fnOf "minutes_taken" "minutes_taken" (defArgs sMt) (defBody sMt) (defScope sMt) .none kVMt dcMt pmMt anMt cdMt ctMt), slMt⟩)
    (cMt : PySem.W.codeIn K cdMt "minutes_taken" = true)
    (kMt : PySem.W.keepIn K (.ref fMt) = true)
    (aTurns : PySem.W.nsIn K mainGlobals "turns" = some (some (.ref fTurns)))
    (lTurns : K.lookup fTurns = some ⟨ocTurns, odTurns, .func (PySem.W.fnOf "turns" "turns" (defArgs sTurns) (defBody sTurns) (defScope sTurns) .none kVTurns dcTurns pmTurns anTurns cdTurns ctTurns), slTurns⟩)
    (cTurns : PySem.W.codeIn K cdTurns "turns" = true)
    (kTurns : PySem.W.keepIn K (.ref fTurns) = true)
    (aBestS : PySem.W.nsIn K mainGlobals "best_start" = some (some (.ref fBestS)))
    (lBestS : K.lookup fBestS = some ⟨ocBestS, odBestS, .func (PySem.W.fnOf "best_start" "best_start" (defArgs sBestS) (defBody sBestS) (defScope sBestS) .none kVBestS dcBestS pmBestS anBestS cdBestS ctBestS), slBestS⟩)
    (cBestS : PySem.W.codeIn K cdBestS "best_start" = true)
    (kBestS : PySem.W.keepIn K (.ref fBestS) = true)
    (aChg : PySem.W.nsIn K mainGlobals "changes" = some (some (.ref fChg)))
    (lChg : K.lookup fChg = some ⟨ocChg, odChg, .func (PySem.W.fnOf "changes" "changes" (defArgs sChg) (defBody sChg) (defScope sChg) .none kVChg dcChg pmChg anChg cdChg ctChg), slChg⟩)
    (cChg : PySem.W.codeIn K cdChg "changes" = true)
    (kChg : PySem.W.keepIn K (.ref fChg) = true)
    (aMostS : PySem.W.nsIn K mainGlobals "most_start" = some (some (.ref fMostS)))
    (lMostS : K.lookup fMostS = some ⟨ocMostS, odMostS, .func (PySem.W.fnOf "most_start" "most_start" (defArgs sMostS) (defBody sMostS) (defScope sMostS) .none kVMostS dcMostS pmMostS anMostS cdMostS ctMostS), slMostS⟩)
    (cMostS : PySem.W.codeIn K cdMostS "most_start" = true)
    (kMostS : PySem.W.keepIn K (.ref fMostS) = true)
    (aPut : PySem.W.nsIn K mainGlobals "put_behind" = some (some (.ref fPut)))
    (lPut : K.lookup fPut = some ⟨ocPut, odPut, .func (PySem.W.fnOf "put_behind" "put_behind" (defArgs sPut) (defBody sPut) (defScope sPut) .none kVPut dcPut pmPut anPut cdPut ctPut), slPut⟩)
    (cPut : PySem.W.codeIn K cdPut "put_behind" = true)
    (kPut : PySem.W.keepIn K (.ref fPut) = true)
    (aJoin : PySem.W.nsIn K mainGlobals "joined" = some (some (.ref fJoin)))
    (lJoin : K.lookup fJoin = some ⟨ocJoin, odJoin, .func (PySem.W.fnOf "joined" "joined" (defArgs sJoin) (defBody sJoin) (defScope sJoin) .none kVJoin dcJoin pmJoin anJoin cdJoin ctJoin), slJoin⟩)
    (cJoin : PySem.W.codeIn K cdJoin "joined" = true)
    (kJoin : PySem.W.keepIn K (.ref fJoin) = true)
    (aBoth : PySem.W.nsIn K mainGlobals "both" = some (some (.ref fBoth)))
    (lBoth : K.lookup fBoth = some ⟨ocBoth, odBoth, .func (PySem.W.fnOf "both" "both" (defArgs sBoth) (defBody sBoth) (defScope sBoth) .none kVBoth dcBoth pmBoth anBoth cdBoth ctBoth), slBoth⟩)
    (cBoth : PySem.W.codeIn K cdBoth "both" = true)
    (kBoth : PySem.W.keepIn K (.ref fBoth) = true)
    (aWo : PySem.W.nsIn K mainGlobals "without" = some (some (.ref fWo)))
    (lWo : K.lookup fWo = some ⟨ocWo, odWo, .func (PySem.W.fnOf "without" "without" (defArgs sWo) (defBody sWo) (defScope sWo) .none kVWo dcWo pmWo anWo cdWo ctWo), slWo⟩)
    (cWo : PySem.W.codeIn K cdWo "without" = true)
    (kWo : PySem.W.keepIn K (.ref fWo) = true)
    (aTot : PySem.W.nsIn K mainGlobals "total" = some (some (.ref fTot)))
    (lTot : K.lookup fTot = some ⟨ocTot, odTot, .func (PySem.W.fnOf "total" "total" (defArgs sTot) (defBody sTot) (defScope sTot) .none kVTot dcTot pmTot anTot cdTot ctTot), slTot⟩)
    (cTot : PySem.W.codeIn K cdTot "total" = true)
    (kTot : PySem.W.keepIn K (.ref fTot) = true)
    (aTold : PySem.W.nsIn K mainGlobals "told" = some (some (.ref fTold)))
    (lTold : K.lookup fTold = some ⟨ocTold, odTold, .func (PySem.W.fnOf "told" "told" (defArgs sTold) (defBody sTold) (defScope sTold) .none kVTold dcTold pmTold anTold cdTold ctTold), slTold⟩)
    (cTold : PySem.W.codeIn K cdTold "told" = true)
    (kTold : PySem.W.keepIn K (.ref fTold) = true)
    (aIs : PySem.W.nsIn K mainGlobals "is_stretch" = some (some (.ref fIs)))
    (lIs : K.lookup fIs = some ⟨ocIs, odIs, .func (PySem.W.fnOf "is_stretch" "is_stretch" (defArgs sIs) (defBody sIs) (defScope sIs) .none kVIs dcIs pmIs anIs cdIs ctIs), slIs⟩)
    (cIs : PySem.W.codeIn K cdIs "is_stretch" = true)
    (kIs : PySem.W.keepIn K (.ref fIs) = true)
    (aHas : PySem.W.nsIn K mainGlobals "has_people" = some (some (.ref fHas)))
    (lHas : K.lookup fHas = some ⟨ocHas, odHas, .func (PySem.W.fnOf "has_people" "has_people" (defArgs sHas) (defBody sHas) (defScope sHas) .none kVHas dcHas pmHas anHas cdHas ctHas), slHas⟩)
    (cHas : PySem.W.codeIn K cdHas "has_people" = true)
    (kHas : PySem.W.keepIn K (.ref fHas) = true)
    (aAnswer : PySem.W.nsIn K mainGlobals "answer" = some (some (.ref fAnswer)))
    (lAnswer : K.lookup fAnswer = some ⟨ocAnswer, odAnswer, .func (PySem.W.fnOf "answer" "answer" (defArgs sAnswer) (defBody sAnswer) (defScope sAnswer) .none kVAnswer dcAnswer pmAnswer anAnswer cdAnswer ctAnswer), slAnswer⟩)
    (cAnswer : PySem.W.codeIn K cdAnswer "answer" = true)
    (kAnswer : PySem.W.keepIn K (.ref fAnswer) = true)
    (aAns : PySem.W.nsIn K mainGlobals "answers" = some (some (.ref fAns)))
    (lAns : K.lookup fAns = some ⟨ocAns, odAns, .func (PySem.W.fnOf "answers" "answers" (defArgs sAns) (defBody sAns) (defScope sAns) .none kVAns dcAns pmAns anAns cdAns ctAns), slAns⟩)
    (cAns : PySem.W.codeIn K cdAns "answers" = true)
    (kAns : PySem.W.keepIn K (.ref fAns) = true)
    (vTOLD_AT_MOST : PySem.W.nsIn K mainGlobals "TOLD_AT_MOST" = some (some (.int (30) tTOLD_AT_MOST)))
    (vUNFIT : PySem.W.nsIn K mainGlobals "UNFIT" = some (some (.int (-1) tUNFIT)))
    (vNOBODY : PySem.W.nsIn K mainGlobals "NOBODY" = some (some (.int (-3) tNOBODY)))
    (vNOT_BUSY : PySem.W.nsIn K mainGlobals "NOT_BUSY" = some (some (.int (-4) tNOT_BUSY)))
    (vFULL : PySem.W.nsIn K mainGlobals "FULL" = some (some (.int (-5) tFULL)))
    (vNO_START : PySem.W.nsIn K mainGlobals "NO_START" = some (some (.int (-6) tNO_START)))
    (vDAY : PySem.W.nsIn K mainGlobals "DAY" = some (some (.int (1440) tDAY)))
    (vMOMENTS : PySem.W.nsIn K mainGlobals "MOMENTS" = some (some (.int (144000) tMOMENTS)))
    (vFIRST_DAY : PySem.W.nsIn K mainGlobals "FIRST_DAY" = some (some (.int (-1) tFIRST_DAY)))
    (vLAST_DAY : PySem.W.nsIn K mainGlobals "LAST_DAY" = some (some (.int (100) tLAST_DAY)))
    (vAHEAD_AT_MOST : PySem.W.nsIn K mainGlobals "AHEAD_AT_MOST" = some (some (.int (840) tAHEAD_AT_MOST)))
    (vPEOPLE_AT_MOST : PySem.W.nsIn K mainGlobals "PEOPLE_AT_MOST" = some (some (.int (8) tPEOPLE_AT_MOST)))
    (vBUSY_AT_MOST : PySem.W.nsIn K mainGlobals "BUSY_AT_MOST" = some (some (.int (50) tBUSY_AT_MOST)))
    (vPERSON : PySem.W.nsIn K mainGlobals "PERSON" = some (some (.int (0) tPERSON)))
    (vHOURS : PySem.W.nsIn K mainGlobals "HOURS" = some (some (.int (1) tHOURS)))
    (vOFF : PySem.W.nsIn K mainGlobals "OFF" = some (some (.int (2) tOFF)))
    (vBUSY : PySem.W.nsIn K mainGlobals "BUSY" = some (some (.int (3) tBUSY)))
    (vDROP : PySem.W.nsIn K mainGlobals "DROP" = some (some (.int (4) tDROP)))
    (vSURE : PySem.W.nsIn K mainGlobals "SURE" = some (some (.int (5) tSURE)))
    (vFREE : PySem.W.nsIn K mainGlobals "FREE" = some (some (.int (6) tFREE)))
    (vCOMMON : PySem.W.nsIn K mainGlobals "COMMON" = some (some (.int (7) tCOMMON)))
    (vFIRST : PySem.W.nsIn K mainGlobals "FIRST" = some (some (.int (8) tFIRST)))
    (vBEST : PySem.W.nsIn K mainGlobals "BEST" = some (some (.int (9) tBEST)))
    (vMOST : PySem.W.nsIn K mainGlobals "MOST" = some (some (.int (10) tMOST)))
    (vAT : PySem.W.nsIn K mainGlobals "AT" = some (some (.int (11) tAT)))
    (zlen : PySem.W.nsIn K mainGlobals "len" = some none)
    (zmin : PySem.W.nsIn K mainGlobals "min" = some none)
    (zmax : PySem.W.nsIn K mainGlobals "max" = some none)
    (zsum : PySem.W.nsIn K mainGlobals "sum" = some none)
    (zrange : PySem.W.nsIn K mainGlobals "range" = some none)
    (zset : PySem.W.nsIn K mainGlobals "set" = some none)
    (zsorted : PySem.W.nsIn K mainGlobals "sorted" = some none)
    (aHD : PySem.W.nsIn K mainGlobals "HANDED" = some (some (.ref aHd)))
    (lHD : K.lookup aHd = some ⟨.type "tuple", odHd, .seq #[.int 1 h0, .int 4 h1, .int 2 h2, .int 4 h3, .int 1 h4, .int 1 h5, .int 3 h6, .int 2 h7, .int 4 h8, .int 3 h9, .int 3 h10, .int 1 h11, .int 3 h12] nHd, slHd⟩)
    (nDP : CD ≠ CP)
    (nDE : CD ≠ CE)
    (nPE : CP ≠ CE) :
    ∃ fd : FuncData, (∀ (s : Shared) (us : List Value), us.length = (["calls"] : List Str).length → BindsTo s fd ⟨us, []⟩ ((["calls"] : List Str).zip us)) ∧ ∀ base : Heap, K.In base → base.Ns mainGlobals mg → FnOk P w K mg base CX0 8 fa fd ["calls"] (spAns K) := by
  have e := hfa.symm.trans (PySem.W.mg_of X G aAns)
  cases e
  have FFst := fun_mk (st := sFst) lFst cFst kFst
  have bFst := FFst.binds (ps := ["stretches", "long", "g"]) fun _ _ _ _ _ _ us hl => match us, hl with | [_, _, _], _ => rfl
  have FMt := fun_mk (st := sMt) lMt cMt kMt
  have bMt := FMt.binds (ps := ["taken", "begin", "end"]) fun _ _ _ _ _ _ us hl => match us, hl with | [_, _, _], _ => rfl
  have FTurns := fun_mk (st := sTurns) lTurns cTurns kTurns
  have bTurns := FTurns.binds (ps := ["taken", "long"]) fun _ _ _ _ _ _ us hl => match us, hl with | [_, _], _ => rfl
  have FBestS := fun_mk (st := sBestS) lBestS cBestS kBestS
  have bBestS := FBestS.binds (ps := ["stretches", "long", "taken"]) fun _ _ _ _ _ _ us hl => match us, hl with | [_, _, _], _ => rfl
  have FChg := fun_mk (st := sChg) lChg cChg kChg
  have bChg := FChg.binds (ps := ["person", "stretches", "long"]) fun _ _ _ _ _ _ us hl => match us, hl with | [_, _, _], _ => rfl
  have FMostS := fun_mk (st := sMostS) lMostS cMostS kMostS
  have bMostS := FMostS.binds (ps := ["a", "steps"]) fun _ _ _ _ _ _ us hl => match us, hl with | [_, _], _ => rfl
  have FPut := fun_mk (st := sPut) lPut cPut kPut
  have bPut := FPut.binds (ps := ["stretches", "begin", "end"]) fun _ _ _ _ _ _ us hl => match us, hl with | [_, _, _], _ => rfl
  have FJoin := fun_mk (st := sJoin) lJoin cJoin kJoin
  have bJoin := FJoin.binds (ps := ["stretches"]) fun _ _ _ _ _ _ us hl => match us, hl with | [_], _ => rfl
  have FBoth := fun_mk (st := sBoth) lBoth cBoth kBoth
  have bBoth := FBoth.binds (ps := ["one", "other"]) fun _ _ _ _ _ _ us hl => match us, hl with | [_, _], _ => rfl
  have FWo := fun_mk (st := sWo) lWo cWo kWo
  have bWo := FWo.binds (ps := ["stretches", "begin", "end"]) fun _ _ _ _ _ _ us hl => match us, hl with | [_, _, _], _ => rfl
  have FTot := fun_mk (st := sTot) lTot cTot kTot
  have bTot := FTot.binds (ps := ["stretches"]) fun _ _ _ _ _ _ us hl => match us, hl with | [_], _ => rfl
  have FTold := fun_mk (st := sTold) lTold cTold kTold
  have bTold := FTold.binds (ps := ["stretches"]) fun _ _ _ _ _ _ us hl => match us, hl with | [_], _ => rfl
  have FIs := fun_mk (st := sIs) lIs cIs kIs
  have bIs := FIs.binds (ps := ["a", "b"]) fun _ _ _ _ _ _ us hl => match us, hl with | [_, _], _ => rfl
  have FHas := fun_mk (st := sHas) lHas cHas kHas
  have bHas := FHas.binds (ps := ["call"]) fun _ _ _ _ _ _ us hl => match us, hl with | [_], _ => rfl
  have FAnswer := fun_mk (st := sAnswer) lAnswer cAnswer kAnswer
  have bAnswer := FAnswer.binds (ps := ["diary", "call", "numbers", "people"]) fun _ _ _ _ _ _ us hl => match us, hl with | [_, _, _, _], _ => rfl
  have FAns := fun_mk (st := sAns) lAns cAns kAns
  have FPInit := fun_mk (st := sPInit) lPInit cPInit kPInit
  have bPInit := FPInit.binds (ps := ["self", "ahead"]) fun _ _ _ _ _ _ us hl => match us, hl with | [_, _], _ => rfl
  have FWorks := fun_mk (st := sWorks) lWorks cWorks kWorks
  have bWorks := FWorks.binds (ps := ["self", "a", "b"]) fun _ _ _ _ _ _ us hl => match us, hl with | [_, _, _], _ => rfl
  have FEInit := fun_mk (st := sEInit) lEInit cEInit kEInit
  have bEInit := FEInit.binds (ps := ["self", "whose", "begin", "end", "for_sure"]) fun _ _ _ _ _ _ us hl => match us, hl with | [_, _, _, _, _], _ => rfl
  have FDInit := fun_mk (st := sDInit) lDInit cDInit kDInit
  have bDInit := FDInit.binds (ps := ["self"]) fun _ _ _ _ _ _ us hl => match us, hl with | [_], _ => rfl
  have FKnows := fun_mk (st := sKnows) lKnows cKnows kKnows
  have bKnows := FKnows.binds (ps := ["self", "person"]) fun _ _ _ _ _ _ us hl => match us, hl with | [_, _], _ => rfl
  have FRef := fun_mk (st := sRef) lRef cRef kRef
  have bRef := FRef.binds (ps := ["self", "people", "fits"]) fun _ _ _ _ _ _ us hl => match us, hl with | [_, _, _], _ => rfl
  have FPerson := fun_mk (st := sPerson) lPerson cPerson kPerson
  have bPerson := FPerson.binds (ps := ["self", "ahead"]) fun _ _ _ _ _ _ us hl => match us, hl with | [_, _], _ => rfl
  have FHours := fun_mk (st := sHours) lHours cHours kHours
  have bHours := FHours.binds (ps := ["self", "person", "weekday", "begin", "end"]) fun _ _ _ _ _ _ us hl => match us, hl with | [_, _, _, _, _], _ => rfl
  have FOff := fun_mk (st := sOff) lOff cOff kOff
  have bOff := FOff.binds (ps := ["self", "person", "day"]) fun _ _ _ _ _ _ us hl => match us, hl with | [_, _, _], _ => rfl
  have FBusy := fun_mk (st := sBusy) lBusy cBusy kBusy
  have bBusy := FBusy.binds (ps := ["self", "person", "begin", "end", "sort"]) fun _ _ _ _ _ _ us hl => match us, hl with | [_, _, _, _, _], _ => rfl
  have FDrop := fun_mk (st := sDrop) lDrop cDrop kDrop
  have bDrop := FDrop.binds (ps := ["self", "item"]) fun _ _ _ _ _ _ us hl => match us, hl with | [_, _], _ => rfl
  have FSure := fun_mk (st := sSure) lSure cSure kSure
  have bSure := FSure.binds (ps := ["self", "item"]) fun _ _ _ _ _ _ us hl => match us, hl with | [_, _], _ => rfl
  have FBs := fun_mk (st := sBs) lBs cBs kBs
  have bBs := FBs.binds (ps := ["self", "person", "for_sure"]) fun _ _ _ _ _ _ us hl => match us, hl with | [_, _, _], _ => rfl
  have FFreeSt := fun_mk (st := sFreeSt) lFreeSt cFreeSt kFreeSt
  have bFreeSt := FFreeSt.binds (ps := ["self", "person", "a", "b"]) fun _ _ _ _ _ _ us hl => match us, hl with | [_, _, _, _], _ => rfl
  have FPs := fun_mk (st := sPs) lPs cPs kPs
  have bPs := FPs.binds (ps := ["self", "person"]) fun _ _ _ _ _ _ us hl => match us, hl with | [_, _], _ => rfl
  have FCs := fun_mk (st := sCs) lCs cCs kCs
  have bCs := FCs.binds (ps := ["self", "people", "a", "b"]) fun _ _ _ _ _ _ us hl => match us, hl with | [_, _, _, _], _ => rfl
  have FFree := fun_mk (st := sFree) lFree cFree kFree
  have bFree := FFree.binds (ps := ["self", "person", "a", "b"]) fun _ _ _ _ _ _ us hl => match us, hl with | [_, _, _, _], _ => rfl
  have FCommon := fun_mk (st := sCommon) lCommon cCommon kCommon
  have bCommon := FCommon.binds (ps := ["self", "a", "b", "people"]) fun _ _ _ _ _ _ us hl => match us, hl with | [_, _, _, _], _ => rfl
  have FFirst := fun_mk (st := sFirst) lFirst cFirst kFirst
  have bFirst := FFirst.binds (ps := ["self", "long", "a", "b", "g", "people"]) fun _ _ _ _ _ _ us hl => match us, hl with | [_, _, _, _, _, _], _ => rfl
  have FBest := fun_mk (st := sBest) lBest cBest kBest
  have bBest := FBest.binds (ps := ["self", "long", "a", "b", "people"]) fun _ _ _ _ _ _ us hl => match us, hl with | [_, _, _, _, _], _ => rfl
  have FMost := fun_mk (st := sMost) lMost cMost kMost
  have bMost := FMost.binds (ps := ["self", "long", "a", "b", "people"]) fun _ _ _ _ _ _ us hl => match us, hl with | [_, _, _, _, _], _ => rfl
  have FAt := fun_mk (st := sAt) lAt cAt kAt
  have bAt := FAt.binds (ps := ["self", "moment", "people"]) fun _ _ _ _ _ _ us hl => match us, hl with | [_, _, _], _ => rfl
  have FMin := fun_mk (st := sMin) lMin cMin kMin
  have bMin := FMin.binds (ps := ["self", "person", "a", "b"]) fun _ _ _ _ _ _ us hl => match us, hl with | [_, _, _, _], _ => rfl
  have TT : TxtD K mg ⟨CD, CP, CE⟩ := { per := ⟨⟨pgP, hdP, poP, saP⟩, nP_ahead, nP_week, nP_days_off⟩, clE := ⟨pgE, hdE, poE, saE⟩, eW := nE_whose, eB := nE_begin, eE := nE_end, eS := nE_for_sure, clD := ⟨pgD, hdD, poD, saD⟩, dP := nD_people, dE := nD_entries, dN := nD_entries_so_far, nDP := nDP, nDE := nDE, nPE := nPE, unfit := ⟨_, PySem.W.mg_of X G vUNFIT⟩, nobody := ⟨_, PySem.W.mg_of X G vNOBODY⟩, notBusy := ⟨_, PySem.W.mg_of X G vNOT_BUSY⟩, full := ⟨_, PySem.W.mg_of X G vFULL⟩, aheadMost := ⟨_, PySem.W.mg_of X G vAHEAD_AT_MOST⟩, peopleMost := ⟨_, PySem.W.mg_of X G vPEOPLE_AT_MOST⟩, busyMost := ⟨_, PySem.W.mg_of X G vBUSY_AT_MOST⟩ }
  have zl := PySem.W.mg_none_of X G zlen
  have TC : TxtC mg := ⟨⟨_, PySem.W.mg_of X G vDAY⟩, ⟨_, PySem.W.mg_of X G vMOMENTS⟩, ⟨_, PySem.W.mg_of X G vFIRST_DAY⟩, ⟨_, PySem.W.mg_of X G vLAST_DAY⟩, PySem.W.mg_none_of X G zrange, PySem.W.mg_none_of X G zmax, PySem.W.mg_none_of X G zmin, zl⟩
  have TN : TxtN mg := ⟨PySem.W.mg_none_of X G zset, PySem.W.mg_none_of X G zsorted, ⟨_, PySem.W.mg_of X G vNO_START⟩⟩
  have TS : TxtS mg := ⟨zl, PySem.W.mg_none_of X G zmin, PySem.W.mg_none_of X G zmax, PySem.W.mg_none_of X G zsum, ⟨_, PySem.W.mg_of X G vTOLD_AT_MOST⟩⟩
  have TG : TxtG mg := ⟨zl, PySem.W.mg_none_of X G zmin, PySem.W.mg_none_of X G zmax, PySem.W.mg_none_of X G zsum, PySem.W.mg_none_of X G zsorted⟩
  have TH : TxtH mg := ⟨⟨_, PySem.W.mg_of X G vPERSON⟩, ⟨_, PySem.W.mg_of X G vHOURS⟩, ⟨_, PySem.W.mg_of X G vOFF⟩, ⟨_, PySem.W.mg_of X G vBUSY⟩, ⟨_, PySem.W.mg_of X G vDROP⟩, ⟨_, PySem.W.mg_of X G vSURE⟩, ⟨_, PySem.W.mg_of X G vFREE⟩, ⟨_, PySem.W.mg_of X G vCOMMON⟩, ⟨_, PySem.W.mg_of X G vFIRST⟩, ⟨_, PySem.W.mg_of X G vBEST⟩, ⟨_, PySem.W.mg_of X G vMOST⟩, ⟨_, PySem.W.mg_of X G vAT⟩⟩
  have hHd : ∀ H, SqT K H aHd (handed.map V.int) := fun H => .inr ⟨_, _, _, lHD, rfl, rfl, (by show 13 ≤ sizeLine; decide), .cons ⟨_, rfl⟩ (.cons ⟨_, rfl⟩ (.cons ⟨_, rfl⟩ (.cons ⟨_, rfl⟩ (.cons ⟨_, rfl⟩ (.cons ⟨_, rfl⟩ (.cons ⟨_, rfl⟩ (.cons ⟨_, rfl⟩ (.cons ⟨_, rfl⟩ (.cons ⟨_, rfl⟩ (.cons ⟨_, rfl⟩ (.cons ⟨_, rfl⟩ (.cons ⟨_, rfl⟩ (.nil)))))))))))))⟩
  have TA : TxtA K mg := ⟨⟨aHd, PySem.W.mg_of X G aHD, hHd⟩, zl⟩
  refine ⟨PySem.W.fnOf "answers" "answers" (defArgs sAns) (defBody sAns) (defScope sAns) .none kVAns dcAns pmAns anAns cdAns ctAns, fun s us hu => match us, hu with | [_], _ => .of_eq rfl, fun base _ _ => ?_⟩
  have fin : ∀ CC : Cs, CC = ⟨CD, CP, CE⟩ → TxtD K mg CC → FnOk P w K mg base CX0 8 fa (PySem.W.fnOf "answers" "answers" (defArgs sAns) (defBody sAns) (defScope sAns) .none kVAns dcAns pmAns anAns cdAns ctAns) ["calls"] (spAns0 K) := by
    intro CC eC T
    cases eC
    have GPut : GFun P w K mg base "put_behind" ["stretches", "begin", "end"] 1 (spPut) := ⟨fPut, _, ok_put FPut ⟨zl⟩, PySem.W.mg_of X G aPut, kPut, bPut⟩
    have GWo : GFun P w K mg base "without" ["stretches", "begin", "end"] 1 (spWo K) := ⟨fWo, _, ok_wo FWo TS, PySem.W.mg_of X G aWo, kWo, bWo⟩
    have GTot : GFun P w K mg base "total" ["stretches"] 1 (spTot K) := ⟨fTot, _, ok_tot FTot TS, PySem.W.mg_of X G aTot, kTot, bTot⟩
    have GTold : GFun P w K mg base "told" ["stretches"] 1 (spTold K) := ⟨fTold, _, ok_told FTold TS, PySem.W.mg_of X G aTold, kTold, bTold⟩
    have GIs : GFun P w K mg base "is_stretch" ["a", "b"] 1 (spIs) := ⟨fIs, _, ok_is FIs TC, PySem.W.mg_of X G aIs, kIs, bIs⟩
    have GBoth : GFun P w K mg base "both" ["one", "other"] 2 (spBoth K) := ⟨fBoth, _, ok_both FBoth TS GPut, PySem.W.mg_of X G aBoth, kBoth, bBoth⟩
    have GJoin : GFun P w K mg base "joined" ["stretches"] 2 (spJoin K) := ⟨fJoin, _, ok_join FJoin TS TN GPut, PySem.W.mg_of X G aJoin, kJoin, bJoin⟩
    have GFst : GFun P w K mg base "first_start" ["stretches", "long", "g"] 1 (spFst K) := ⟨fFst, _, ok_fst FFst, PySem.W.mg_of X G aFst, kFst, bFst⟩
    have GMt : GFun P w K mg base "minutes_taken" ["taken", "begin", "end"] 1 (spMt K) := ⟨fMt, _, ok_mt FMt TG, PySem.W.mg_of X G aMt, kMt, bMt⟩
    have GTurns : GFun P w K mg base "turns" ["taken", "long"] 1 (spTurns K) := ⟨fTurns, _, ok_turns FTurns TG, PySem.W.mg_of X G aTurns, kTurns, bTurns⟩
    have GBestS : GFun P w K mg base "best_start" ["stretches", "long", "taken"] 2 (spBestS K) := ⟨fBestS, _, ok_bestS FBestS TG GTurns GMt, PySem.W.mg_of X G aBestS, kBestS, bBestS⟩
    have GChg : GFun P w K mg base "changes" ["person", "stretches", "long"] 1 (spChg K) := ⟨fChg, _, ok_chg FChg, PySem.W.mg_of X G aChg, kChg, bChg⟩
    have GMostS : GFun P w K mg base "most_start" ["a", "steps"] 1 (spMostS K) := ⟨fMostS, _, ok_mostS FMostS TG, PySem.W.mg_of X G aMostS, kMostS, bMostS⟩
    have GPInit : GMake P w K mg base CP "Person" ["self", "ahead"] 1 (spPInit CP) := ⟨fPInit, _, ok_pInit FPInit T.per, ⟨mkP, aPInit, iPInit, kcP⟩, PySem.W.mg_of X G aCP, bPInit⟩
    have GWorks : GMeth P w K mg base CP "works" ["self", "a", "b"] 2 (spWorks CP) := ⟨fWorks, _, ok_works FWorks T.per TC GPut, ⟨aWorks, iWorks, kWorks⟩, bWorks⟩
    have GEInit : GMake P w K mg base CE "Entry" ["self", "whose", "begin", "end", "for_sure"] 1 (spEInit ⟨CD, CP, CE⟩) := ⟨fEInit, _, ok_eInit FEInit T, ⟨mkE, aEInit, iEInit, kcE⟩, PySem.W.mg_of X G aCE, bEInit⟩
    have GDInit : GMake P w K mg base CD "Diary" ["self"] 1 (spDInit ⟨CD, CP, CE⟩) := ⟨fDInit, _, ok_dInit FDInit T, ⟨mkD, aDInit, iDInit, kcD⟩, PySem.W.mg_of X G aCD, bDInit⟩
    have GKnows : GMeth P w K mg base CD "knows" ["self", "person"] 1 (spKnows ⟨CD, CP, CE⟩) := ⟨fKnows, _, ok_knows FKnows T TC, ⟨aKnows, iKnows, kKnows⟩, bKnows⟩
    have GRef : GMeth P w K mg base CD "refusal" ["self", "people", "fits"] 2 (spRef ⟨CD, CP, CE⟩ K) := ⟨fRef, _, ok_ref FRef T TC TN GKnows, ⟨aRef, iRef, kRef⟩, bRef⟩
    have GPerson : GMeth P w K mg base CD "person" ["self", "ahead"] 3 (spPerson ⟨CD, CP, CE⟩) := ⟨fPerson, _, ok_person FPerson T TC GPInit, ⟨aPerson, iPerson, kPerson⟩, bPerson⟩
    have GHours : GMeth P w K mg base CD "hours" ["self", "person", "weekday", "begin", "end"] 3 (spHours ⟨CD, CP, CE⟩) := ⟨fHours, _, ok_hours FHours T TC GRef GWorks GTot, ⟨aHours, iHours, kHours⟩, bHours⟩
    have GOff : GMeth P w K mg base CD "off" ["self", "person", "day"] 3 (spOff ⟨CD, CP, CE⟩) := ⟨fOff, _, ok_off FOff T TC GRef, ⟨aOff, iOff, kOff⟩, bOff⟩
    have GBusy : GMeth P w K mg base CD "busy" ["self", "person", "begin", "end", "sort"] 3 (spBusy ⟨CD, CP, CE⟩) := ⟨fBusy, _, ok_busy FBusy T TC GRef GIs GEInit, ⟨aBusy, iBusy, kBusy⟩, bBusy⟩
    have GDrop : GMeth P w K mg base CD "drop" ["self", "item"] 1 (spDrop ⟨CD, CP, CE⟩) := ⟨fDrop, _, ok_drop FDrop T TC, ⟨aDrop, iDrop, kDrop⟩, bDrop⟩
    have GSure : GMeth P w K mg base CD "sure" ["self", "item"] 1 (spSure ⟨CD, CP, CE⟩) := ⟨fSure, _, ok_sure FSure T TC, ⟨aSure, iSure, kSure⟩, bSure⟩
    have GBs : GMeth P w K mg base CD "busy_stretches" ["self", "person", "for_sure"] 1 (spBs ⟨CD, CP, CE⟩) := ⟨fBs, _, ok_bs FBs T, ⟨aBs, iBs, kBs⟩, bBs⟩
    have GFreeSt : GMeth P w K mg base CD "free_stretches" ["self", "person", "a", "b"] 3 (spFreeSt ⟨CD, CP, CE⟩) := ⟨fFreeSt, _, ok_freeSt FFreeSt T GBs GWorks GWo, ⟨aFreeSt, iFreeSt, kFreeSt⟩, bFreeSt⟩
    have GPs : GMeth P w K mg base CD "perhaps_stretches" ["self", "person"] 3 (spPs ⟨CD, CP, CE⟩) := ⟨fPs, _, ok_ps FPs T GBs GJoin, ⟨aPs, iPs, kPs⟩, bPs⟩
    have GCs : GMeth P w K mg base CD "common_stretches" ["self", "people", "a", "b"] 4 (spCs ⟨CD, CP, CE⟩ K) := ⟨fCs, _, ok_cs FCs T GFreeSt GBoth, ⟨aCs, iCs, kCs⟩, bCs⟩
    have GCommon : GMeth P w K mg base CD "common" ["self", "a", "b", "people"] 5 (spCommon ⟨CD, CP, CE⟩ K) := ⟨fCommon, _, ok_common FCommon T GRef GIs GCs GTold, ⟨aCommon, iCommon, kCommon⟩, bCommon⟩
    have GFree : GMeth P w K mg base CD "free" ["self", "person", "a", "b"] 6 (spFree ⟨CD, CP, CE⟩) := ⟨fFree, _, ok_free FFree T GCommon, ⟨aFree, iFree, kFree⟩, bFree⟩
    have GFirst : GMeth P w K mg base CD "first" ["self", "long", "a", "b", "g", "people"] 5 (spFirst ⟨CD, CP, CE⟩ K) := ⟨fFirst, _, ok_first FFirst T TC TN GRef GIs GCs GFst, ⟨aFirst, iFirst, kFirst⟩, bFirst⟩
    have GBest : GMeth P w K mg base CD "best" ["self", "long", "a", "b", "people"] 5 (spBest ⟨CD, CP, CE⟩ K) := ⟨fBest, _, ok_best FBest T TC TN GRef GIs GCs GPs GBestS, ⟨aBest, iBest, kBest⟩, bBest⟩
    have GMost : GMeth P w K mg base CD "most" ["self", "long", "a", "b", "people"] 4 (spMost ⟨CD, CP, CE⟩ K) := ⟨fMost, _, ok_most FMost T TC TN GRef GIs GFreeSt GChg GMostS, ⟨aMost, iMost, kMost⟩, bMost⟩
    have GAt : GMeth P w K mg base CD "at" ["self", "moment", "people"] 4 (spAt ⟨CD, CP, CE⟩ K) := ⟨fAt, _, ok_at FAt T TC TS GRef GFreeSt, ⟨aAt, iAt, kAt⟩, bAt⟩
    have GMin : GMeth P w K mg base CD "minutes" ["self", "person", "a", "b"] 4 (spMin ⟨CD, CP, CE⟩) := ⟨fMin, _, ok_min FMin T GRef GIs GFreeSt GPs GWorks GBoth GTot, ⟨aMin, iMin, kMin⟩, bMin⟩
    have GHas : GFun P w K mg base "has_people" ["call"] 1 (spHas) := ⟨fHas, _, ok_has FHas TH, PySem.W.mg_of X G aHas, kHas, bHas⟩
    have GAnswer : GFun P w K mg base "answer" ["diary", "call", "numbers", "people"] 7 (spAnswer ⟨CD, CP, CE⟩ K) := ⟨fAnswer, _, ok_answer FAnswer T TH ⟨GPerson, GHours, GOff, GBusy, GDrop, GSure, GFree, GCommon, GFirst, GBest, GMost, GAt, GMin⟩, PySem.W.mg_of X G aAnswer, kAnswer, bAnswer⟩
    exact ok_ans0 FAns T TA GDInit GHas GAnswer
  exact (fin _ rfl TT).imp fun vs H Q E h => ans_of K h
end Fb
open PySem PySem.W PyProof.Rows
set_option maxRecDepth 100000 in
set_option maxHeartbeats 8000000 in
theorem PySem.Challenge.cw_freebusy_s01_answers_holds : PySem.Challenge.rw_freebusy_s01_answers.Holds := by
  w_on; k_headS; (case hw => exact ⟨[.list [.int 0, .int 0]], by decide +kernel, by decide +kernel⟩)
  k_fillS
  refine L2.walk_specK (r := PySem.Challenge.rw_freebusy_s01_answers) (k := 8) (CX := L2.CX0) (ps := ["calls"]) (sp := Fb.spAns) (by decide +kernel) rfl rfl ⟨rfl, by decide, by decide⟩ (fun w h Y => PySem.W.kIn_of Y) ?F ?S (fun _ _ _ _ z => z)
  case F =>
    intro w mg fa h Y KX G hmg
    refine' Fb.all_mk KX G hmg ?aCP ?pgP ?hdP ?poP ?saP ?mkP ?kcP ?nP_ahead ?nP_week ?nP_days_off ?aPInit ?iPInit ?lPInit ?cPInit ?kPInit ?aWorks ?iWorks ?lWorks ?cWorks ?kWorks ?aCE ?pgE ?hdE ?poE ?saE ?mkE ?kcE ?nE_whose ?nE_begin ?nE_end ?nE_for_sure ?aEInit ?iEInit ?lEInit ?cEInit ?kEInit ?aCD ?pgD ?hdD ?poD ?saD ?mkD ?kcD ?nD_people ?nD_entries ?nD_entries_so_far ?aDInit ?iDInit ?lDInit ?cDInit ?kDInit ?aKnows ?iKnows ?lKnows ?cKnows ?kKnows ?aRef ?iRef ?lRef ?cRef ?kRef ?aPerson ?iPerson ?lPerson ?cPerson ?kPerson ?aHours ?iHours ?lHours ?cHours ?kHours ?aOff ?iOff ?lOff ?cOff ?kOff ?aBusy ?iBusy ?lBusy ?cBusy ?kBusy ?aDrop ?iDrop ?lDrop ?cDrop ?kDrop ?aSure ?iSure ?lSure ?cSure ?kSure ?aBs ?iBs ?lBs ?cBs ?kBs ?aFreeSt ?iFreeSt ?lFreeSt ?cFreeSt ?kFreeSt ?aPs ?iPs ?lPs ?cPs ?kPs ?aCs ?iCs ?lCs ?cCs ?kCs ?aFree ?iFree ?lFree ?cFree ?kFree ?aCommon ?iCommon ?lCommon ?cCommon ?kCommon ?aFirst ?iFirst ?lFirst ?cFirst ?kFirst ?aBest ?iBest ?lBest ?cBest ?kBest ?aMost ?iMost ?lMost ?cMost ?kMost ?aAt ?iAt ?lAt ?cAt ?kAt ?aMin ?iMin ?lMin ?cMin ?kMin ?aFst ?lFst ?cFst ?kFst ?aMt ?lMt ?cMt ?kMt ?aTurns ?lTurns ?cTurns ?kTurns ?aBestS ?lBestS ?cBestS ?kBestS ?aChg ?lChg ?cChg ?kChg ?aMostS ?lMostS ?cMostS ?kMostS ?aPut ?lPut ?cPut ?kPut ?aJoin ?lJoin ?cJoin ?kJoin ?aBoth ?lBoth ?cBoth ?kBoth ?aWo ?lWo ?cWo ?kWo ?aTot ?lTot ?cTot ?kTot ?aTold ?lTold ?cTold ?kTold ?aIs ?lIs ?cIs ?kIs ?aHas ?lHas ?cHas ?kHas ?aAnswer ?lAnswer ?cAnswer ?kAnswer ?aAns ?lAns ?cAns ?kAns ?vTOLD_AT_MOST ?vUNFIT ?vNOBODY ?vNOT_BUSY ?vFULL ?vNO_START ?vDAY ?vMOMENTS ?vFIRST_DAY ?vLAST_DAY ?vAHEAD_AT_MOST ?vPEOPLE_AT_MOST ?vBUSY_AT_MOST ?vPERSON ?vHOURS ?vOFF ?vBUSY ?vDROP ?vSURE ?vFREE ?vCOMMON ?vFIRST ?vBEST ?vMOST ?vAT ?zlen ?zmin ?zmax ?zsum ?zrange ?zset ?zsorted ?aHD ?lHD ?nDP ?nDE ?nPE
    (case aCP => k_is)
    (case pgP => k_is)
    (case hdP => k_is)
    (case poP => k_is)
    (case saP => k_is)
    (case mkP => k_is)
    (case kcP => k_is)
    (case nP_ahead => k_is)
    (case nP_week => k_is)
    (case nP_days_off => k_is)
    (case aPInit => k_is)
    (case iPInit => k_is)
    (case lPInit => k_is)
    (case cPInit => k_is)
    (case kPInit => k_is)
    (case aWorks => k_is)
    (case iWorks => k_is)
    (case lWorks => k_is)
    (case cWorks => k_is)
    (case kWorks => k_is)
    (case aCE => k_is)
    (case pgE => k_is)
    (case hdE => k_is)
    (case poE => k_is)
    (case saE => k_is)
    (case mkE => k_is)
    (case kcE => k_is)
    (case nE_whose => k_is)
    (case nE_begin => k_is)
    (case nE_end => k_is)
    (case nE_for_sure => k_is)
    (case aEInit => k_is)
    (case iEInit => k_is)
    (case lEInit => k_is)
    (case cEInit => k_is)
    (case kEInit => k_is)
    (case aCD => k_is)
    (case pgD => k_is)
    (case hdD => k_is)
    (case poD => k_is)
    (case saD => k_is)
    (case mkD => k_is)
    (case kcD => k_is)
    (case nD_people => k_is)
    (case nD_entries => k_is)
    (case nD_entries_so_far => k_is)
    (case aDInit => k_is)
    (case iDInit => k_is)
    (case lDInit => k_is)
    (case cDInit => k_is)
    (case kDInit => k_is)
    (case aKnows => k_is)
    (case iKnows => k_is)
    (case lKnows => k_is)
    (case cKnows => k_is)
    (case kKnows => k_is)
    (case aRef => k_is)
    (case iRef => k_is)
    (case lRef => k_is)
    (case cRef => k_is)
    (case kRef => k_is)
    (case aPerson => k_is)
    (case iPerson => k_is)
    (case lPerson => k_is)
    (case cPerson => k_is)
    (case kPerson => k_is)
    (case aHours => k_is)
    (case iHours => k_is)
    (case lHours => k_is)
    (case cHours => k_is)
    (case kHours => k_is)
    (case aOff => k_is)
    (case iOff => k_is)
    (case lOff => k_is)
    (case cOff => k_is)
    (case kOff => k_is)
    (case aBusy => k_is)
    (case iBusy => k_is)
    (case lBusy => k_is)
    (case cBusy => k_is)
    (case kBusy => k_is)
    (case aDrop => k_is)
    (case iDrop => k_is)
    (case lDrop => k_is)
    (case cDrop => k_is)
    (case kDrop => k_is)
    (case aSure => k_is)
    (case iSure => k_is)
    (case lSure => k_is)
    (case cSure => k_is)
    (case kSure => k_is)
    (case aBs => k_is)
    (case iBs => k_is)
    (case lBs => k_is)
    (case cBs => k_is)
    (case kBs => k_is)
    (case aFreeSt => k_is)
    (case iFreeSt => k_is)
    (case lFreeSt => k_is)
    (case cFreeSt => k_is)
    (case kFreeSt => k_is)
    (case aPs => k_is)
    (case iPs => k_is)
    (case lPs => k_is)
    (case cPs => k_is)
    (case kPs => k_is)
    (case aCs => k_is)
    (case iCs => k_is)
    (case lCs => k_is)
    (case cCs => k_is)
    (case kCs => k_is)
    (case aFree => k_is)
    (case iFree => k_is)
    (case lFree => k_is)
    (case cFree => k_is)
    (case kFree => k_is)
    (case aCommon => k_is)
    (case iCommon => k_is)
    (case lCommon => k_is)
    (case cCommon => k_is)
    (case kCommon => k_is)
    (case aFirst => k_is)
    (case iFirst => k_is)
    (case lFirst => k_is)
    (case cFirst => k_is)
    (case kFirst => k_is)
    (case aBest => k_is)
    (case iBest => k_is)
    (case lBest => k_is)
    (case cBest => k_is)
    (case kBest => k_is)
    (case aMost => k_is)
    (case iMost => k_is)
    (case lMost => k_is)
    (case cMost => k_is)
    (case kMost => k_is)
    (case aAt => k_is)
    (case iAt => k_is)
    (case lAt => k_is)
    (case cAt => k_is)
    (case kAt => k_is)
    (case aMin => k_is)
    (case iMin => k_is)
    (case lMin => k_is)
    (case cMin => k_is)
    (case kMin => k_is)
    (case aFst => k_is)
    (case lFst => k_is)
    (case cFst => k_is)
    (case kFst => k_is)
    (case aMt => k_is)
    (case lMt => k_is)
    (case cMt => k_is)
    (case kMt => k_is)
    (case aTurns => k_is)
    (case lTurns => k_is)
    (case cTurns => k_is)
    (case kTurns => k_is)
    (case aBestS => k_is)
    (case lBestS => k_is)
    (case cBestS => k_is)
    (case kBestS => k_is)
    (case aChg => k_is)
    (case lChg => k_is)
    (case cChg => k_is)
    (case kChg => k_is)
    (case aMostS => k_is)
    (case lMostS => k_is)
    (case cMostS => k_is)
    (case kMostS => k_is)
    (case aPut => k_is)
    (case lPut => k_is)
    (case cPut => k_is)
    (case kPut => k_is)
    (case aJoin => k_is)
    (case lJoin => k_is)
    (case cJoin => k_is)
    (case kJoin => k_is)
    (case aBoth => k_is)
    (case lBoth => k_is)
    (case cBoth => k_is)
    (case kBoth => k_is)
    (case aWo => k_is)
    (case lWo => k_is)
    (case cWo => k_is)
    (case kWo => k_is)
    (case aTot => k_is)
    (case lTot => k_is)
    (case cTot => k_is)
    (case kTot => k_is)
    (case aTold => k_is)
    (case lTold => k_is)
    (case cTold => k_is)
    (case kTold => k_is)
    (case aIs => k_is)
    (case lIs => k_is)
    (case cIs => k_is)
    (case kIs => k_is)
    (case aHas => k_is)
    (case lHas => k_is)
    (case cHas => k_is)
    (case kHas => k_is)
    (case aAnswer => k_is)
    (case lAnswer => k_is)
    (case cAnswer => k_is)
    (case kAnswer => k_is)
    (case aAns => k_is)
    (case lAns => k_is)
    (case cAns => k_is)
    (case kAns => k_is)
    (case vTOLD_AT_MOST => k_is)
    (case vUNFIT => k_is)
    (case vNOBODY => k_is)
    (case vNOT_BUSY => k_is)
    (case vFULL => k_is)
    (case vNO_START => k_is)
    (case vDAY => k_is)
    (case vMOMENTS => k_is)
    (case vFIRST_DAY => k_is)
    (case vLAST_DAY => k_is)
    (case vAHEAD_AT_MOST => k_is)
    (case vPEOPLE_AT_MOST => k_is)
    (case vBUSY_AT_MOST => k_is)
    (case vPERSON => k_is)
    (case vHOURS => k_is)
    (case vOFF => k_is)
    (case vBUSY => k_is)
    (case vDROP => k_is)
    (case vSURE => k_is)
    (case vFREE => k_is)
    (case vCOMMON => k_is)
    (case vFIRST => k_is)
    (case vBEST => k_is)
    (case vMOST => k_is)
    (case vAT => k_is)
    (case zlen => k_is)
    (case zmin => k_is)
    (case zmax => k_is)
    (case zsum => k_is)
    (case zrange => k_is)
    (case zset => k_is)
    (case zsorted => k_is)
    (case aHD => k_is)
    (case lHD => k_is)
    (case nDP => decide)
    (case nDE => decide)
    (case nPE => decide)
  case S =>
    intro K H xs a hO hwi hask hx
    cases hx with
    | cons h1 h2 =>
      cases h2
      cases h1 with
      | lst hs ha =>
        have e := L2.ints_dw a.1 _ ha
        subst e
        exact ⟨_, a.1, rfl, hs, hask, fun H' p hp => .lst (L2.SqL.of hp) (L2.dw_ints _)⟩
