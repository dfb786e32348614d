import PyProof.Rows.All
import Wide.All
import OpenK.AllK
import Wide.FinOn
import Kg93Spec
import PyKg93
import Open.SpecLaws
import KE.OsGo
import HandS.ForSpec
import HandS.ForMost
import HandS.IsInst
import HandS.Codes
import HandS.Walk
import HandS.CallLocal
import HandS.Flow
import HandS.More
import KE.DataFind
import HandS.HeadHook2
import KE.RegKIsAll
import PySem.Challenge.RW_letgostore_s01_answers
set_option autoImplicit false
/-! Plain facts of the specification's states: cells by their number, and what holds in every state that calls come to. -/
namespace Gc
open Kg93

/-! ### cells by number -/
theorem at_map {l : List Cell} (f : Cell → Cell) (hf : ∀ c, (f c).id = c.id) (i : Nat) :
    (l.map f).find? (fun c => c.id == i) = (l.find? (fun c => c.id == i)).map f := by
  induction l with
  | nil => rfl
  | cons c l ih =>
    simp only [List.map_cons, List.find?_cons, hf]
    cases h : (c.id == i) <;> simp [ih]

theorem at_mem {l : List Cell} {i : Nat} {c : Cell} (h : l.find? (fun c => c.id == i) = some c) : c ∈ l ∧ c.id = i :=
  ⟨List.mem_of_find?_eq_some h, by have := List.find?_some h; simpa using this⟩

def Sorted (l : List Cell) : Prop := l.Pairwise fun a b => a.id < b.id

theorem Sorted.uniq {l : List Cell} (h : Sorted l) {a b : Cell} (ha : a ∈ l) (hb : b ∈ l) (e : a.id = b.id) : a = b := by
  induction l with
  | nil => cases ha
  | cons c l ih =>
    rw [Sorted, List.pairwise_cons] at h
    rcases List.mem_cons.mp ha with rfl | ha' <;> rcases List.mem_cons.mp hb with rfl | hb'
    · rfl
    · have := h.1 b hb'; omega
    · have := h.1 a ha'; omega
    · exact ih h.2 ha' hb'

theorem Sorted.at {l : List Cell} (h : Sorted l) {c : Cell} (hc : c ∈ l) : l.find? (fun d => d.id == c.id) = some c := by
  cases e : l.find? (fun d => d.id == c.id) with
  | none => 
    have := List.find?_eq_none.mp e c hc
    simp at this
  | some d =>
    obtain ⟨h1, h2⟩ := at_mem e
    rw [h.uniq h1 hc h2]

theorem Sorted.at_iff {l : List Cell} (h : Sorted l) {i : Nat} {c : Cell} : l.find? (fun d => d.id == i) = some c ↔ c ∈ l ∧ c.id = i := by
  constructor
  · exact at_mem
  · rintro ⟨h1, rfl⟩
    exact h.at h1

theorem Sorted.map {l : List Cell} (h : Sorted l) (f : Cell → Cell) (hf : ∀ c, (f c).id = c.id) : Sorted (l.map f) := by
  rw [Sorted, List.pairwise_map]
  simp only [hf]
  exact h

theorem Sorted.filter {l : List Cell} (h : Sorted l) (p : Cell → Bool) : Sorted (l.filter p) := List.Pairwise.filter p h

theorem Sorted.at_filter {l : List Cell} (h : Sorted l) (p : Cell → Bool) (i : Nat) :
    (l.filter p).find? (fun c => c.id == i) = (l.find? (fun c => c.id == i)).filter p := by
  apply Option.ext
  intro c
  rw [(h.filter p).at_iff, Option.filter_eq_some_iff, h.at_iff, List.mem_filter]
  constructor
  · rintro ⟨⟨a, b⟩, c⟩; exact ⟨⟨a, c⟩, b⟩
  · rintro ⟨⟨a, b⟩, c⟩; exact ⟨⟨a, c⟩, b⟩

/-! ### what holds in every state -/
/-- a cell that the sweep will not let go -/
def Safe (s : State) (c : Cell) : Prop := c.old = false ∨ match s.phase with
  | .sweep n => c.id < n ∨ c.colour ≠ .white
  | _ => True
instance (s : State) (c : Cell) : Decidable (Safe s c) := by
  unfold Safe
  cases s.phase <;> exact inferInstance
def SafeId (s : State) (i : Nat) : Prop := ∃ c ∈ s.cells, c.id = i ∧ Safe s c
def Alive (s : State) (i : Nat) : Prop := ∃ c ∈ s.cells, c.id = i
def Shape (c : Cell) : Prop := match c.kind with
  | .plain => c.fields.length ≤ 6
  | .weak => c.fields = [.none_] ∨ ∃ t, c.fields = [.cell t]
  | .keyed => c.fields = [.none_, .none_] ∨ ∃ k v, c.fields = [.cell k, v]
/-- D: the numbers of cells that a sweep has let go -/
structure Good (s : State) (D : List Nat) : Prop where
  sorted : Sorted s.cells
  lt : ∀ c ∈ s.cells, c.id < s.made
  dlt : ∀ i ∈ D, i < s.made
  nd : ∀ c ∈ s.cells, c.id ∉ D
  v16 : s.vars.length = 16
  vars : ∀ i, V.cell i ∈ s.vars → SafeId s i
  flds : ∀ c ∈ s.cells, Safe s c → ∀ i, V.cell i ∈ c.fields → SafeId s i
  dang : ∀ c ∈ s.cells, ∀ i, V.cell i ∈ c.fields → Alive s i ∨ i ∈ D
  shape : ∀ c ∈ s.cells, Shape c
  rem : ∀ c ∈ s.cells, c.old = true → c.kind = .plain → ∀ d ∈ s.cells, d.old = false → V.cell d.id ∈ c.fields → c.id ∈ s.remembered
  remNd : s.remembered.Nodup
  remOk : ∀ i ∈ s.remembered, ∃ c ∈ s.cells, c.id = i ∧ c.old = true ∧ c.kind = .plain
  white : ∀ c ∈ s.cells, c.old = true → (match s.phase with | .rest => True | .mark => False | .sweep n => c.id < n) → c.colour = .white
  tri : s.phase = .mark → ∀ c ∈ s.cells, c.old = true → c.colour = .black → c.kind = .plain → ∀ d ∈ s.cells, d.old = true → d.colour = .white → V.cell d.id ∉ c.fields

theorem Good.at_iff {s : State} {D : List Nat} (h : Good s D) {i : Nat} {c : Cell} : s.at_ i = some c ↔ c ∈ s.cells ∧ c.id = i := h.sorted.at_iff
theorem Good.young {s : State} {D : List Nat} (h : Good s D) {c : Cell} (hc : c ∈ s.cells) : s.isYoung c.id = !c.old := by
  unfold State.isYoung
  rw [h.at_iff.mpr ⟨hc, rfl⟩]
  rfl
theorem Good.isWhite {s : State} {D : List Nat} (h : Good s D) {c : Cell} (hc : c ∈ s.cells) : s.isWhite c.id = (c.old && c.colour == .white) := by
  unfold State.isWhite
  rw [h.at_iff.mpr ⟨hc, rfl⟩]
  rfl
theorem isYoung_iff {s : State} {D : List Nat} (h : Good s D) {i : Nat} : s.isYoung i = true ↔ ∃ c ∈ s.cells, c.id = i ∧ c.old = false := by
  unfold State.isYoung
  rw [Option.any_eq_true]
  constructor
  · rintro ⟨c, h1, h2⟩
    obtain ⟨a, b⟩ := h.at_iff.mp h1
    exact ⟨c, a, b, by simpa using h2⟩
  · rintro ⟨c, a, b, o⟩
    exact ⟨c, h.at_iff.mpr ⟨a, b⟩, by simp [o]⟩
theorem isWhite_iff {s : State} {D : List Nat} (h : Good s D) {i : Nat} : s.isWhite i = true ↔ ∃ c ∈ s.cells, c.id = i ∧ c.old = true ∧ c.colour = .white := by
  unfold State.isWhite
  rw [Option.any_eq_true]
  constructor
  · rintro ⟨c, h1, h2⟩
    obtain ⟨a, b⟩ := h.at_iff.mp h1
    exact ⟨c, a, b, by simpa using h2⟩
  · rintro ⟨c, a, b, o⟩
    exact ⟨c, h.at_iff.mpr ⟨a, b⟩, by simp [o]⟩
theorem idsOf_mem {l : List V} {i : Nat} : i ∈ idsOf l ↔ V.cell i ∈ l := by
  unfold idsOf
  rw [List.mem_filterMap]
  constructor
  · rintro ⟨v, h1, h2⟩
    cases v <;> simp [V.id?] at h2
    subst h2; exact h1
  · intro h
    exact ⟨_, h, rfl⟩
theorem keeps_mem {c : Cell} {i : Nat} : i ∈ c.keeps ↔ c.kind = .plain ∧ V.cell i ∈ c.fields := by
  unfold Cell.keeps
  by_cases h : c.kind = .plain
  · simp [h, idsOf_mem]
  · simp [h]
theorem addAll_mem {l m : List Nat} {i : Nat} : i ∈ addAll l m ↔ i ∈ l ∨ i ∈ m := by
  unfold addAll
  induction m generalizing l with
  | nil => simp
  | cons x m ih =>
    rw [List.foldl_cons, ih]
    by_cases h : l.contains x = true
    · rw [if_pos h]
      have : x ∈ l := by simpa using h
      simp only [List.mem_cons]
      constructor
      · rintro (a | a)
        · exact .inl a
        · exact .inr (.inr a)
      · rintro (a | rfl | a)
        · exact .inl a
        · exact .inl this
        · exact .inr a
    · rw [if_neg h]
      simp only [List.mem_append, List.mem_cons, List.not_mem_nil, or_false]
      constructor
      · rintro ((a | a) | a)
        · exact .inl a
        · exact .inr (.inl a)
        · exact .inr (.inr a)
      · rintro (a | a | a)
        · exact .inl (.inl a)
        · exact .inl (.inr a)
        · exact .inr a
theorem addAll_nodup {l m : List Nat} (h : l.Nodup) : (addAll l m).Nodup := by
  unfold addAll
  induction m generalizing l with
  | nil => simpa
  | cons x m ih =>
    rw [List.foldl_cons]
    apply ih
    by_cases hx : l.contains x = true
    · rw [if_pos hx]; exact h
    · rw [if_neg hx, List.nodup_append]
      refine ⟨h, by simp, ?_⟩
      intro a ha b hb e
      simp at hb hx
      subst hb e
      exact hx ha
end Gc
set_option autoImplicit false
/-! What a round of the young keeps: the specification's list is the least set. -/
namespace Gc
open Kg93

theorem nodup_len {α : Type} [BEq α] [LawfulBEq α] : ∀ {l m : List α}, l.Nodup → (∀ x ∈ l, x ∈ m) → l.length ≤ m.length
  | [], _, _, _ => Nat.zero_le _
  | x :: l, m, h, hs => by
    rw [List.nodup_cons] at h
    have hx : x ∈ m := hs x (List.mem_cons_self ..)
    have h2 : l.length ≤ (m.erase x).length := nodup_len h.2 fun y hy => by
      have hne : y ≠ x := fun e => h.1 (e ▸ hy)
      exact (List.mem_erase_of_ne hne).mpr (hs y (List.mem_cons_of_mem _ hy))
    have h3 := List.length_erase_of_mem hx
    have h4 : 0 < m.length := List.length_pos_of_mem hx
    simp only [List.length_cons]
    omega
theorem full_of_len {l m : List Nat} (h : l.Nodup) (hs : ∀ x ∈ l, x ∈ m) (hl : m.length ≤ l.length) : ∀ x ∈ m, x ∈ l := by
  intro x hx
  apply Classical.byContradiction
  intro hn
  have : (x :: l).length ≤ m.length := nodup_len (List.nodup_cons.mpr ⟨hn, h⟩) fun y hy => by
    rcases List.mem_cons.mp hy with rfl | hy
    · exact hx
    · exact hs y hy
  simp only [List.length_cons] at this
  omega
theorem addAll_self {l m : List Nat} (h : ∀ x ∈ m, x ∈ l) : addAll l m = l := by
  unfold addAll
  induction m with
  | nil => rfl
  | cons x m ih =>
    rw [List.foldl_cons, if_pos (by simpa using h x (List.mem_cons_self ..))]
    exact ih fun y hy => h y (List.mem_cons_of_mem _ hy)
theorem addAll_le {l m : List Nat} : l.length ≤ (addAll l m).length := by
  unfold addAll
  induction m generalizing l with
  | nil => exact Nat.le_refl _
  | cons x m ih =>
    rw [List.foldl_cons]
    refine Nat.le_trans ?_ ih
    by_cases hx : l.contains x = true
    · rw [if_pos hx]; exact Nat.le_refl _
    · rw [if_neg hx]; simp
theorem addAll_grows {l m : List Nat} (hn : l.Nodup) (h : ¬ ∀ x ∈ m, x ∈ l) : l.length < (addAll l m).length := by
  apply Classical.byContradiction
  intro hl
  apply h
  intro x hx
  exact full_of_len hn (fun y hy => addAll_mem.mpr (.inl hy)) (by omega) x (addAll_mem.mpr (.inr hx))
/-- the least set that the document tells -/
inductive Kept (s : State) : Nat → Prop where
  | var {i : Nat} (h : V.cell i ∈ s.vars) (y : s.isYoung i = true) : Kept s i
  | rem {c : Cell} {i : Nat} (hc : c ∈ s.cells) (o : c.old = true) (r : c.id ∈ s.remembered) (p : c.kind = .plain) (h : V.cell i ∈ c.fields) (y : s.isYoung i = true) : Kept s i
  | plain {c : Cell} {i : Nat} (hc : c ∈ s.cells) (o : c.old = false) (k : Kept s c.id) (p : c.kind = .plain) (h : V.cell i ∈ c.fields) (y : s.isYoung i = true) : Kept s i
  | valO {c : Cell} {j i : Nat} (hc : c ∈ s.cells) (o : c.old = true) (p : c.kind = .keyed) (h : c.fields = [.cell j, .cell i]) (k : s.isYoung j = true → Kept s j) (y : s.isYoung i = true) : Kept s i
  | valY {c : Cell} {j i : Nat} (hc : c ∈ s.cells) (o : Kept s c.id) (p : c.kind = .keyed) (h : c.fields = [.cell j, .cell i]) (k : s.isYoung j = true → Kept s j) (y : s.isYoung i = true) : Kept s i
theorem Kept.young {s : State} {i : Nat} (h : Kept s i) : s.isYoung i = true := by
  cases h <;> assumption
theorem pair_some {c : Cell} {j : Nat} {v : V} : c.pair = some (j, v) ↔ c.kind = .keyed ∧ c.fields = [.cell j, v] := by
  unfold Cell.pair
  constructor
  · intro h
    split at h
    · next k v' h1 h2 => simp at h; obtain ⟨rfl, rfl⟩ := h; exact ⟨h1, h2⟩
    · cases h
  · rintro ⟨h1, h2⟩
    rw [h1, h2]
/-- what one step adds -/
def news (s : State) (l : List Nat) : List Nat :=
  let kept (i : Nat) : Bool := l.contains i || !s.isYoung i
  let more := (s.young.filter fun c => l.contains c.id).flatMap Cell.keeps
  let values := (s.cells.filter fun c => c.old || l.contains c.id).flatMap fun c => match c.pair with
    | some (k, .cell v) => if kept k = true then [v] else []
    | _ => []
  (more ++ values).filter s.isYoung
theorem keepMore_eq (s : State) (l : List Nat) : keepMore s l = addAll l (news s l) := rfl
theorem news_mem {s : State} {l : List Nat} {i : Nat} : i ∈ news s l ↔ s.isYoung i = true ∧
    ((∃ c ∈ s.cells, c.old = false ∧ c.id ∈ l ∧ c.kind = .plain ∧ V.cell i ∈ c.fields) ∨
     (∃ c ∈ s.cells, (c.old = true ∨ c.id ∈ l) ∧ c.kind = .keyed ∧ ∃ j, c.fields = [.cell j, .cell i] ∧ (s.isYoung j = true → j ∈ l))) := by
  unfold news
  simp only [List.mem_filter, List.mem_append, List.mem_flatMap, State.young]
  constructor
  · rintro ⟨h | h, y⟩
    · obtain ⟨c, ⟨⟨hc, ho⟩, hl⟩, hk⟩ := h
      rw [keeps_mem] at hk
      exact ⟨y, .inl ⟨c, hc, by simpa using ho, by simpa using hl, hk.1, hk.2⟩⟩
    · obtain ⟨c, ⟨hc, ho⟩, hk⟩ := h
      refine ⟨y, .inr ⟨c, hc, by simpa using ho, ?_⟩⟩
      split at hk
      · next k v hp =>
        obtain ⟨a, b⟩ := pair_some.mp hp
        split at hk
        · next hc2 =>
          simp at hk
          subst hk
          refine ⟨a, k, b, fun hy => ?_⟩
          rw [hy] at hc2
          simpa using hc2
        · cases hk
      · cases hk
  · rintro ⟨y, ⟨c, hc, ho, hl, hp, hf⟩ | ⟨c, hc, ho, hp, j, hf, hj⟩⟩
    · exact ⟨.inl ⟨c, ⟨⟨hc, by simpa using ho⟩, by simpa using hl⟩, keeps_mem.mpr ⟨hp, hf⟩⟩, y⟩
    · refine ⟨.inr ⟨c, ⟨hc, by simpa using ho⟩, ?_⟩, y⟩
      rw [pair_some.mpr ⟨hp, hf⟩]
      have : (l.contains j || !s.isYoung j) = true := by
        cases e : s.isYoung j
        · simp
        · simpa using hj e
      simp only [this, if_true, List.mem_singleton]
def first (s : State) : List Nat := addAll [] ((idsOf s.vars ++ (s.cells.filter fun c => c.old && s.remembered.contains c.id).flatMap Cell.keeps).filter s.isYoung)
theorem kept_eq (s : State) : s.kept = times (keepMore s) s.young.length (first s) := rfl
theorem first_mem {s : State} {i : Nat} : i ∈ first s ↔ s.isYoung i = true ∧ (V.cell i ∈ s.vars ∨ ∃ c ∈ s.cells, c.old = true ∧ c.id ∈ s.remembered ∧ c.kind = .plain ∧ V.cell i ∈ c.fields) := by
  unfold first
  rw [addAll_mem]
  simp only [List.mem_filter, List.mem_append, List.mem_flatMap, idsOf_mem, keeps_mem, List.not_mem_nil, false_or, Bool.and_eq_true, List.contains_iff_mem]
  constructor
  · rintro ⟨h | ⟨c, ⟨a, b, d⟩, e, f⟩, y⟩
    · exact ⟨y, .inl h⟩
    · exact ⟨y, .inr ⟨c, a, b, d, e, f⟩⟩
  · rintro ⟨y, h | ⟨c, a, b, d, e, f⟩⟩
    · exact ⟨.inl h, y⟩
    · exact ⟨.inr ⟨c, ⟨a, b, d⟩, e, f⟩, y⟩
theorem times_fix {α : Type} {f : α → α} {x : α} (h : f x = x) : ∀ n, times f n x = x
  | 0 => rfl
  | n + 1 => by
    show times f n (f x) = x
    rw [h]
    exact times_fix h n
theorem times_ind {α : Type} {f : α → α} {P : α → Prop} (h : ∀ x, P x → P (f x)) : ∀ n x, P x → P (times f n x)
  | 0, _, hx => hx
  | n + 1, x, hx => times_ind h n (f x) (h x hx)
def youngIds (s : State) : List Nat := s.young.map (·.id)
theorem youngIds_mem {s : State} {D : List Nat} (g : Good s D) {i : Nat} : i ∈ youngIds s ↔ s.isYoung i = true := by
  rw [isYoung_iff g]
  unfold youngIds State.young
  simp only [List.mem_map, List.mem_filter]
  constructor
  · rintro ⟨c, ⟨a, b⟩, e⟩; exact ⟨c, a, e, by simpa using b⟩
  · rintro ⟨c, a, e, b⟩; exact ⟨c, ⟨a, by simpa using b⟩, e⟩
theorem stable {s : State} {D : List Nat} (g : Good s D) : ∀ n x, x.Nodup → (∀ i ∈ x, s.isYoung i = true) → (youngIds s).length ≤ x.length + n → ∀ i ∈ news s (times (keepMore s) n x), i ∈ times (keepMore s) n x
  | 0, x, hn, hy, hl => by
    intro i hi
    exact full_of_len hn (fun y h => (youngIds_mem g).mpr (hy y h)) hl i ((youngIds_mem g).mpr (news_mem.mp hi).1)
  | n + 1, x, hn, hy, hl => by
    show ∀ i ∈ news s (times (keepMore s) n (keepMore s x)), i ∈ times (keepMore s) n (keepMore s x)
    by_cases h : ∀ i ∈ news s x, i ∈ x
    · have e : keepMore s x = x := addAll_self h
      rw [e, times_fix e]
      exact h
    · have := addAll_grows hn h
      refine stable g n _ (addAll_nodup hn) (fun i hi => ?_) ?_
      · rcases addAll_mem.mp hi with h | h
        · exact hy i h
        · exact (news_mem.mp h).1
      · rw [keepMore_eq]; omega
theorem first_nodup (s : State) : (first s).Nodup := addAll_nodup List.nodup_nil
theorem kept_closed {s : State} {D : List Nat} (g : Good s D) : ∀ i ∈ news s s.kept, i ∈ s.kept := by
  rw [kept_eq]
  refine stable g _ _ (first_nodup s) (fun i hi => (first_mem.mp hi).1) ?_
  unfold youngIds
  rw [List.length_map]
  omega
theorem times_sub {s : State} : ∀ (n : Nat) (x : List Nat) (i : Nat), i ∈ x → i ∈ times (keepMore s) n x
  | 0, _, _, h => h
  | n + 1, x, i, h => times_sub n _ i (addAll_mem.mpr (.inl h))
/-- **the specification's list is the least set** -/
theorem kept_iff {s : State} {D : List Nat} (g : Good s D) {i : Nat} : i ∈ s.kept ↔ Kept s i := by
  constructor
  · rw [kept_eq]
    refine fun h => times_ind (P := fun l => ∀ i ∈ l, Kept s i) ?_ _ _ ?_ i h
    · intro l hl i hi
      rw [keepMore_eq] at hi
      rcases addAll_mem.mp hi with h | h
      · exact hl i h
      · obtain ⟨y, ⟨c, hc, ho, hcl, hp, hf⟩ | ⟨c, hc, ho, hp, j, hf, hj⟩⟩ := news_mem.mp h
        · exact .plain hc ho (hl _ hcl) hp hf y
        · rcases ho with ho | ho
          · exact .valO hc ho hp hf (fun y => hl _ (hj y)) y
          · exact .valY hc (hl _ ho) hp hf (fun y => hl _ (hj y)) y
    · intro i hi
      obtain ⟨y, h | ⟨c, a, b, d, e, f⟩⟩ := first_mem.mp hi
      · exact .var h y
      · exact .rem a b d e f y
  · intro h
    induction h with
    | var h y => exact times_sub _ _ _ (first_mem.mpr ⟨y, .inl h⟩)
    | rem hc o r p h y => exact times_sub _ _ _ (first_mem.mpr ⟨y, .inr ⟨_, hc, o, r, p, h⟩⟩)
    | plain hc o k p h y ih => exact kept_closed g _ (news_mem.mpr ⟨y, .inl ⟨_, hc, o, ih, p, h⟩⟩)
    | valO hc o p h k y ih => exact kept_closed g _ (news_mem.mpr ⟨y, .inr ⟨_, hc, .inl o, p, _, h, ih⟩⟩)
    | valY hc o p h k y ih1 ih2 => exact kept_closed g _ (news_mem.mpr ⟨y, .inr ⟨_, hc, .inr ih1, p, _, h, ih2⟩⟩)
end Gc
set_option autoImplicit false
/-! What holds in every state stays: through every call of the specification. -/
namespace Gc
open Kg93

theorem safeId_of {s : State} {D : List Nat} (g : Good s D) {c : Cell} (hc : c ∈ s.cells) (h : SafeId s c.id) : Safe s c := by
  obtain ⟨d, hd, e, h⟩ := h
  rw [← g.sorted.uniq hd hc e]
  exact h
theorem SafeId.alive {s : State} {i : Nat} (h : SafeId s i) : Alive s i := by
  obtain ⟨c, a, b, _⟩ := h
  exact ⟨c, a, b⟩
theorem init_good : Good init [] where
  sorted := List.Pairwise.nil
  lt := fun c h => nomatch h
  dlt := fun i h => nomatch h
  nd := fun c h => nomatch h
  v16 := rfl
  vars := fun i h => by
    have : V.cell i = V.none_ := List.eq_of_mem_replicate h
    cases this
  flds := fun c h => nomatch h
  dang := fun c h => nomatch h
  shape := fun c h => nomatch h
  rem := fun c h => nomatch h
  remNd := List.nodup_nil
  remOk := fun i h => nomatch h
  white := fun c h => nomatch h
  tri := fun h => by cases h
/-- cells changed each in its place -/
theorem Good.of_map {s t : State} {D : List Nat} (g : Good s D) (f : Cell → Cell) (hid : ∀ c, (f c).id = c.id) (hc : t.cells = s.cells.map f) (hm : t.made = s.made) (v16 : t.vars.length = 16)
    (vars : ∀ i, V.cell i ∈ t.vars → SafeId t i)
    (flds : ∀ c ∈ s.cells, Safe t (f c) → ∀ i, V.cell i ∈ (f c).fields → SafeId t i)
    (dang : ∀ c ∈ s.cells, ∀ i, V.cell i ∈ (f c).fields → Alive s i ∨ i ∈ D)
    (shape : ∀ c ∈ s.cells, Shape (f c))
    (rem : ∀ c ∈ s.cells, (f c).old = true → (f c).kind = .plain → ∀ d ∈ s.cells, (f d).old = false → V.cell d.id ∈ (f c).fields → c.id ∈ t.remembered)
    (remNd : t.remembered.Nodup)
    (remOk : ∀ i ∈ t.remembered, ∃ c ∈ s.cells, c.id = i ∧ (f c).old = true ∧ (f c).kind = .plain)
    (white : ∀ c ∈ s.cells, (f c).old = true → (match t.phase with | .rest => True | .mark => False | .sweep n => c.id < n) → (f c).colour = .white)
    (tri : t.phase = .mark → ∀ c ∈ s.cells, (f c).old = true → (f c).colour = .black → (f c).kind = .plain → ∀ d ∈ s.cells, (f d).old = true → (f d).colour = .white → V.cell d.id ∉ (f c).fields) : Good t D := by
  have hmem : ∀ d, d ∈ t.cells ↔ ∃ c ∈ s.cells, f c = d := by
    intro d
    rw [hc, List.mem_map]
  have hal : ∀ i, Alive s i → Alive t i := by
    rintro i ⟨c, a, b⟩
    exact ⟨f c, (hmem _).mpr ⟨c, a, rfl⟩, (hid c).trans b⟩
  constructor
  · rw [hc]; exact g.sorted.map f hid
  · intro d hd
    obtain ⟨c, a, rfl⟩ := (hmem d).mp hd
    rw [hid, hm]; exact g.lt c a
  · rw [hm]; exact g.dlt
  · intro d hd
    obtain ⟨c, a, rfl⟩ := (hmem d).mp hd
    rw [hid]; exact g.nd c a
  · exact v16
  · exact vars
  · intro d hd hs i hi
    obtain ⟨c, a, rfl⟩ := (hmem d).mp hd
    exact flds c a hs i hi
  · intro d hd i hi
    obtain ⟨c, a, rfl⟩ := (hmem d).mp hd
    exact (dang c a i hi).imp (hal i) id
  · intro d hd
    obtain ⟨c, a, rfl⟩ := (hmem d).mp hd
    exact shape c a
  · intro d hd ho hp e he hy hf
    obtain ⟨c, a, rfl⟩ := (hmem d).mp hd
    obtain ⟨c2, a2, rfl⟩ := (hmem e).mp he
    rw [hid] at hf ⊢
    exact rem c a ho hp c2 a2 hy hf
  · exact remNd
  · intro i hi
    obtain ⟨c, a, b, p⟩ := remOk i hi
    exact ⟨f c, (hmem _).mpr ⟨c, a, rfl⟩, (hid c).trans b, p⟩
  · intro d hd ho hp
    obtain ⟨c, a, rfl⟩ := (hmem d).mp hd
    rw [hid] at hp
    exact white c a ho hp
  · intro hp d hd ho hb hk e he h1 h2 h3
    obtain ⟨c, a, rfl⟩ := (hmem d).mp hd
    obtain ⟨c2, a2, rfl⟩ := (hmem e).mp he
    rw [hid] at h3
    exact tri hp c a ho hb hk c2 a2 h1 h2 h3
theorem Safe.mono {s t : State} {c d : Cell} (h : Safe s c) (hp : t.phase = s.phase) (hi : d.id = c.id) (ho : d.old = true → c.old = true) (hw : d.old = true → d.colour = .white → c.colour = .white) : Safe t d := by
  unfold Safe at h ⊢
  rw [hp, hi]
  by_cases o : d.old = false
  · exact .inl o
  · have o' : d.old = true := by simpa using o
    rcases h with h | h
    · rw [ho o'] at h; cases h
    · right
      cases e : s.phase with
      | rest => trivial
      | mark => trivial
      | sweep n =>
        rw [e] at h
        rcases h with h | h
        · exact .inl h
        · exact .inr fun z => h (hw o' z)
theorem SafeId.map {s t : State} {i : Nat} (h : SafeId s i) {f : Cell → Cell} (hid : ∀ c, (f c).id = c.id) (hc : t.cells = s.cells.map f) (hs : ∀ c ∈ s.cells, Safe s c → Safe t (f c)) : SafeId t i := by
  obtain ⟨c, a, b, d⟩ := h
  exact ⟨f c, by rw [hc]; exact List.mem_map_of_mem a, (hid c).trans b, hs c a d⟩
/-! ### variables -/
theorem Good.setVar {s : State} {D : List Nat} (g : Good s D) {v : Nat} {x : V} (h : ∀ i, x = .cell i → SafeId s i) : Good (s.setVar v x) D :=
  { g with
    v16 := by
      show (s.vars.set v x).length = 16
      rw [List.length_set]; exact g.v16
    vars := fun i hi => by
      rcases List.mem_or_eq_of_mem_set hi with h1 | h1
      · exact g.vars i h1
      · exact h i h1.symm }
theorem Good.var_safe {s : State} {D : List Nat} (g : Good s D) {u i : Nat} (h : s.var u = .cell i) : SafeId s i := by
  unfold State.var at h
  rw [List.getD_eq_getElem?_getD] at h
  cases e : s.vars[u]? with
  | none => rw [e] at h; cases h
  | some x =>
    rw [e] at h
    have h' : x = .cell i := h
    subst h'
    exact g.vars i (List.mem_of_getElem? e)
theorem Good.of_some {s : State} {D : List Nat} (g : Good s D) {u : Nat} {c : Cell} (h : s.of u = some c) : c ∈ s.cells ∧ Safe s c ∧ s.var u = .cell c.id := by
  unfold State.of at h
  split at h
  · next i hv =>
    obtain ⟨a, b⟩ := g.at_iff.mp h
    subst b
    exact ⟨a, safeId_of g a (g.var_safe hv), hv⟩
  · cases h
theorem Good.of_cell {s : State} {D : List Nat} (g : Good s D) {u i : Nat} (h : s.var u = .cell i) : ∃ c, s.of u = some c ∧ c ∈ s.cells ∧ c.id = i ∧ Safe s c := by
  obtain ⟨c, a, b, d⟩ := g.var_safe h
  refine ⟨c, ?_, a, b, d⟩
  unfold State.of
  rw [h]
  exact g.at_iff.mpr ⟨a, b⟩
/-! ### a last word -/
theorem Good.word {s : State} {D : List Nat} (g : Good s D) {c : Cell} (hc : c ∈ s.cells) (z : Option Int) : Good (s.put { c with word := z }) D := by
  let f : Cell → Cell := fun d => if d.id = c.id then { c with word := z } else d
  have key : ∀ d ∈ s.cells, f d = { d with word := if d.id = c.id then z else d.word } := by
    intro d hd
    show (if d.id = c.id then { c with word := z } else d) = _
    by_cases e : d.id = c.id
    · rw [if_pos e, if_pos e, g.sorted.uniq hd hc e]
    · rw [if_neg e, if_neg e]
  have hid : ∀ d, (f d).id = d.id := by
    intro d
    show (if d.id = c.id then { c with word := z } else d).id = d.id
    by_cases e : d.id = c.id
    · rw [if_pos e]; exact e.symm
    · rw [if_neg e]
  have hs : ∀ d ∈ s.cells, Safe s d → Safe (s.put { c with word := z }) (f d) := by
    intro d hd h
    rw [key d hd]
    exact h.mono rfl rfl id (fun _ => id)
  refine g.of_map f hid rfl rfl g.v16 (fun i hi => (g.vars i hi).map hid rfl hs) ?_ ?_ ?_ ?_ g.remNd ?_ ?_ ?_
  · intro d hd h i hi
    rw [key d hd] at h hi
    exact (g.flds d hd (Safe.mono h rfl rfl id (fun _ => id)) i hi).map hid rfl hs
  · intro d hd i hi
    rw [key d hd] at hi
    exact g.dang d hd i hi
  · intro d hd
    rw [key d hd]
    exact g.shape d hd
  · intro d hd ho hp e he hy hf
    rw [key d hd] at ho hp hf
    rw [key e he] at hy
    exact g.rem d hd ho hp e he hy hf
  · intro i hi
    obtain ⟨d, a, b, p, q⟩ := g.remOk i hi
    refine ⟨d, a, b, ?_⟩
    rw [key d a]
    exact ⟨p, q⟩
  · intro d hd ho hp
    rw [key d hd] at ho ⊢
    exact g.white d hd ho hp
  · intro hp d hd ho hb hk e he h1 h2 h3
    rw [key d hd] at ho hb hk h3
    rw [key e he] at h1 h2
    exact g.tri hp d hd ho hb hk e he h1 h2 h3
end Gc
set_option autoImplicit false
namespace Gc
open Kg93
/-! ### a new cell -/
theorem Good.make {s : State} {D : List Nat} (g : Good s D) {v : Nat} {k : Kind} {fs : List V} (hf : ∀ i, V.cell i ∈ fs → SafeId s i) (hsh : Shape ⟨s.made, k, fs, false, false, .white, none⟩) : Good (s.make v k fs) D := by
  let n : Cell := ⟨s.made, k, fs, false, false, .white, none⟩
  have hcells : (s.make v k fs).cells = s.cells ++ [n] := rfl
  have hmem : ∀ d, d ∈ (s.make v k fs).cells ↔ d ∈ s.cells ∨ d = n := by
    intro d
    rw [hcells]
    simp
  have hsafe : ∀ c, Safe (s.make v k fs) c ↔ Safe s c := fun c => Iff.rfl
  have hsi : ∀ i, SafeId s i → SafeId (s.make v k fs) i := by
    rintro i ⟨c, a, b, d⟩
    exact ⟨c, (hmem c).mpr (.inl a), b, d⟩
  have hnew : SafeId (s.make v k fs) s.made := ⟨n, (hmem n).mpr (.inr rfl), rfl, .inl rfl⟩
  have hal : ∀ i, Alive s i → Alive (s.make v k fs) i := by
    rintro i ⟨c, a, b⟩
    exact ⟨c, (hmem c).mpr (.inl a), b⟩
  constructor
  · show List.Pairwise _ (s.cells ++ [n])
    rw [List.pairwise_append]
    refine ⟨g.sorted, List.pairwise_singleton _ _, ?_⟩
    intro a ha b hb
    rw [List.mem_singleton] at hb
    subst hb
    exact g.lt a ha
  · intro d hd
    show d.id < s.made + 1
    rcases (hmem d).mp hd with h | rfl
    · have := g.lt d h; omega
    · exact Nat.lt_succ_self _
  · intro i hi
    have := g.dlt i hi
    show i < s.made + 1
    omega
  · intro d hd
    rcases (hmem d).mp hd with h | rfl
    · exact g.nd d h
    · intro hi
      have := g.dlt _ hi
      have e : n.id = s.made := rfl
      omega
  · show (s.vars.set v _).length = 16
    rw [List.length_set]; exact g.v16
  · intro i hi
    rcases List.mem_or_eq_of_mem_set hi with h1 | h1
    · exact hsi i (g.vars i h1)
    · cases h1; exact hnew
  · intro d hd hs i hi
    rcases (hmem d).mp hd with h | rfl
    · exact hsi i (g.flds d h hs i hi)
    · exact hsi i (hf i hi)
  · intro d hd i hi
    rcases (hmem d).mp hd with h | rfl
    · exact (g.dang d h i hi).imp (hal i) id
    · exact .inl (hal i (hf i hi).alive)
  · intro d hd
    rcases (hmem d).mp hd with h | rfl
    · exact g.shape d h
    · exact hsh
  · intro c hc ho hp d hd hy hfd
    rcases (hmem c).mp hc with h | rfl
    · rcases (hmem d).mp hd with h2 | rfl
      · exact g.rem c h ho hp d h2 hy hfd
      · exfalso
        rcases g.dang c h _ hfd with ⟨e, he, h3⟩ | h3
        · have := g.lt e he
          have e2 : n.id = s.made := rfl
          omega
        · have := g.dlt _ h3
          have e2 : n.id = s.made := rfl
          omega
    · cases ho
  · exact g.remNd
  · intro i hi
    obtain ⟨c, a, b, p⟩ := g.remOk i hi
    exact ⟨c, (hmem c).mpr (.inl a), b, p⟩
  · intro d hd ho hp
    rcases (hmem d).mp hd with h | rfl
    · exact g.white d h ho hp
    · cases ho
  · intro hp c hc ho hb hk d hd h1 h2 h3
    rcases (hmem c).mp hc with h | rfl
    · rcases (hmem d).mp hd with h4 | rfl
      · exact g.tri hp c h ho hb hk d h4 h1 h2 h3
      · cases h1
    · cases ho
/-! ### a round of the young -/
/-- let go by a round of the young -/
def gone (s : State) (i : Nat) : Bool := s.isYoung i && !s.kept.contains i
def leftF (s : State) (c : Cell) : Cell := s.aged (c.without (gone s))
theorem without_id (p : Nat → Bool) (c : Cell) : (c.without p).id = c.id ∧ (c.without p).kind = c.kind ∧ (c.without p).old = c.old ∧ (c.without p).seasoned = c.seasoned ∧ (c.without p).colour = c.colour ∧ (c.without p).word = c.word := by
  unfold Cell.without
  split
  · split <;> exact ⟨rfl, rfl, rfl, rfl, rfl, rfl⟩
  · split <;> exact ⟨rfl, rfl, rfl, rfl, rfl, rfl⟩
  · exact ⟨rfl, rfl, rfl, rfl, rfl, rfl⟩
theorem without_mem {p : Nat → Bool} {c : Cell} {v : V} (h : v ∈ (c.without p).fields) : v ∈ c.fields ∨ v = .none_ := by
  unfold Cell.without at h
  split at h
  · next t hk hf =>
    split at h
    · simp at h; exact .inr h
    · exact .inl h
  · next k v' hk hf =>
    split at h
    · simp at h; exact .inr h
    · exact .inl h
  · exact .inl h
theorem without_cell {p : Nat → Bool} {c : Cell} {i : Nat} (h : V.cell i ∈ (c.without p).fields) : V.cell i ∈ c.fields := by
  rcases without_mem h with h | h
  · exact h
  · cases h
theorem without_plain {p : Nat → Bool} {c : Cell} (h : c.kind = .plain) : c.without p = c := by
  unfold Cell.without
  rw [h]
theorem without_shape {p : Nat → Bool} {c : Cell} (h : Shape c) : Shape (c.without p) := by
  unfold Shape at h ⊢
  rw [(without_id p c).2.1]
  cases e : c.kind with
  | plain => rw [e] at h; rw [without_plain e]; exact h
  | weak =>
    rw [e] at h
    simp only at h ⊢
    unfold Cell.without
    rw [e]
    rcases h with h | ⟨t, h⟩
    · rw [h]; simp [h]
    · rw [h]
      simp only
      split
      · exact .inl rfl
      · exact .inr ⟨t, h⟩
  | keyed =>
    rw [e] at h
    simp only at h ⊢
    unfold Cell.without
    rw [e]
    rcases h with h | ⟨k, v, h⟩
    · rw [h]; simp [h]
    · rw [h]
      simp only
      split
      · exact .inl rfl
      · exact .inr ⟨k, v, h⟩
theorem aged_id (s : State) (c : Cell) : (s.aged c).id = c.id ∧ (s.aged c).kind = c.kind ∧ (s.aged c).fields = c.fields ∧ (s.aged c).word = c.word := by
  unfold State.aged
  split
  · exact ⟨rfl, rfl, rfl, rfl⟩
  · split <;> exact ⟨rfl, rfl, rfl, rfl⟩
theorem aged_old {s : State} {c : Cell} (h : c.old = true) : s.aged c = c := by
  unfold State.aged
  rw [if_pos h]
theorem aged_young {s : State} {c : Cell} (h : c.old = false) : (s.aged c).old = c.seasoned ∧ (c.seasoned = true → (s.aged c).colour = s.newColour c.id) := by
  unfold State.aged
  rw [if_neg (by simp [h])]
  split
  · next hs => exact ⟨hs.symm, fun _ => rfl⟩
  · next hs =>
    refine ⟨?_, fun z => absurd z hs⟩
    show c.old = c.seasoned
    rw [h]; simp at hs; exact hs.symm
theorem leftF_id (s : State) (c : Cell) : (leftF s c).id = c.id := (aged_id s _).1.trans (without_id _ c).1
theorem leftF_kind (s : State) (c : Cell) : (leftF s c).kind = c.kind := (aged_id s _).2.1.trans (without_id _ c).2.1
theorem leftF_fields (s : State) (c : Cell) : (leftF s c).fields = (c.without (gone s)).fields := (aged_id s _).2.2.1
theorem leftF_old {s : State} {c : Cell} (h : c.old = true) : leftF s c = c.without (gone s) := aged_old ((without_id _ c).2.2.1.trans h)
theorem round_cells (s : State) : s.round.1.cells = (s.cells.filter fun c => !gone s c.id).map (leftF s) := rfl
theorem round_phase (s : State) : s.round.1.phase = s.phase := rfl
theorem round_vars (s : State) : s.round.1.vars = s.vars := rfl
theorem round_made (s : State) : s.round.1.made = s.made := rfl
theorem left_mem {s : State} {d : Cell} : d ∈ s.round.1.cells ↔ ∃ c ∈ s.cells, gone s c.id = false ∧ leftF s c = d := by
  rw [round_cells, List.mem_map]
  constructor
  · rintro ⟨c, h, e⟩
    rw [List.mem_filter] at h
    exact ⟨c, h.1, by simpa using h.2, e⟩
  · rintro ⟨c, h, k, e⟩
    exact ⟨c, List.mem_filter.mpr ⟨h, by simpa using k⟩, e⟩
theorem gone_iff {s : State} {D : List Nat} (g : Good s D) {i : Nat} : gone s i = false ↔ (s.isYoung i = true → Kept s i) := by
  unfold gone
  rw [← kept_iff g]
  cases s.isYoung i <;> simp
/-- becoming old keeps a cell safe -/
theorem left_safe {s : State} {D : List Nat} (g : Good s D) {c : Cell} (hc : c ∈ s.cells) (h : Safe s c) : Safe s.round.1 (leftF s c) := by
  unfold Safe at h ⊢
  rw [round_phase, leftF_id]
  by_cases o : c.old = true
  · rw [leftF_old o]
    rcases h with h | h
    · rw [o] at h; cases h
    · right
      rw [(without_id (gone s) c).2.2.2.2.1]
      exact h
  · have o' : c.old = false := by simpa using o
    have o2 : (c.without (gone s)).old = false := (without_id _ c).2.2.1.trans o'
    have ha := aged_young (s := s) o2
    by_cases hs : (c.without (gone s)).seasoned = true
    · right
      have hcol : (leftF s c).colour = s.newColour c.id := by
        have := ha.2 hs
        rw [(without_id (gone s) c).1] at this
        exact this
      unfold State.newColour at hcol
      cases e : s.phase with
      | rest => trivial
      | mark => trivial
      | sweep n =>
        rw [e] at hcol
        simp only at hcol ⊢
        by_cases hn : c.id < n
        · exact .inl hn
        · right; rw [hcol, if_neg hn]; exact fun z => by cases z
    · left
      have : (leftF s c).old = (c.without (gone s)).seasoned := ha.1
      rw [this]
      simpa using hs
end Gc
set_option autoImplicit false
namespace Gc
open Kg93
theorem holders_mem {l : List Cell} {i : Nat} : i ∈ holders l ↔ ∃ c ∈ l, c.id = i ∧ c.old = true ∧ c.kind = .plain ∧ ∃ d ∈ l, d.old = false ∧ V.cell d.id ∈ c.fields := by
  unfold holders
  simp only [List.mem_map, List.mem_filter, Bool.and_eq_true, List.any_eq_true, keeps_mem, beq_iff_eq, Bool.not_eq_true']
  constructor
  · rintro ⟨c, ⟨hc, ho, j, ⟨hk, hj⟩, d, hd, hdj, hdo⟩, e⟩
    exact ⟨c, hc, e, ho, hk, d, hd, hdo, by rw [hdj]; exact hj⟩
  · rintro ⟨c, hc, e, ho, hk, d, hd, hdo, hf⟩
    exact ⟨c, ⟨hc, ho, d.id, ⟨hk, hf⟩, d, hd, rfl, hdo⟩, e⟩
theorem holders_nodup {l : List Cell} (h : Sorted l) : (holders l).Nodup := by
  unfold holders
  have : ((l.filter fun c => c.old && c.keeps.any fun i => l.any fun d => d.id == i && !d.old)).Pairwise (fun a b => a.id < b.id) := h.filter _
  rw [List.Nodup, List.pairwise_map]
  exact this.imp fun h e => by omega
/-- the specification's filter drops nothing -/
theorem round_remembered {s : State} {D : List Nat} (g : Good s D) : s.round.1.remembered = holders s.round.1.cells := by
  show (holders s.round.1.cells).filter (fun i => s.remembered.contains i || s.isYoung i) = _
  rw [List.filter_eq_self]
  intro i hi
  obtain ⟨c', hc', e, ho, hk, d', hd', hdo, hf⟩ := holders_mem.mp hi
  obtain ⟨c, hc, gc, rfl⟩ := left_mem.mp hc'
  obtain ⟨d, hd, gd, rfl⟩ := left_mem.mp hd'
  rw [leftF_id] at e hf
  rw [leftF_kind] at hk
  subst e
  rw [Bool.or_eq_true]
  by_cases o : c.old = true
  · left
    rw [List.contains_iff_mem]
    have hdo' : d.old = false := by
      cases q : d.old with
      | false => rfl
      | true =>
        rw [leftF_old q, (without_id _ d).2.2.1, q] at hdo
        cases hdo
    rw [leftF_fields] at hf
    exact g.rem c hc o hk d hd hdo' (without_cell hf)
  · right
    rw [g.young hc]
    simpa using o
theorem left_fld {s : State} {D : List Nat} (g : Good s D) {c : Cell} (hc : c ∈ s.cells) (hg : gone s c.id = false) {i : Nat} (hi : V.cell i ∈ (leftF s c).fields) : V.cell i ∈ c.fields ∧ gone s i = false := by
  rw [leftF_fields] at hi
  have h1 := without_cell hi
  refine ⟨h1, (gone_iff g).mpr fun hy => ?_⟩
  have hgc := (gone_iff g).mp hg
  have hsh := g.shape c hc
  unfold Shape at hsh
  cases hk : c.kind with
  | plain =>
    by_cases o : c.old = true
    · obtain ⟨d, hd, e, hdo⟩ := (isYoung_iff g).mp hy
      subst e
      exact .rem hc o (g.rem c hc o hk d hd hdo h1) hk h1 hy
    · have o' : c.old = false := by simpa using o
      exact .plain hc o' (hgc (by rw [g.young hc, o']; rfl)) hk h1 hy
  | weak =>
    rw [hk] at hsh
    rcases hsh with h | ⟨t, h⟩
    · rw [h] at h1; simp at h1
    · rw [h] at h1
      simp at h1
      subst h1
      unfold Cell.without at hi
      rw [hk, h] at hi
      simp only at hi
      split at hi
      · simp at hi
      · next hn =>
        have : gone s i = false := by simpa using hn
        exact (gone_iff g).mp this hy
  | keyed =>
    rw [hk] at hsh
    rcases hsh with h | ⟨k, v, h⟩
    · rw [h] at h1; simp at h1
    · unfold Cell.without at hi
      rw [hk, h] at hi
      simp only at hi
      split at hi
      · simp at hi
      · next hn =>
        have gk : gone s k = false := by simpa using hn
        rw [h] at h1
        simp at h1
        rcases h1 with rfl | rfl
        · exact (gone_iff g).mp gk hy
        · by_cases o : c.old = true
          · exact .valO hc o hk h ((gone_iff g).mp gk) hy
          · have o' : c.old = false := by simpa using o
            exact .valY hc (hgc (by rw [g.young hc, o']; rfl)) hk h ((gone_iff g).mp gk) hy
theorem left_old {s : State} {c : Cell} (h : (leftF s c).old = false) : c.old = false := by
  cases q : c.old with
  | false => rfl
  | true =>
    rw [leftF_old q, (without_id _ c).2.2.1, q] at h
    cases h
theorem left_colour_new {s : State} {c : Cell} (h : c.old = false) (h2 : (leftF s c).old = true) : (leftF s c).colour = s.newColour c.id := by
  have o2 : (c.without (gone s)).old = false := (without_id _ c).2.2.1.trans h
  have ha := aged_young (s := s) o2
  have : (leftF s c).old = (c.without (gone s)).seasoned := ha.1
  rw [h2] at this
  have r := ha.2 this.symm
  rw [(without_id (gone s) c).1] at r
  exact r
theorem Good.round {s : State} {D : List Nat} (g : Good s D) : Good s.round.1 D := by
  have hsi : ∀ i, SafeId s i → gone s i = false → SafeId s.round.1 i := by
    rintro i ⟨c, a, b, d⟩ hg
    subst b
    exact ⟨leftF s c, left_mem.mpr ⟨c, a, hg, rfl⟩, leftF_id s c, left_safe g a d⟩
  have hal : ∀ i, Alive s i → gone s i = false → Alive s.round.1 i := by
    rintro i ⟨c, a, b⟩ hg
    subst b
    exact ⟨leftF s c, left_mem.mpr ⟨c, a, hg, rfl⟩, leftF_id s c⟩
  have hsrt : Sorted s.round.1.cells := by
    rw [round_cells]
    exact (g.sorted.filter _).map _ (leftF_id s)
  constructor
  · exact hsrt
  · intro d hd
    obtain ⟨c, a, _, rfl⟩ := left_mem.mp hd
    rw [leftF_id]; exact g.lt c a
  · exact g.dlt
  · intro d hd
    obtain ⟨c, a, _, rfl⟩ := left_mem.mp hd
    rw [leftF_id]; exact g.nd c a
  · exact g.v16
  · intro i hi
    exact hsi i (g.vars i hi) ((gone_iff g).mpr fun hy => .var hi hy)
  · intro d hd hs i hi
    obtain ⟨c, a, hg, rfl⟩ := left_mem.mp hd
    obtain ⟨h1, h2⟩ := left_fld g a hg hi
    refine hsi i (g.flds c a ?_ i h1) h2
    -- a cell that is safe behind the round was safe
    unfold Safe at hs ⊢
    rw [round_phase, leftF_id] at hs
    by_cases o : c.old = true
    · right
      rw [leftF_old o, (without_id (gone s) c).2.2.1, o, (without_id (gone s) c).2.2.2.2.1] at hs
      exact hs.resolve_left (by simp)
    · left; simpa using o
  · intro d hd i hi
    obtain ⟨c, a, hg, rfl⟩ := left_mem.mp hd
    obtain ⟨h1, h2⟩ := left_fld g a hg hi
    exact (g.dang c a i h1).imp (fun h => hal i h h2) id
  · intro d hd
    obtain ⟨c, a, hg, rfl⟩ := left_mem.mp hd
    have h := without_shape (p := gone s) (g.shape c a)
    unfold Shape at h ⊢
    rw [leftF_kind, leftF_fields]
    rw [(without_id (gone s) c).2.1] at h
    exact h
  · intro c hc ho hk d hd hdo hf
    rw [round_remembered g]
    exact holders_mem.mpr ⟨c, hc, rfl, ho, hk, d, hd, hdo, hf⟩
  · rw [round_remembered g]; exact holders_nodup hsrt
  · intro i hi
    rw [round_remembered g] at hi
    obtain ⟨c, a, b, p, q, _⟩ := holders_mem.mp hi
    exact ⟨c, a, b, p, q⟩
  · intro d hd ho hp
    obtain ⟨c, a, hg, rfl⟩ := left_mem.mp hd
    rw [round_phase, leftF_id] at hp
    by_cases o : c.old = true
    · rw [leftF_old o, (without_id (gone s) c).2.2.2.2.1]
      exact g.white c a o hp
    · have o' : c.old = false := by simpa using o
      rw [left_colour_new o' ho]
      unfold State.newColour
      cases e : s.phase with
      | rest => rfl
      | mark => rw [e] at hp; exact hp.elim
      | sweep n =>
        rw [e] at hp
        simp only at hp ⊢
        rw [if_pos hp]
  · intro hp c' hc' ho hb hk d' hd' h1 h2 h3
    obtain ⟨c, a, hg, rfl⟩ := left_mem.mp hc'
    obtain ⟨d, a2, hg2, rfl⟩ := left_mem.mp hd'
    rw [round_phase] at hp
    rw [leftF_id] at h3
    have h4 := (left_fld g a hg h3).1
    rw [leftF_kind] at hk
    have od : d.old = true := by
      cases q : d.old with
      | true => rfl
      | false =>
        have := left_colour_new q h1
        rw [h2] at this
        unfold State.newColour at this
        rw [hp] at this
        cases this
    have oc : c.old = true := by
      cases q : c.old with
      | true => rfl
      | false =>
        have := left_colour_new q ho
        rw [hb] at this
        unfold State.newColour at this
        rw [hp] at this
        cases this
    rw [leftF_old oc, (without_id (gone s) c).2.2.2.2.1] at hb
    rw [leftF_old od, (without_id (gone s) d).2.2.2.2.1] at h2
    exact g.tri hp c a oc hb hk d a2 od h2 h4
/-! ### a field written -/
theorem shade_cells (s : State) (l : List Nat) : (s.shade l).cells = s.cells.map fun c => if c.old = true ∧ c.colour = .white ∧ l.contains c.id = true then { c with colour := .grey } else c := rfl
def shadeF (l : List Nat) (c : Cell) : Cell := if c.old = true ∧ c.colour = .white ∧ l.contains c.id = true then { c with colour := .grey } else c
theorem shadeF_eq (l : List Nat) (c : Cell) : (shadeF l c).id = c.id ∧ (shadeF l c).kind = c.kind ∧ (shadeF l c).fields = c.fields ∧ (shadeF l c).old = c.old ∧ (shadeF l c).word = c.word ∧ (shadeF l c).seasoned = c.seasoned := by
  unfold shadeF
  split <;> exact ⟨rfl, rfl, rfl, rfl, rfl, rfl⟩
theorem shadeF_white {l : List Nat} {c : Cell} (h : (shadeF l c).colour = .white) : c.colour = .white ∧ ¬ (c.old = true ∧ c.id ∈ l) := by
  unfold shadeF at h
  split at h
  · cases h
  · next hn =>
    refine ⟨h, fun ⟨a, b⟩ => hn ⟨a, h, by simpa using b⟩⟩
theorem shadeF_black {l : List Nat} {c : Cell} (h : (shadeF l c).colour = .black) : c.colour = .black := by
  unfold shadeF at h
  split at h
  · cases h
  · exact h
theorem Good.shade {s : State} {D : List Nat} (g : Good s D) (hp : s.phase = .mark) (l : List Nat) : Good (s.shade l) D := by
  have hid : ∀ c, (shadeF l c).id = c.id := fun c => (shadeF_eq l c).1
  have hs : ∀ c ∈ s.cells, Safe s c → Safe (s.shade l) (shadeF l c) := by
    intro c _ h
    exact h.mono rfl (hid c) (fun h => (shadeF_eq l c).2.2.2.1 ▸ h) (fun _ h => (shadeF_white h).1)
  refine g.of_map (shadeF l) hid rfl rfl g.v16 (fun i hi => (g.vars i hi).map hid rfl hs) ?_ ?_ ?_ ?_ g.remNd ?_ ?_ ?_
  · intro d hd h i hi
    rw [(shadeF_eq l d).2.2.1] at hi
    refine (g.flds d hd ?_ i hi).map hid rfl hs
    unfold Safe
    right
    rw [hp]
    trivial
  · intro d hd i hi
    rw [(shadeF_eq l d).2.2.1] at hi
    exact g.dang d hd i hi
  · intro d hd
    unfold Shape
    rw [(shadeF_eq l d).2.1, (shadeF_eq l d).2.2.1]
    exact g.shape d hd
  · intro d hd ho hk e he hy hf
    rw [(shadeF_eq l d).2.2.2.1] at ho
    rw [(shadeF_eq l d).2.1] at hk
    rw [(shadeF_eq l d).2.2.1] at hf
    rw [(shadeF_eq l e).2.2.2.1] at hy
    exact g.rem d hd ho hk e he hy hf
  · intro i hi
    obtain ⟨d, a, b, p, q⟩ := g.remOk i hi
    exact ⟨d, a, b, (shadeF_eq l d).2.2.2.1.trans p, (shadeF_eq l d).2.1.trans q⟩
  · intro d hd ho hpp
    have : (s.shade l).phase = .mark := hp
    rw [this] at hpp
    exact hpp.elim
  · intro _ c hc ho hb hk d hd h1 h2 h3
    rw [(shadeF_eq l c).2.2.2.1] at ho
    rw [(shadeF_eq l c).2.1] at hk
    rw [(shadeF_eq l c).2.2.1] at h3
    rw [(shadeF_eq l d).2.2.2.1] at h1
    exact g.tri hp c hc ho (shadeF_black hb) hk d hd h1 (shadeF_white h2).1 h3
end Gc
set_option autoImplicit false
namespace Gc
open Kg93
/-- what a write does to one cell: sh tells which are made grey -/
def writeF (c : Cell) (i : Nat) (x : V) (sh : List Nat) (d : Cell) : Cell := shadeF sh (if d.id = c.id then { c with fields := c.fields.set i x } else d)
theorem writeF_eq {s : State} {D : List Nat} (g : Good s D) {c : Cell} (hc : c ∈ s.cells) {d : Cell} (hd : d ∈ s.cells) (i : Nat) (x : V) (sh : List Nat) :
    (writeF c i x sh d).id = d.id ∧ (writeF c i x sh d).kind = d.kind ∧ (writeF c i x sh d).fields = (if d.id = c.id then d.fields.set i x else d.fields) ∧ (writeF c i x sh d).old = d.old ∧ (writeF c i x sh d).word = d.word ∧ (writeF c i x sh d).seasoned = d.seasoned ∧ (writeF c i x sh d).colour = (shadeF sh d).colour := by
  unfold writeF
  by_cases e : d.id = c.id
  · have : d = c := g.sorted.uniq hd hc e
    subst this
    rw [if_pos rfl, if_pos rfl]
    refine ⟨(shadeF_eq _ _).1, (shadeF_eq _ _).2.1, (shadeF_eq _ _).2.2.1, (shadeF_eq _ _).2.2.2.1, (shadeF_eq _ _).2.2.2.2.1, (shadeF_eq _ _).2.2.2.2.2, ?_⟩
    unfold shadeF
    by_cases q : d.old = true ∧ d.colour = .white ∧ sh.contains d.id = true
    · rw [if_pos q, if_pos q]
    · rw [if_neg q, if_neg q]
  · rw [if_neg e, if_neg e]
    exact ⟨(shadeF_eq _ _).1, (shadeF_eq _ _).2.1, (shadeF_eq _ _).2.2.1, (shadeF_eq _ _).2.2.2.1, (shadeF_eq _ _).2.2.2.2.1, (shadeF_eq _ _).2.2.2.2.2, rfl⟩
theorem shadeF_nil (c : Cell) : shadeF [] c = c := by
  unfold shadeF
  rw [if_neg]
  rintro ⟨_, _, h⟩
  simp at h
/-- the numbers that a write makes grey -/
def writeSh (s : State) (c : Cell) (x : V) : List Nat := match x with
  | .cell j => if s.phase = .mark ∧ c.old = true ∧ c.colour = .black then [j] else []
  | _ => []
def writeRem (s : State) (c : Cell) (x : V) : List Nat := match x with
  | .cell j => if c.old = true ∧ s.isYoung j = true ∧ s.remembered.contains c.id = false then s.remembered ++ [c.id] else s.remembered
  | _ => s.remembered
theorem write_eq (s : State) (c : Cell) (i : Nat) (x : V) : s.write c i x = { s with cells := s.cells.map (writeF c i x (writeSh s c x)), remembered := writeRem s c x } := by
  have h0 : (fun d : Cell => writeF c i x [] d) = fun d => if d.id = c.id then { c with fields := c.fields.set i x } else d := by
    funext d
    unfold writeF
    rw [shadeF_nil]
  unfold State.write
  cases x with
  | none_ =>
    unfold writeSh writeRem
    simp only
    rw [show (s.cells.map (writeF c i .none_ [])) = s.cells.map (fun d => writeF c i .none_ [] d) from rfl, h0]
    rfl
  | num z =>
    unfold writeSh writeRem
    simp only
    rw [show (s.cells.map (writeF c i (.num z) [])) = s.cells.map (fun d => writeF c i (.num z) [] d) from rfl, h0]
    rfl
  | cell j =>
    unfold writeSh writeRem
    simp only
    have hr : (s.put { c with fields := c.fields.set i (.cell j) }).remembered = s.remembered := rfl
    rw [hr]
    by_cases hp : s.phase = .mark ∧ c.old = true ∧ c.colour = .black
    · rw [if_pos hp, if_pos hp]
      by_cases hq : c.old = true ∧ s.isYoung j = true ∧ s.remembered.contains c.id = false
      · rw [if_pos hq, if_pos hq]
        unfold State.shade State.put
        simp only [List.map_map]
        rfl
      · rw [if_neg hq, if_neg hq]
        unfold State.shade State.put
        simp only [List.map_map]
        rfl
    · rw [if_neg hp, if_neg hp]
      rw [show (s.cells.map (writeF c i (.cell j) [])) = s.cells.map (fun d => writeF c i (.cell j) [] d) from rfl, h0]
      by_cases hq : c.old = true ∧ s.isYoung j = true ∧ s.remembered.contains c.id = false
      · rw [if_pos hq, if_pos hq]; rfl
      · rw [if_neg hq, if_neg hq]; rfl
theorem set_cell {l : List V} {i j : Nat} {x : V} (h : V.cell j ∈ l.set i x) : V.cell j ∈ l ∨ x = .cell j := by
  rcases List.mem_or_eq_of_mem_set h with h | h
  · exact .inl h
  · exact .inr h.symm
theorem Good.write {s : State} {D : List Nat} (g : Good s D) {c : Cell} (hc : c ∈ s.cells) (hsc : Safe s c) (hk : c.kind = .plain) {i : Nat} {x : V} (hx : ∀ j, x = .cell j → SafeId s j) : Good (s.write c i x) D := by
  rw [write_eq]
  have key := fun d hd => writeF_eq g hc (d := d) hd i x (writeSh s c x)
  have hid : ∀ d, (writeF c i x (writeSh s c x) d).id = d.id := by
    intro d
    unfold writeF
    rw [(shadeF_eq _ _).1]
    by_cases e : d.id = c.id
    · rw [if_pos e]; exact e.symm
    · rw [if_neg e]
  have hs : ∀ d ∈ s.cells, Safe s d → Safe { s with cells := s.cells.map (writeF c i x (writeSh s c x)), remembered := writeRem s c x } (writeF c i x (writeSh s c x) d) := by
    intro d hd h
    refine h.mono rfl (hid d) (fun h => (key d hd).2.2.2.1 ▸ h) (fun _ h => ?_)
    rw [(key d hd).2.2.2.2.2.2] at h
    exact (shadeF_white h).1
  have hrem : ∀ j ∈ s.remembered, j ∈ writeRem s c x := by
    intro j hj
    unfold writeRem
    split
    · split
      · exact List.mem_append_left _ hj
      · exact hj
    · exact hj
  refine g.of_map (writeF c i x (writeSh s c x)) hid rfl rfl g.v16 (fun j hj => (g.vars j hj).map hid rfl hs) ?_ ?_ ?_ ?_ ?_ ?_ ?_ ?_
  · intro d hd h j hj
    rw [(key d hd).2.2.1] at hj
    by_cases e : d.id = c.id
    · rw [if_pos e] at hj
      have := g.sorted.uniq hd hc e
      subst this
      rcases set_cell hj with h1 | h1
      · exact (g.flds d hd hsc j h1).map hid rfl hs
      · exact (hx j h1).map hid rfl hs
    · rw [if_neg e] at hj
      by_cases q : Safe s d
      · exact (g.flds d hd q j hj).map hid rfl hs
      · -- a cell that is doomed stays so: nothing is made grey in a sweep
        exfalso
        apply q
        unfold Safe at h ⊢
        rw [(key d hd).2.2.2.1, hid, (key d hd).2.2.2.2.2.2] at h
        rcases h with h | h
        · exact .inl h
        · right
          have h' : (match s.phase with | .sweep n => d.id < n ∨ (shadeF (writeSh s c x) d).colour ≠ .white | _ => True) := h
          cases ep : s.phase with
          | rest => trivial
          | mark => trivial
          | sweep n =>
            rw [ep] at h'
            simp only at h' ⊢
            have : writeSh s c x = [] := by
              unfold writeSh
              split
              · rw [if_neg]; rw [ep]; rintro ⟨z, _⟩; cases z
              · rfl
            rw [this, shadeF_nil] at h'
            exact h'
  · intro d hd j hj
    rw [(key d hd).2.2.1] at hj
    by_cases e : d.id = c.id
    · rw [if_pos e] at hj
      rcases set_cell hj with h1 | h1
      · exact g.dang d hd j h1
      · exact .inl (hx j h1).alive
    · rw [if_neg e] at hj
      exact g.dang d hd j hj
  · intro d hd
    have h := g.shape d hd
    unfold Shape at h ⊢
    rw [(key d hd).2.1, (key d hd).2.2.1]
    by_cases e : d.id = c.id
    · have := g.sorted.uniq hd hc e
      subst this
      rw [if_pos rfl, hk]
      rw [hk] at h
      simp only at h ⊢
      rw [List.length_set]
      exact h
    · rw [if_neg e]; exact h
  · intro d hd ho hkd e he hy hf
    rw [(key d hd).2.2.2.1] at ho
    rw [(key d hd).2.1] at hkd
    rw [(key d hd).2.2.1] at hf
    rw [(key e he).2.2.2.1] at hy
    by_cases q : d.id = c.id
    · have := g.sorted.uniq hd hc q
      subst this
      rw [if_pos rfl] at hf
      rcases set_cell hf with h1 | h1
      · exact hrem _ (g.rem d hd ho hkd e he hy h1)
      · subst h1
        unfold writeRem
        simp only
        by_cases z : s.remembered.contains d.id = false
        · rw [if_pos ⟨ho, by rw [g.young he, hy]; rfl, z⟩]
          exact List.mem_append_right _ (List.mem_singleton.mpr rfl)
        · rw [if_neg (fun w => z w.2.2)]
          simpa using z
    · rw [if_neg q] at hf
      exact hrem _ (g.rem d hd ho hkd e he hy hf)
  · show (writeRem s c x).Nodup
    unfold writeRem
    split
    · split
      · next hq =>
        rw [List.nodup_append]
        refine ⟨g.remNd, by simp, ?_⟩
        intro a ha b hb e
        rw [List.mem_singleton] at hb
        subst hb e
        have := hq.2.2
        rw [← List.contains_iff_mem, this] at ha
        cases ha
      · exact g.remNd
    · exact g.remNd
  · intro j hj
    have old : ∀ j ∈ s.remembered, ∃ d ∈ s.cells, d.id = j ∧ (writeF c i x (writeSh s c x) d).old = true ∧ (writeF c i x (writeSh s c x) d).kind = .plain := by
      intro j hj
      obtain ⟨d, a, b, p, q⟩ := g.remOk j hj
      exact ⟨d, a, b, (key d a).2.2.2.1.trans p, (key d a).2.1.trans q⟩
    have hj' : j ∈ writeRem s c x := hj
    unfold writeRem at hj'
    split at hj'
    · split at hj'
      · next hq =>
        rcases List.mem_append.mp hj' with h | h
        · exact old j h
        · rw [List.mem_singleton] at h
          subst h
          exact ⟨c, hc, rfl, (key c hc).2.2.2.1.trans hq.1, (key c hc).2.1.trans hk⟩
      · exact old j hj'
    · exact old j hj'
  · intro d hd ho hp
    rw [(key d hd).2.2.2.1] at ho
    rw [(key d hd).2.2.2.2.2.2]
    have hp' : (match s.phase with | .rest => True | .mark => False | .sweep n => d.id < n) := hp
    have w := g.white d hd ho hp'
    have : writeSh s c x = [] := by
      unfold writeSh
      split
      · rw [if_neg]
        rintro ⟨z, _⟩
        rw [z] at hp'
        exact hp'
      · rfl
    rw [this, shadeF_nil]
    exact w
  · intro hp d hd ho hb hkd e he h1 h2 h3
    have hp' : s.phase = .mark := hp
    rw [(key d hd).2.2.2.1] at ho
    rw [(key d hd).2.2.2.2.2.2] at hb
    rw [(key d hd).2.1] at hkd
    rw [(key d hd).2.2.1] at h3
    rw [(key e he).2.2.2.1] at h1
    rw [(key e he).2.2.2.2.2.2] at h2
    have hb' := shadeF_black hb
    obtain ⟨h2', h2n⟩ := shadeF_white h2
    by_cases q : d.id = c.id
    · have := g.sorted.uniq hd hc q
      subst this
      rw [if_pos rfl] at h3
      rcases set_cell h3 with h4 | h4
      · exact g.tri hp' d hd ho hb' hkd e he h1 h2' h4
      · subst h4
        apply h2n
        refine ⟨h1, ?_⟩
        unfold writeSh
        simp only
        rw [if_pos ⟨hp', ho, hb'⟩]
        exact List.mem_singleton.mpr rfl
    · rw [if_neg q] at h3
      exact g.tri hp' d hd ho hb' hkd e he h1 h2' h3
end Gc
set_option autoImplicit false
namespace Gc
open Kg93
/-! ### a round of the old -/
theorem safe_mark {s : State} (hp : s.phase = .mark) (c : Cell) : Safe s c := by
  unfold Safe
  rw [hp]
  exact .inr trivial
theorem safe_rest {s : State} (hp : s.phase = .rest) (c : Cell) : Safe s c := by
  unfold Safe
  rw [hp]
  exact .inr trivial
theorem Good.begin_ {s : State} {D : List Nat} (g : Good s D) (hp : s.phase = .rest) : Good { s with phase := .mark } D :=
  have hs : ∀ i, SafeId s i → SafeId { s with phase := .mark } i := fun i ⟨c, a, b, _⟩ => ⟨c, a, b, .inr trivial⟩
  { g with
    vars := fun i hi => hs i (g.vars i hi)
    flds := fun c hc _ i hi => hs i (g.flds c hc (safe_rest hp c) i hi)
    white := fun c hc ho h => h.elim
    tri := fun _ c hc ho hb => by
      have := g.white c hc ho (by rw [hp]; trivial)
      rw [hb] at this
      cases this }
theorem Good.start {s : State} {D : List Nat} (g : Good s D) (hp : s.phase = .rest) (l : List Nat) : Good ({ s with phase := .mark }.shade l) D := (g.begin_ hp).shade rfl l
def blackF (c d : Cell) : Cell := shadeF c.keeps (if d.id = c.id then { c with colour := .black } else d)
theorem blackF_eq {s : State} {D : List Nat} (g : Good s D) {c : Cell} (hc : c ∈ s.cells) {d : Cell} (hd : d ∈ s.cells) :
    (blackF c d).id = d.id ∧ (blackF c d).kind = d.kind ∧ (blackF c d).fields = d.fields ∧ (blackF c d).old = d.old ∧ (blackF c d).word = d.word ∧ (blackF c d).seasoned = d.seasoned ∧ (d.id = c.id → (blackF c d).colour = .black) ∧ (d.id ≠ c.id → (blackF c d).colour = (shadeF c.keeps d).colour) := by
  unfold blackF
  by_cases e : d.id = c.id
  · have := g.sorted.uniq hd hc e
    subst this
    rw [if_pos rfl]
    refine ⟨(shadeF_eq _ _).1, (shadeF_eq _ _).2.1, (shadeF_eq _ _).2.2.1, (shadeF_eq _ _).2.2.2.1, (shadeF_eq _ _).2.2.2.2.1, (shadeF_eq _ _).2.2.2.2.2, fun _ => ?_, fun h => absurd rfl h⟩
    unfold shadeF
    rw [if_neg]
    rintro ⟨_, z, _⟩
    cases z
  · rw [if_neg e]
    exact ⟨(shadeF_eq _ _).1, (shadeF_eq _ _).2.1, (shadeF_eq _ _).2.2.1, (shadeF_eq _ _).2.2.2.1, (shadeF_eq _ _).2.2.2.2.1, (shadeF_eq _ _).2.2.2.2.2, fun h => absurd h e, fun _ => rfl⟩
theorem Good.blacken {s : State} {D : List Nat} (g : Good s D) (hp : s.phase = .mark) {c : Cell} (hc : c ∈ s.cells) : Good ((s.put { c with colour := .black }).shade c.keeps) D := by
  have key := fun d hd => blackF_eq g hc (d := d) hd
  have hid : ∀ d, (blackF c d).id = d.id := by
    intro d
    unfold blackF
    rw [(shadeF_eq _ _).1]
    by_cases e : d.id = c.id
    · rw [if_pos e]; exact e.symm
    · rw [if_neg e]
  have hcells : ((s.put { c with colour := .black }).shade c.keeps).cells = s.cells.map (blackF c) := by
    unfold State.shade State.put
    simp only [List.map_map]
    rfl
  have hph : ((s.put { c with colour := .black }).shade c.keeps).phase = .mark := hp
  have hs : ∀ d ∈ s.cells, Safe s d → Safe ((s.put { c with colour := .black }).shade c.keeps) (blackF c d) := fun d _ _ => safe_mark hph _
  refine g.of_map (blackF c) hid hcells rfl g.v16 (fun i hi => (g.vars i hi).map hid hcells hs) ?_ ?_ ?_ ?_ g.remNd ?_ ?_ ?_
  · intro d hd h i hi
    rw [(key d hd).2.2.1] at hi
    exact (g.flds d hd (safe_mark hp d) i hi).map hid hcells hs
  · intro d hd i hi
    rw [(key d hd).2.2.1] at hi
    exact g.dang d hd i hi
  · intro d hd
    have h := g.shape d hd
    unfold Shape at h ⊢
    rw [(key d hd).2.1, (key d hd).2.2.1]
    exact h
  · intro d hd ho hk e he hy hf
    rw [(key d hd).2.2.2.1] at ho
    rw [(key d hd).2.1] at hk
    rw [(key d hd).2.2.1] at hf
    rw [(key e he).2.2.2.1] at hy
    exact g.rem d hd ho hk e he hy hf
  · intro i hi
    obtain ⟨d, a, b, p, q⟩ := g.remOk i hi
    exact ⟨d, a, b, (key d a).2.2.2.1.trans p, (key d a).2.1.trans q⟩
  · intro d hd ho hpp
    rw [hph] at hpp
    exact hpp.elim
  · intro _ d hd ho hb hk e he h1 h2 h3
    rw [(key d hd).2.2.2.1] at ho
    rw [(key d hd).2.1] at hk
    rw [(key d hd).2.2.1] at h3
    rw [(key e he).2.2.2.1] at h1
    have hne : e.id ≠ c.id := fun z => by
      rw [(key e he).2.2.2.2.2.2.1 z] at h2
      cases h2
    rw [(key e he).2.2.2.2.2.2.2 hne] at h2
    obtain ⟨h2', h2n⟩ := shadeF_white h2
    by_cases q : d.id = c.id
    · have := g.sorted.uniq hd hc q
      subst this
      exact h2n ⟨h1, keeps_mem.mpr ⟨hk, h3⟩⟩
    · rw [(key d hd).2.2.2.2.2.2.2 q] at hb
      exact g.tri hp d hd ho (shadeF_black hb) hk e he h1 h2' h3
/-- nothing that is looked at is white -/
theorem roots_none {s : State} {D : List Nat} (g : Good s D) (h : s.shade s.roots = s) {c : Cell} (hc : c ∈ s.cells) (ho : c.old = true) (hw : c.colour = .white) : c.id ∉ s.roots := by
  intro hr
  have e : (s.shade s.roots).cells = s.cells := by rw [h]
  rw [shade_cells] at e
  have h1 : (shadeF s.roots c) ∈ s.cells := by
    have : shadeF s.roots c ∈ s.cells.map (shadeF s.roots) := List.mem_map_of_mem hc
    have e' : s.cells.map (shadeF s.roots) = s.cells := e
    rw [e'] at this
    exact this
  have h2 := g.sorted.uniq h1 hc (shadeF_eq _ c).1
  unfold shadeF at h2
  rw [if_pos ⟨ho, hw, by simpa using hr⟩] at h2
  have := congrArg Cell.colour h2
  rw [hw] at this
  cases this
theorem roots_var {s : State} {i : Nat} (h : V.cell i ∈ s.vars) : i ∈ s.roots := by
  unfold State.roots
  exact List.mem_append_left _ (idsOf_mem.mpr h)
theorem roots_young {s : State} {c : Cell} {i : Nat} (hc : c ∈ s.cells) (ho : c.old = false) (hk : c.kind = .plain) (h : V.cell i ∈ c.fields) : i ∈ s.roots := by
  unfold State.roots
  refine List.mem_append_right _ (List.mem_append_left _ ?_)
  rw [List.mem_flatMap]
  refine ⟨c, ?_, keeps_mem.mpr ⟨hk, h⟩⟩
  unfold State.young
  exact List.mem_filter.mpr ⟨hc, by simp [ho]⟩
def come (c : Cell) : Bool := !c.old || c.colour != .white
theorem roots_val {s : State} {D : List Nat} (g : Good s D) {c d : Cell} {i : Nat} (hc : c ∈ s.cells) (h1 : come c = true) (hd : d ∈ s.cells) (h2 : come d = true) (hk : c.kind = .keyed) (h : c.fields = [.cell d.id, .cell i]) : i ∈ s.roots := by
  unfold State.roots
  refine List.mem_append_right _ (List.mem_append_right _ ?_)
  rw [List.mem_flatMap]
  refine ⟨c, List.mem_filter.mpr ⟨hc, h1⟩, ?_⟩
  rw [pair_some.mpr ⟨hk, h⟩]
  have : (s.at_ d.id).any come = true := by
    rw [g.at_iff.mpr ⟨hd, rfl⟩]
    exact h2
  have e : (s.at_ d.id).any (fun c => !c.old || c.colour != .white) = true := this
  simp only [e, if_true, List.mem_singleton]
def sweepF (s : State) (c : Cell) : Cell := if (c.old && c.colour == .white) = true then c else c.without fun i => s.isWhite i
theorem sweepF_eq (s : State) (c : Cell) : (sweepF s c).id = c.id ∧ (sweepF s c).kind = c.kind ∧ (sweepF s c).old = c.old ∧ (sweepF s c).seasoned = c.seasoned ∧ (sweepF s c).colour = c.colour ∧ (sweepF s c).word = c.word := by
  unfold sweepF
  split
  · exact ⟨rfl, rfl, rfl, rfl, rfl, rfl⟩
  · exact without_id _ c
theorem sweepF_cell {s : State} {c : Cell} {i : Nat} (h : V.cell i ∈ (sweepF s c).fields) : V.cell i ∈ c.fields := by
  unfold sweepF at h
  split at h
  · exact h
  · exact without_cell h
theorem Good.toSweep {s : State} {D : List Nat} (g : Good s D) (hp : s.phase = .mark) (hn : ∀ c ∈ s.cells, c.old = true → c.colour ≠ .grey) (hr : s.shade s.roots = s) :
    Good { s with phase := .sweep 0, cells := s.cells.map (sweepF s) } D := by
  have hid : ∀ d, (sweepF s d).id = d.id := fun d => (sweepF_eq s d).1
  have safe_of : ∀ d, ¬ (d.old = true ∧ d.colour = .white) → Safe { s with phase := .sweep 0, cells := s.cells.map (sweepF s) } (sweepF s d) := by
    intro d h
    unfold Safe
    rw [(sweepF_eq s d).2.2.1, (sweepF_eq s d).2.2.2.2.1]
    by_cases o : d.old = true
    · exact .inr (.inr fun z => h ⟨o, z⟩)
    · exact .inl (by simpa using o)
  have sid : ∀ i, Alive s i → (∀ d ∈ s.cells, d.id = i → ¬ (d.old = true ∧ d.colour = .white)) → SafeId { s with phase := .sweep 0, cells := s.cells.map (sweepF s) } i := by
    rintro i ⟨d, a, b⟩ h
    exact ⟨sweepF s d, List.mem_map_of_mem a, (hid d).trans b, safe_of d (h d a b)⟩
  have notroot : ∀ i, i ∈ s.roots → ∀ d ∈ s.cells, d.id = i → ¬ (d.old = true ∧ d.colour = .white) := by
    rintro i hi d hd rfl ⟨h1, h2⟩
    exact roots_none g hr hd h1 h2 hi
  refine g.of_map (sweepF s) hid rfl rfl g.v16 ?_ ?_ ?_ ?_ ?_ g.remNd ?_ ?_ ?_
  · intro i hi
    exact sid i (g.vars i hi).alive (notroot i (roots_var hi))
  · intro c hc hsf i hi
    have hi0 := sweepF_cell hi
    have al : Alive s i := (g.flds c hc (safe_mark hp c) i hi0).alive
    -- c is young or black
    have hcw : ¬ (c.old = true ∧ c.colour = .white) := by
      rintro ⟨h1, h2⟩
      unfold Safe at hsf
      rw [(sweepF_eq s c).2.2.1, (sweepF_eq s c).2.2.2.2.1, h1, h2] at hsf
      rcases hsf with h | h
      · cases h
      · rcases h with h | h
        · omega
        · exact h rfl
    have hco : come c = true := by
      unfold come
      by_cases o : c.old = true
      · rw [o]
        simp only [Bool.not_true, Bool.false_or, bne_iff_ne]
        exact fun z => hcw ⟨o, z⟩
      · simp at o; simp [o]
    have hsw : sweepF s c = c.without fun i => s.isWhite i := by
      unfold sweepF
      rw [if_neg]
      intro z
      rw [Bool.and_eq_true, beq_iff_eq] at z
      exact hcw z
    refine sid i al ?_
    have hsh := g.shape c hc
    unfold Shape at hsh
    cases hk : c.kind with
    | plain =>
      by_cases o : c.old = true
      · have hb : c.colour = .black := by
          have h1 := hn c hc o
          cases e : c.colour with
          | white => exact absurd ⟨o, e⟩ hcw
          | grey => exact absurd e h1
          | black => rfl
        rintro d hd rfl ⟨h1, h2⟩
        exact g.tri hp c hc o hb hk d hd h1 h2 hi0
      · have o' : c.old = false := by simpa using o
        exact notroot i (roots_young hc o' hk hi0)
    | weak =>
      rw [hk] at hsh
      rcases hsh with h | ⟨t, h⟩
      · rw [h] at hi0; simp at hi0
      · rw [hsw] at hi
        unfold Cell.without at hi
        rw [hk, h] at hi
        simp only at hi
        split at hi
        · simp at hi
        · next hw =>
          rw [h] at hi0
          simp at hi0
          subst hi0
          rintro d hd rfl ⟨h1, h2⟩
          exact hw ((isWhite_iff g).mpr ⟨d, hd, rfl, h1, h2⟩)
    | keyed =>
      rw [hk] at hsh
      rcases hsh with h | ⟨k, v, h⟩
      · rw [h] at hi0; simp at hi0
      · rw [hsw] at hi
        unfold Cell.without at hi
        rw [hk, h] at hi
        simp only at hi
        split at hi
        · simp at hi
        · next hw =>
          have kw : ∀ d ∈ s.cells, d.id = k → ¬ (d.old = true ∧ d.colour = .white) := by
            rintro d hd rfl ⟨h1, h2⟩
            exact hw ((isWhite_iff g).mpr ⟨d, hd, rfl, h1, h2⟩)
          have hi1 := hi0
          rw [h] at hi1
          simp at hi1
          rcases hi1 with rfl | rfl
          · exact kw
          · obtain ⟨d, hd, e⟩ := (g.flds c hc (safe_mark hp c) k (by rw [h]; simp)).alive
            subst e
            refine notroot i (roots_val g hc hco hd ?_ hk h)
            have := kw d hd rfl
            unfold come
            by_cases o : d.old = true
            · rw [o]
              simp only [Bool.not_true, Bool.false_or, bne_iff_ne]
              exact fun z => this ⟨o, z⟩
            · simp at o; simp [o]
  · intro c hc i hi
    exact g.dang c hc i (sweepF_cell hi)
  · intro c hc
    have h := g.shape c hc
    unfold sweepF
    split
    · exact h
    · exact without_shape h
  · intro c hc ho hk d hd hdo hf
    rw [(sweepF_eq s c).2.2.1] at ho
    rw [(sweepF_eq s c).2.1] at hk
    rw [(sweepF_eq s d).2.2.1] at hdo
    exact g.rem c hc ho hk d hd hdo (sweepF_cell hf)
  · intro i hi
    obtain ⟨d, a, b, p, q⟩ := g.remOk i hi
    exact ⟨d, a, b, (sweepF_eq s d).2.2.1.trans p, (sweepF_eq s d).2.1.trans q⟩
  · intro c hc ho h
    exact absurd h (Nat.not_lt_zero _)
  · intro h
    cases h
/-- the sweep lets a white cell go -/
theorem Good.free {s : State} {D : List Nat} (g : Good s D) {n : Nat} (hp : s.phase = .sweep n) {c : Cell} (hf : s.cells.find? (fun c => c.old && decide (n ≤ c.id)) = some c) (hw : c.colour = .white) :
    Good { s with phase := .sweep (c.id + 1), cells := s.cells.filter (fun d => d.id != c.id), remembered := s.remembered.filter (fun i => i != c.id), words := s.words ++ c.word.toList } (c.id :: D) := by
  have hc : c ∈ s.cells := List.mem_of_find?_eq_some hf
  have hcn : c.old = true ∧ n ≤ c.id := by simpa using List.find?_some hf
  have first : ∀ d ∈ s.cells, d.old = true → n ≤ d.id → c.id ≤ d.id := by
    intro d hd ho hn
    obtain ⟨_, as, bs, e, hb⟩ := List.find?_eq_some_iff_append.mp hf
    rw [e] at hd
    rcases List.mem_append.mp hd with h | h
    · have := hb d h
      simp [ho, hn] at this
    · rcases List.mem_cons.mp h with rfl | h
      · exact Nat.le_refl _
      · have hs := g.sorted
        rw [e, Sorted, List.pairwise_append] at hs
        have := (List.pairwise_cons.mp hs.2.1).1 d h
        omega
  have hunsafe : ¬ Safe s c := by
    unfold Safe
    rw [hp]
    rintro (h | h | h)
    · rw [hcn.1] at h; cases h
    · omega
    · exact h hw
  have hmem : ∀ d, d ∈ s.cells.filter (fun d => d.id != c.id) ↔ d ∈ s.cells ∧ d.id ≠ c.id := by
    intro d
    rw [List.mem_filter, bne_iff_ne]
  have safe_iff : ∀ d ∈ s.cells, d.id ≠ c.id → (Safe { s with phase := .sweep (c.id + 1), cells := s.cells.filter (fun d => d.id != c.id), remembered := s.remembered.filter (fun i => i != c.id), words := s.words ++ c.word.toList } d ↔ Safe s d) := by
    intro d hd hne
    unfold Safe
    rw [hp]
    simp only
    by_cases o : d.old = true
    · constructor
      · rintro (h | h | h)
        · exact .inl h
        · by_cases q : n ≤ d.id
          · have := first d hd o q; omega
          · exact .inr (.inl (by omega))
        · exact .inr (.inr h)
      · rintro (h | h | h)
        · exact .inl h
        · exact .inr (.inl (by omega))
        · exact .inr (.inr h)
    · have o' : d.old = false := by simpa using o
      exact ⟨fun _ => .inl o', fun _ => .inl o'⟩
  have sid : ∀ i, SafeId s i → SafeId { s with phase := .sweep (c.id + 1), cells := s.cells.filter (fun d => d.id != c.id), remembered := s.remembered.filter (fun i => i != c.id), words := s.words ++ c.word.toList } i := by
    rintro i ⟨d, a, b, h⟩
    have hne : d.id ≠ c.id := fun z => hunsafe (g.sorted.uniq a hc z ▸ h)
    exact ⟨d, (hmem d).mpr ⟨a, hne⟩, b, (safe_iff d a hne).mpr h⟩
  constructor
  · exact g.sorted.filter _
  · intro d hd
    exact g.lt d ((hmem d).mp hd).1
  · intro i hi
    rcases List.mem_cons.mp hi with rfl | h
    · exact g.lt c hc
    · exact g.dlt i h
  · intro d hd hin
    obtain ⟨a, b⟩ := (hmem d).mp hd
    rcases List.mem_cons.mp hin with h | h
    · exact b h
    · exact g.nd d a h
  · exact g.v16
  · exact fun i hi => sid i (g.vars i hi)
  · intro d hd hs i hi
    obtain ⟨a, b⟩ := (hmem d).mp hd
    exact sid i (g.flds d a ((safe_iff d a b).mp hs) i hi)
  · intro d hd i hi
    obtain ⟨a, b⟩ := (hmem d).mp hd
    rcases g.dang d a i hi with ⟨e, he, h⟩ | h
    · by_cases q : e.id = c.id
      · right; rw [← h, q]; exact List.mem_cons_self ..
      · exact .inl ⟨e, (hmem e).mpr ⟨he, q⟩, h⟩
    · exact .inr (List.mem_cons_of_mem _ h)
  · exact fun d hd => g.shape d ((hmem d).mp hd).1
  · intro d hd ho hk e he hy hf
    obtain ⟨a, b⟩ := (hmem d).mp hd
    refine List.mem_filter.mpr ⟨g.rem d a ho hk e ((hmem e).mp he).1 hy hf, ?_⟩
    rw [bne_iff_ne]; exact b
  · exact List.Pairwise.filter _ g.remNd
  · intro i hi
    obtain ⟨h1, h2⟩ := List.mem_filter.mp hi
    rw [bne_iff_ne] at h2
    obtain ⟨d, a, b, p⟩ := g.remOk i h1
    exact ⟨d, (hmem d).mpr ⟨a, by rw [b]; exact h2⟩, b, p⟩
  · intro d hd ho h
    obtain ⟨a, b⟩ := (hmem d).mp hd
    have h' : d.id < c.id + 1 := h
    refine g.white d a ho ?_
    rw [hp]
    simp only
    by_cases q : n ≤ d.id
    · have := first d a ho q; omega
    · omega
  · intro h
    cases h
/-- the sweep passes a cell that stays -/
theorem Good.pass {s : State} {D : List Nat} (g : Good s D) {n : Nat} (hp : s.phase = .sweep n) {c : Cell} (hf : s.cells.find? (fun c => c.old && decide (n ≤ c.id)) = some c) (hw : c.colour ≠ .white) :
    Good { s.put { c with colour := .white } with phase := .sweep (c.id + 1) } D := by
  have hc : c ∈ s.cells := List.mem_of_find?_eq_some hf
  have hcn : c.old = true ∧ n ≤ c.id := by simpa using List.find?_some hf
  have first : ∀ d ∈ s.cells, d.old = true → n ≤ d.id → c.id ≤ d.id := by
    intro d hd ho hn
    obtain ⟨_, as, bs, e, hb⟩ := List.find?_eq_some_iff_append.mp hf
    rw [e] at hd
    rcases List.mem_append.mp hd with h | h
    · have := hb d h
      simp [ho, hn] at this
    · rcases List.mem_cons.mp h with rfl | h
      · exact Nat.le_refl _
      · have hs := g.sorted
        rw [e, Sorted, List.pairwise_append] at hs
        have := (List.pairwise_cons.mp hs.2.1).1 d h
        omega
  let f : Cell → Cell := fun d => if d.id = c.id then { c with colour := .white } else d
  have key : ∀ d ∈ s.cells, f d = { d with colour := if d.id = c.id then .white else d.colour } := by
    intro d hd
    show (if d.id = c.id then { c with colour := .white } else d) = _
    by_cases e : d.id = c.id
    · rw [if_pos e, if_pos e, g.sorted.uniq hd hc e]
    · rw [if_neg e, if_neg e]
  have hid : ∀ d, (f d).id = d.id := by
    intro d
    show (if d.id = c.id then { c with colour := .white } else d).id = d.id
    by_cases e : d.id = c.id
    · rw [if_pos e]; exact e.symm
    · rw [if_neg e]
  have safe_iff : ∀ d ∈ s.cells, (Safe { s.put { c with colour := .white } with phase := .sweep (c.id + 1) } (f d) ↔ Safe s d) := by
    intro d hd
    rw [key d hd]
    unfold Safe
    rw [hp]
    simp only
    by_cases o : d.old = true
    · by_cases e : d.id = c.id
      · have := g.sorted.uniq hd hc e
        subst this
        exact ⟨fun _ => .inr (.inr hw), fun _ => .inr (.inl (by omega))⟩
      · rw [if_neg e]
        constructor
        · rintro (h | h | h)
          · exact .inl h
          · by_cases q : n ≤ d.id
            · have := first d hd o q; omega
            · exact .inr (.inl (by omega))
          · exact .inr (.inr h)
        · rintro (h | h | h)
          · exact .inl h
          · exact .inr (.inl (by omega))
          · exact .inr (.inr h)
    · have o' : d.old = false := by simpa using o
      exact ⟨fun _ => .inl o', fun _ => .inl o'⟩
  have hs := fun d hd => (safe_iff d hd).mpr
  refine g.of_map f hid rfl rfl g.v16 (fun i hi => (g.vars i hi).map hid rfl hs) ?_ ?_ ?_ ?_ g.remNd ?_ ?_ ?_
  · intro d hd h i hi
    have h' := (safe_iff d hd).mp h
    rw [key d hd] at hi
    exact (g.flds d hd h' i hi).map hid rfl hs
  · intro d hd i hi
    rw [key d hd] at hi
    exact g.dang d hd i hi
  · intro d hd
    rw [key d hd]
    exact g.shape d hd
  · intro d hd ho hk e he hy hf
    rw [key d hd] at ho hk hf
    rw [key e he] at hy
    exact g.rem d hd ho hk e he hy hf
  · intro i hi
    obtain ⟨d, a, b, p, q⟩ := g.remOk i hi
    refine ⟨d, a, b, ?_⟩
    rw [key d a]
    exact ⟨p, q⟩
  · intro d hd ho h
    have h' : d.id < c.id + 1 := h
    rw [key d hd] at ho ⊢
    simp only
    by_cases e : d.id = c.id
    · rw [if_pos e]
    · rw [if_neg e]
      refine g.white d hd ho ?_
      rw [hp]
      simp only
      by_cases q : n ≤ d.id
      · have := first d hd ho q; omega
      · omega
  · intro h
    cases h
theorem Good.toRest {s : State} {D : List Nat} (g : Good s D) {n : Nat} (hp : s.phase = .sweep n) (hf : s.cells.find? (fun c => c.old && decide (n ≤ c.id)) = none) : Good { s with phase := .rest } D :=
  have low : ∀ c ∈ s.cells, c.old = true → c.id < n := fun c hc ho => by
    have := List.find?_eq_none.mp hf c hc
    simp [ho] at this
    omega
  have hs : ∀ c, c ∈ s.cells → Safe s c := fun c hc => by
    unfold Safe
    rw [hp]
    by_cases o : c.old = true
    · exact .inr (.inl (low c hc o))
    · exact .inl (by simpa using o)
  have sid : ∀ i, SafeId s i → SafeId { s with phase := .rest } i := fun i ⟨c, a, b, _⟩ => ⟨c, a, b, .inr trivial⟩
  { g with
    vars := fun i hi => sid i (g.vars i hi)
    flds := fun c hc _ i hi => sid i (g.flds c hc (hs c hc) i hi)
    white := fun c hc ho _ => g.white c hc ho (by rw [hp]; exact low c hc ho)
    tri := fun h => by cases h }
/-- **one step** -/
theorem Good.step {s t : State} {D : List Nat} (g : Good s D) {b : Bool} {k : Nat} (h : s.step = some (t, b, k)) : ∃ D', Good t D' := by
  unfold State.step at h
  split at h
  · next hp =>
    simp only [Option.some.injEq, Prod.mk.injEq] at h
    exact ⟨D, h.1 ▸ g.start hp _⟩
  · next hp =>
    split at h
    · next c hc =>
      simp only [Option.some.injEq, Prod.mk.injEq] at h
      exact ⟨D, h.1 ▸ g.blacken hp (List.mem_of_find?_eq_some hc)⟩
    · next hn =>
      have hn' : ∀ c ∈ s.cells, c.old = true → c.colour ≠ .grey := fun c hc ho e => by
        have := List.find?_eq_none.mp hn c hc
        simp [ho, e] at this
      simp only at h
      split at h
      · next hr =>
        simp only [Option.some.injEq, Prod.mk.injEq] at h
        exact ⟨D, h.1 ▸ g.toSweep hp hn' hr⟩
      · simp only [Option.some.injEq, Prod.mk.injEq] at h
        exact ⟨D, h.1 ▸ g.shade hp _⟩
  · next n hp =>
    split at h
    · cases h
    · next c hc =>
      split at h
      · next hw =>
        simp only [Option.some.injEq, Prod.mk.injEq] at h
        exact ⟨_, h.1 ▸ g.free hp hc hw⟩
      · next hw =>
        simp only [Option.some.injEq, Prod.mk.injEq] at h
        exact ⟨D, h.1 ▸ g.pass hp hc hw⟩
end Gc
set_option autoImplicit false
/-! Slices have fuel enough; what's seen has fuel enough. -/
namespace Gc
open Kg93
def hasGrey (s : State) : Bool := (s.cells.find? fun c => c.old && c.colour == .grey).isSome
/-- how many steps there may be, the next unit among them -/
def rank (s : State) : Nat := match s.phase with
  | .rest => 3
  | .mark => if hasGrey s = true then 1 else 2
  | .sweep _ => 1
def need : Nat → State → Nat
  | 0, _ => 0
  | n + 1, s => 3 * n + rank s
theorem rank_le (s : State) : rank s ≤ 3 := by
  unfold rank
  split
  · omega
  · split <;> omega
  · omega
theorem rank_pos (s : State) : 1 ≤ rank s := by
  unfold rank
  split
  · omega
  · split <;> omega
  · omega
theorem need_enough (n : Nat) (s : State) : need n s ≤ 3 * n + 3 := by
  cases n with
  | zero => exact Nat.zero_le _
  | succ n =>
    have := rank_le s
    show 3 * n + rank s ≤ _
    omega
theorem shade_grey {s : State} {l : List Nat} (h : s.shade l ≠ s) : hasGrey (s.shade l) = true := by
  unfold hasGrey
  cases e : (s.shade l).cells.find? fun c => c.old && c.colour == .grey with
  | some c => rfl
  | none =>
    exfalso
    apply h
    have h2 : s.cells.map (shadeF l) = s.cells := by
      have hn := List.find?_eq_none.mp e
      rw [shade_cells] at hn
      have : ∀ c ∈ s.cells, shadeF l c = c := by
        intro c hc
        have h3 := hn (shadeF l c) (List.mem_map_of_mem hc)
        unfold shadeF at h3 ⊢
        split
        · next q =>
          rw [if_pos q] at h3
          exfalso
          apply h3
          rw [q.1]
          rfl
        · rfl
      calc s.cells.map (shadeF l) = s.cells.map id := List.map_congr_left this
        _ = s.cells := List.map_id _
    show ({ s with cells := s.cells.map (shadeF l) } : State) = s
    rw [h2]
theorem step_need {s t : State} {b : Bool} {k n : Nat} (h : s.step = some (t, b, k)) : (if b = true then need n t else need (n + 1) t) + 1 ≤ need (n + 1) s := by
  have hl := rank_le t
  have hp := rank_pos s
  show _ ≤ 3 * n + rank s
  cases b with
  | true =>
    rw [if_pos rfl]
    cases n with
    | zero =>
      show 0 + 1 ≤ _
      omega
    | succ n =>
      show 3 * n + rank t + 1 ≤ _
      omega
  | false =>
    rw [if_neg (by simp)]
    show 3 * n + rank t + 1 ≤ _
    unfold State.step at h
    split at h
    · next hph =>
      simp only [Option.some.injEq, Prod.mk.injEq] at h
      have e1 : rank s = 3 := by unfold rank; rw [hph]
      have e2 : t.phase = .mark := by rw [← h.1]; rfl
      have e3 : rank t ≤ 2 := by
        unfold rank
        rw [e2]
        show (if hasGrey t = true then 1 else 2) ≤ 2
        split <;> omega
      omega
    · next hph =>
      split at h
      · simp at h
      · next hn =>
        have e1 : rank s = 2 := by
          unfold rank
          rw [hph]
          show (if hasGrey s = true then 1 else 2) = 2
          rw [if_neg]
          unfold hasGrey
          rw [hn]
          simp
        simp only at h
        split at h
        · simp only [Option.some.injEq, Prod.mk.injEq] at h
          have e2 : rank t = 1 := by
            unfold rank
            rw [← h.1]
          omega
        · next hne =>
          simp only [Option.some.injEq, Prod.mk.injEq] at h
          have e2 : rank t = 1 := by
            unfold rank
            have hp2 : t.phase = .mark := by rw [← h.1]; exact hph
            rw [hp2]
            show (if hasGrey t = true then 1 else 2) = 1
            rw [← h.1, if_pos (shade_grey hne)]
          omega
    · split at h
      · cases h
      · split at h <;> simp at h
theorem slice_zero (f : Nat) (s : State) : State.slice f 0 s = (s, 0, 0) := by
  cases f <;> rfl
/-- a slice, step by step -/
theorem slice_end {f n : Nat} {s : State} (hf : need (n + 1) s ≤ f) (h : s.step = none) : State.slice f (n + 1) s = ({ s with phase := .rest }, 0, 0) := by
  cases f with
  | zero =>
    have := rank_pos s
    have : need (n + 1) s = 3 * n + rank s := rfl
    omega
  | succ f =>
    show (match s.step with | none => _ | some (t, true, k) => _ | some (t, false, k) => _) = _
    rw [h]
theorem slice_unit {f n k : Nat} {s t : State} (hf : need (n + 1) s ≤ f) (h : s.step = some (t, true, k)) : ∃ f', need n t ≤ f' ∧ State.slice f (n + 1) s = ((State.slice f' n t).1, (State.slice f' n t).2.1 + 1, (State.slice f' n t).2.2 + k) := by
  have hs := step_need (n := n) h
  rw [if_pos rfl] at hs
  cases f with
  | zero => omega
  | succ f =>
    refine ⟨f, by omega, ?_⟩
    show (match s.step with | none => _ | some (t, true, k) => _ | some (t, false, k) => _) = _
    rw [h]
theorem slice_more {f n k : Nat} {s t : State} (hf : need (n + 1) s ≤ f) (h : s.step = some (t, false, k)) : ∃ f', need (n + 1) t ≤ f' ∧ State.slice f (n + 1) s = ((State.slice f' (n + 1) t).1, (State.slice f' (n + 1) t).2.1, (State.slice f' (n + 1) t).2.2 + k) := by
  have hs := step_need (n := n) h
  rw [if_neg (by simp)] at hs
  cases f with
  | zero => omega
  | succ f =>
    refine ⟨f, by omega, ?_⟩
    show (match s.step with | none => _ | some (t, true, k) => _ | some (t, false, k) => _) = _
    rw [h]
/-! ### what's seen -/
structure SeenOk (s : State) (l : List Nat) : Prop where
  nd : l.Nodup
  safe : ∀ i ∈ l, SafeId s i
theorem SeenOk.len {s : State} {l : List Nat} (h : SeenOk s l) : l.length ≤ s.cells.length := by
  have := nodup_len (m := s.cells.map (·.id)) h.nd fun i hi => by
    obtain ⟨c, a, b, _⟩ := h.safe i hi
    exact List.mem_map.mpr ⟨c, a, b⟩
  rw [List.length_map] at this
  exact this
theorem SeenOk.next {s : State} {D : List Nat} (g : Good s D) {l : List Nat} (h : SeenOk s l) {c : Nat} (hc : c ∈ l) : SeenOk s (addAll l ((s.at_ c).map Cell.keeps |>.getD [])) := by
  refine ⟨addAll_nodup h.nd, fun i hi => ?_⟩
  rcases addAll_mem.mp hi with q | q
  · exact h.safe i q
  · obtain ⟨d, a, b, hs⟩ := h.safe c hc
    rw [g.at_iff.mpr ⟨a, b⟩] at q
    have q' : i ∈ d.keeps := q
    exact g.flds d a hs i (keeps_mem.mp q').2
theorem follow_end {s : State} {f i : Nat} {l : List Nat} (h : l.length ≤ i) : follow s f l i = l := by
  cases f with
  | zero => rfl
  | succ f =>
    show (match l[i]? with | none => l | some c => _) = l
    rw [List.getElem?_eq_none_iff.mpr h]
theorem follow_step {s : State} {f i c : Nat} {l : List Nat} (hl : SeenOk s l) (hf : s.cells.length ≤ f + i) (h : l[i]? = some c) :
    ∃ f', s.cells.length ≤ f' + (i + 1) ∧ follow s f l i = follow s f' (addAll l ((s.at_ c).map Cell.keeps |>.getD [])) (i + 1) := by
  have hi : i < l.length := (List.getElem?_eq_some_iff.mp h).1
  have := hl.len
  cases f with
  | zero => omega
  | succ f =>
    refine ⟨f, by omega, ?_⟩
    show (match l[i]? with | none => l | some c => _) = _
    rw [h]
end Gc
set_option autoImplicit false
/-! The flat list of calls, cut into calls. -/
namespace Gc
/-- a call as it stands in the list: its number, the numbers behind it -/
inductive KCall : Int → List Int → Kg93.Call → Prop where
  | cell (v : Int) (row : List Int) : KCall 1 (v :: (row.length : Int) :: row) (.cell v row)
  | num (v z : Int) : KCall 2 [v, z] (.num v z)
  | move (v u : Int) : KCall 3 [v, u] (.move v u)
  | clear (v : Int) : KCall 4 [v] (.clear v)
  | get (v u i : Int) : KCall 5 [v, u, i] (.get v u i)
  | set (u i v : Int) : KCall 6 [u, i, v] (.set u i v)
  | weak (v u : Int) : KCall 7 [v, u] (.weak v u)
  | held (v u : Int) : KCall 8 [v, u] (.held v u)
  | keyed (v k x : Int) : KCall 9 [v, k, x] (.keyed v k x)
  | found (v u k : Int) : KCall 10 [v, u, k] (.found v u k)
  | last (u z : Int) : KCall 11 [u, z] (.last u z)
  | words : KCall 12 [] .words
  | young : KCall 13 [] .young
  | slice (n : Int) : KCall 14 [n] (.slice n)
  | counts : KCall 15 [] .counts
  | shape (u : Int) : KCall 16 [u] (.shape u)
  | same (u v : Int) : KCall 17 [u, v] (.same u v)
theorem call_flat {p : Int} {n : Nat} {r t : List Int} {c : List (List Int)} (hs : PyKg93.shape p = some (n, 0)) (h : PyFlat.call PyKg93.shape (p :: r) = some (c, t)) : n ≤ r.length ∧ c = [p :: r.take n] ∧ t = r.drop n := by
  unfold PyFlat.call at h
  dsimp only at h
  rw [hs] at h
  simp only at h
  split at h
  · cases h
  · next hl =>
    simp only [PyFlat.rows, Option.some.injEq, Prod.mk.injEq] at h
    exact ⟨by omega, h.1.symm, h.2.symm⟩
theorem call_row {r t : List Int} {c : List (List Int)} (h : PyFlat.call PyKg93.shape (1 :: r) = some (c, t)) : ∃ v row, r = v :: (row.length : Int) :: (row ++ t) ∧ c = [[1, v], row] := by
  unfold PyFlat.call at h
  dsimp only at h
  have hs : PyKg93.shape 1 = some (1, 1) := rfl
  rw [hs] at h
  simp only at h
  split at h
  · cases h
  · next hl =>
    match r, hl with
    | v :: r2, _ =>
      simp only [List.drop_succ_cons, List.drop_zero, List.take_succ_cons, List.take_zero] at h
      cases r2 with
      | nil => simp [PyFlat.rows, PyFlat.row] at h
      | cons m r3 =>
        by_cases hm : 0 ≤ m ∧ m.toNat ≤ r3.length
        · have e : PyFlat.rows 1 (m :: r3) = some ([r3.take m.toNat], r3.drop m.toNat) := by
            simp only [PyFlat.rows, PyFlat.row, if_pos hm]
          rw [e] at h
          simp only [Option.some.injEq, Prod.mk.injEq] at h
          refine ⟨v, r3.take m.toNat, ?_, h.1.symm⟩
          have e1 : ((r3.take m.toNat).length : Int) = m := by
            rw [List.length_take]
            omega
          rw [e1, ← h.2, List.take_append_drop]
        · have e : PyFlat.rows 1 (m :: r3) = none := by
            simp only [PyFlat.rows, PyFlat.row, if_neg hm]
          rw [e] at h
          cases h
theorem len1 {r : List Int} (h : 1 ≤ r.length) : ∃ a t, r = a :: t := match r, h with | a :: t, _ => ⟨a, t, rfl⟩
theorem len2 {r : List Int} (h : 2 ≤ r.length) : ∃ a b t, r = a :: b :: t := match r, h with | a :: b :: t, _ => ⟨a, b, t, rfl⟩
theorem len3 {r : List Int} (h : 3 ≤ r.length) : ∃ a b c t, r = a :: b :: c :: t := match r, h with | a :: b :: c :: t, _ => ⟨a, b, c, t, rfl⟩
theorem call_cut {l t : List Int} {c : List (List Int)} (h : PyFlat.call PyKg93.shape l = some (c, t)) : ∃ p ns k, l = p :: (ns ++ t) ∧ KCall p ns k ∧ Kg93Neutral.callOf (PyKg93.whole c) = some k ∧ (Kg93Neutral.asked1 (PyKg93.whole c) = true → ∀ v row, k = .cell v row → row.length ≤ 40) := by
  cases l with
  | nil => cases h
  | cons p r =>
    by_cases h1 : p = 1
    · subst h1
      obtain ⟨v, row, e, rfl⟩ := call_row h
      refine ⟨1, _, _, by rw [e]; rfl, .cell v row, rfl, fun ha v' row' ek => ?_⟩
      cases ek
      have h2 : (Kg93Neutral.whole32 v && Kg93Neutral.row row 40) = true := ha
      rw [Bool.and_eq_true] at h2
      have h3 : (row.all (fun (z : Int) => Kg93Neutral.whole32 z) && decide (row.length ≤ 40)) = true := h2.2
      rw [Bool.and_eq_true, decide_eq_true_eq] at h3
      exact h3.2
    have one : ∀ q : Int, p = q → ∀ k : Int → Kg93.Call, (∀ a v row, k a ≠ .cell v row) → PyKg93.shape q = some (1, 0) → (∀ a, KCall q [a] (k a)) → (∀ a, Kg93Neutral.callOf (PyKg93.whole [[q, a]]) = some (k a)) → ∃ p' ns k, p :: r = p' :: (ns ++ t) ∧ KCall p' ns k ∧ Kg93Neutral.callOf (PyKg93.whole c) = some k ∧ (Kg93Neutral.asked1 (PyKg93.whole c) = true → ∀ v row, k = .cell v row → row.length ≤ 40) := by
      rintro q rfl k hc hs hk hw
      obtain ⟨hl, rfl, rfl⟩ := call_flat hs h
      obtain ⟨a, t, rfl⟩ := len1 hl
      exact ⟨p, [a], k a, rfl, hk a, hw a, fun _ v row e => absurd e (hc a v row)⟩
    have two : ∀ q : Int, p = q → ∀ k : Int → Int → Kg93.Call, (∀ a b v row, k a b ≠ .cell v row) → PyKg93.shape q = some (2, 0) → (∀ a b, KCall q [a, b] (k a b)) → (∀ a b, Kg93Neutral.callOf (PyKg93.whole [[q, a, b]]) = some (k a b)) → ∃ p' ns k, p :: r = p' :: (ns ++ t) ∧ KCall p' ns k ∧ Kg93Neutral.callOf (PyKg93.whole c) = some k ∧ (Kg93Neutral.asked1 (PyKg93.whole c) = true → ∀ v row, k = .cell v row → row.length ≤ 40) := by
      rintro q rfl k hc hs hk hw
      obtain ⟨hl, rfl, rfl⟩ := call_flat hs h
      obtain ⟨a, b, t, rfl⟩ := len2 hl
      exact ⟨p, [a, b], k a b, rfl, hk a b, hw a b, fun _ v row e => absurd e (hc a b v row)⟩
    have three : ∀ q : Int, p = q → ∀ k : Int → Int → Int → Kg93.Call, (∀ a b d v row, k a b d ≠ .cell v row) → PyKg93.shape q = some (3, 0) → (∀ a b d, KCall q [a, b, d] (k a b d)) → (∀ a b d, Kg93Neutral.callOf (PyKg93.whole [[q, a, b, d]]) = some (k a b d)) → ∃ p' ns k, p :: r = p' :: (ns ++ t) ∧ KCall p' ns k ∧ Kg93Neutral.callOf (PyKg93.whole c) = some k ∧ (Kg93Neutral.asked1 (PyKg93.whole c) = true → ∀ v row, k = .cell v row → row.length ≤ 40) := by
      rintro q rfl k hc hs hk hw
      obtain ⟨hl, rfl, rfl⟩ := call_flat hs h
      obtain ⟨a, b, d, t, rfl⟩ := len3 hl
      exact ⟨p, [a, b, d], k a b d, rfl, hk a b d, hw a b d, fun _ v row e => absurd e (hc a b d v row)⟩
    have none_ : ∀ q : Int, p = q → ∀ k : Kg93.Call, (∀ v row, k ≠ .cell v row) → PyKg93.shape q = some (0, 0) → KCall q [] k → Kg93Neutral.callOf (PyKg93.whole [[q]]) = some k → ∃ p' ns k, p :: r = p' :: (ns ++ t) ∧ KCall p' ns k ∧ Kg93Neutral.callOf (PyKg93.whole c) = some k ∧ (Kg93Neutral.asked1 (PyKg93.whole c) = true → ∀ v row, k = .cell v row → row.length ≤ 40) := by
      rintro q rfl k hc hs hk hw
      obtain ⟨hl, rfl, rfl⟩ := call_flat hs h
      exact ⟨p, [], k, rfl, hk, hw, fun _ v row e => absurd e (hc v row)⟩
    by_cases h2 : p = 2
    · exact two 2 h2 _ (fun _ _ _ _ e => by cases e) rfl .num fun _ _ => rfl
    by_cases h3 : p = 3
    · exact two 3 h3 _ (fun _ _ _ _ e => by cases e) rfl .move fun _ _ => rfl
    by_cases h4 : p = 4
    · exact one 4 h4 _ (fun _ _ _ e => by cases e) rfl .clear fun _ => rfl
    by_cases h5 : p = 5
    · exact three 5 h5 _ (fun _ _ _ _ _ e => by cases e) rfl .get fun _ _ _ => rfl
    by_cases h6 : p = 6
    · exact three 6 h6 _ (fun _ _ _ _ _ e => by cases e) rfl .set fun _ _ _ => rfl
    by_cases h7 : p = 7
    · exact two 7 h7 _ (fun _ _ _ _ e => by cases e) rfl .weak fun _ _ => rfl
    by_cases h8 : p = 8
    · exact two 8 h8 _ (fun _ _ _ _ e => by cases e) rfl .held fun _ _ => rfl
    by_cases h9 : p = 9
    · exact three 9 h9 _ (fun _ _ _ _ _ e => by cases e) rfl .keyed fun _ _ _ => rfl
    by_cases h10 : p = 10
    · exact three 10 h10 _ (fun _ _ _ _ _ e => by cases e) rfl .found fun _ _ _ => rfl
    by_cases h11 : p = 11
    · exact two 11 h11 _ (fun _ _ _ _ e => by cases e) rfl .last fun _ _ => rfl
    by_cases h12 : p = 12
    · exact none_ 12 h12 _ (fun _ _ e => by cases e) rfl .words rfl
    by_cases h13 : p = 13
    · exact none_ 13 h13 _ (fun _ _ e => by cases e) rfl .young rfl
    by_cases h14 : p = 14
    · exact one 14 h14 _ (fun _ _ _ e => by cases e) rfl .slice fun _ => rfl
    by_cases h15 : p = 15
    · exact none_ 15 h15 _ (fun _ _ e => by cases e) rfl .counts rfl
    by_cases h16 : p = 16
    · exact one 16 h16 _ (fun _ _ _ e => by cases e) rfl .shape fun _ => rfl
    by_cases h17 : p = 17
    · exact two 17 h17 _ (fun _ _ _ _ e => by cases e) rfl .same fun _ _ => rfl
    exfalso
    unfold PyFlat.call at h
    dsimp only at h
    have hs : PyKg93.shape p = none := by
      unfold PyKg93.shape
      simp only [if_neg h1, if_neg h2, if_neg h3, if_neg h4, if_neg h5, if_neg h6, if_neg h7, if_neg h8, if_neg h9, if_neg h10, if_neg h11, if_neg h12, if_neg h13, if_neg h14, if_neg h15, if_neg h16, if_neg h17]
    rw [hs] at h
    cases h
/-- what is due, from a state on -/
def due (s : Kg93.State) (cs : List (List (List Int))) : List Int := PyFlat.told (PyFlat.played Kg93Neutral.step s (cs.map PyKg93.whole))
theorem due_nil (s : Kg93.State) : due s [] = [] := rfl
theorem due_cons {s : Kg93.State} {c : List (List Int)} {k : Kg93.Call} (cs : List (List (List Int))) (h : Kg93Neutral.callOf (PyKg93.whole c) = some k) :
    due s (c :: cs) = (((Kg93.spec s k).2.value :: (Kg93.spec s k).2.out).length : Int) :: ((Kg93.spec s k).2.value :: (Kg93.spec s k).2.out) ++ due (Kg93.spec s k).1 cs := by
  have e : Kg93Neutral.step s (PyKg93.whole c) = ((Kg93.spec s k).1, (Kg93.spec s k).2.value :: (Kg93.spec s k).2.out) := by
    unfold Kg93Neutral.step
    rw [h]
  unfold due
  show PyFlat.told ((Kg93Neutral.step s (PyKg93.whole c)).2 :: PyFlat.played Kg93Neutral.step (Kg93Neutral.step s (PyKg93.whole c)).1 (cs.map PyKg93.whole)) = _
  rw [e]
  rfl
theorem answers_due {l : List Int} {cs : List (List (List Int))} (h : PyFlat.calls PyKg93.shape l.length l = some cs) : PyKg93.answers l = due Kg93.init cs := by
  unfold PyKg93.answers PyKg93.calls
  rw [h]
  rfl
theorem calls_nil {f : Nat} {cs : List (List (List Int))} (h : PyFlat.calls PyKg93.shape f [] = some cs) : cs = [] := by
  cases f <;> (unfold PyFlat.calls at h; cases h; rfl)
theorem calls_cons {f : Nat} {p : Int} {r : List Int} {cs : List (List (List Int))} (h : PyFlat.calls PyKg93.shape f (p :: r) = some cs) : ∃ f' c t cs', PyFlat.call PyKg93.shape (p :: r) = some (c, t) ∧ PyFlat.calls PyKg93.shape f' t = some cs' ∧ cs = c :: cs' := by
  cases f with
  | zero => unfold PyFlat.calls at h; cases h
  | succ f =>
    unfold PyFlat.calls at h
    split at h
    · cases h
    · next c t hc =>
      split at h
      · cases h
      · next cs' hcs =>
        cases h
        exact ⟨f, c, t, cs', hc, hcs, rfl⟩
theorem asked_facts {l : List Int} (h : PyKg93.answers_asked l = true) : ∃ cs, PyFlat.calls PyKg93.shape l.length l = some cs ∧ cs.length ≤ 100 ∧ (∀ c ∈ cs, Kg93Neutral.asked1 (PyKg93.whole c) = true) ∧ (PyKg93.answers l).length ≤ 10000000 := by
  unfold PyKg93.answers_asked at h
  split at h
  · cases h
  · next raw hr =>
    simp only [Bool.and_eq_true] at h
    obtain ⟨⟨⟨⟨_, h2⟩, _⟩, h4⟩, h5⟩ := h
    refine ⟨raw, hr, ?_, fun c hc => ?_, ?_⟩
    · unfold PyFlat.atMost at h2
      exact of_decide_eq_true h2
    · unfold Kg93Neutral.asked at h4
      rw [Bool.and_eq_true] at h4
      exact List.all_eq_true.mp h4.1 _ (List.mem_map_of_mem hc)
    · unfold PyFlat.short at h5
      exact of_decide_eq_true h5
end Gc
set_option autoImplicit false
namespace Gc
open Kg93
/-! A call makes one cell at the most. -/
theorem step_made {s t : State} {b : Bool} {k : Nat} (h : s.step = some (t, b, k)) : t.made = s.made := by
  unfold State.step at h
  split at h
  · simp only [Option.some.injEq, Prod.mk.injEq] at h
    rw [← h.1]; rfl
  · split at h
    · simp only [Option.some.injEq, Prod.mk.injEq] at h
      rw [← h.1]; rfl
    · simp only at h
      split at h <;> (simp only [Option.some.injEq, Prod.mk.injEq] at h; first | (rw [← h.1]; done) | (rw [← h.1]; rfl))
  · split at h
    · cases h
    · split at h <;> (simp only [Option.some.injEq, Prod.mk.injEq] at h; first | (rw [← h.1]; done) | (rw [← h.1]; rfl))
theorem slice_made : ∀ (f n : Nat) (s : State), (State.slice f n s).1.made = s.made
  | 0, n, s => by cases n <;> rfl
  | f + 1, 0, s => rfl
  | f + 1, n + 1, s => by
    cases h : s.step with
    | none =>
      have : State.slice (f + 1) (n + 1) s = ({ s with phase := .rest }, 0, 0) := by
        show (match s.step with | none => _ | some (t, true, k) => _ | some (t, false, k) => _) = _
        rw [h]
      rw [this]
    | some x =>
      obtain ⟨t, b, k⟩ := x
      cases b with
      | true =>
        have : (State.slice (f + 1) (n + 1) s).1 = (State.slice f n t).1 := by
          show (match s.step with | none => _ | some (t, true, k) => _ | some (t, false, k) => _ : State × Nat × Nat).1 = _
          rw [h]
        rw [this, slice_made f n t, step_made h]
      | false =>
        have : (State.slice (f + 1) (n + 1) s).1 = (State.slice f (n + 1) t).1 := by
          show (match s.step with | none => _ | some (t, true, k) => _ | some (t, false, k) => _ : State × Nat × Nat).1 = _
          rw [h]
        rw [this, slice_made f (n + 1) t, step_made h]
theorem room_made (s : State) : s.room.1.made = s.made := by
  unfold State.room
  split
  · rfl
  · show (if s.round.1.young.length < YOUNG then (s.round.1, 1) else (s.round.1.round.1, 2) : State × Nat).1.made = s.made
    split <;> rfl
theorem made_made (s : State) (v : Nat) (k : Kind) (fs : List V) : (made s v k fs).1.made ≤ s.made + 1 := by
  unfold made
  split
  · exact Nat.le_succ _
  · show s.room.1.made + 1 ≤ s.made + 1
    rw [room_made]
    exact Nat.le_refl _
theorem write_made (s : State) (c : Cell) (i : Nat) (x : V) : (s.write c i x).made = s.made := by
  rw [write_eq]
theorem spec_made (s : State) (c : Call) : (spec s c).1.made ≤ s.made + 1 := by
  have h0 : s.made ≤ s.made + 1 := Nat.le_succ _
  cases c with
  | cell v l =>
    show (match var? v, fields? s l with | some v, some fs => if 6 < fs.length then (s, num (-1)) else made s v .plain fs | _, _ => (s, num (-1)) : State × Ans).1.made ≤ _
    split
    · split
      · exact h0
      · exact made_made _ _ _ _
    · exact h0
  | num v z =>
    show (match var? v with | some v => if small z = false then (s, Kg93.num (-1)) else (s.setVar v (.num z), Kg93.num 0) | none => (s, Kg93.num (-1)) : State × Ans).1.made ≤ _
    split
    · split <;> exact h0
    · exact h0
  | move v u =>
    show (match var? v, var? u with | some v, some u => (s.setVar v (s.var u), Kg93.num 0) | _, _ => (s, Kg93.num (-1)) : State × Ans).1.made ≤ _
    split <;> exact h0
  | clear v =>
    show (match var? v with | some v => (s.setVar v .none_, Kg93.num 0) | none => (s, Kg93.num (-1)) : State × Ans).1.made ≤ _
    split <;> exact h0
  | get v u i =>
    unfold spec
    dsimp only
    repeat' split
    all_goals exact h0
  | set u i v =>
    unfold spec
    dsimp only
    repeat' split
    all_goals first | exact h0 | (rw [write_made]; exact h0)
  | weak v u =>
    unfold spec
    dsimp only
    repeat' split
    all_goals first | exact h0 | exact made_made _ _ _ _
  | held v u =>
    unfold spec
    dsimp only
    repeat' split
    all_goals exact h0
  | keyed v k x =>
    unfold spec
    dsimp only
    repeat' split
    all_goals first | exact h0 | exact made_made _ _ _ _
  | found v u k =>
    unfold spec
    dsimp only
    repeat' split
    all_goals exact h0
  | last u z =>
    unfold spec
    dsimp only
    repeat' split
    all_goals exact h0
  | words => exact h0
  | young => exact h0
  | slice n =>
    unfold spec
    dsimp only
    split
    · exact h0
    · rw [slice_made]; exact h0
  | counts => exact h0
  | shape u =>
    unfold spec
    dsimp only
    repeat' split
    all_goals exact h0
  | same u v =>
    unfold spec
    dsimp only
    split <;> exact h0
end Gc
set_option Elab.async false
set_option maxRecDepth 100000
set_option maxHeartbeats 2000000
/-! How a state lies in the heap. -/
namespace Gc
open PySem PySem.Spec PyProof.Rows L2
abbrev Cl := Kg93.Cell
abbrev Sta := Kg93.State
abbrev Vl := Kg93.V
/-- the store's own objects -/
inductive Role where
  | store | vars | cells | told | cell (i : Nat) | flds (i : Nat)
  deriving DecidableEq
def vV (ad : Nat → Addr) : Vl → V
  | .none_ => .non
  | .num z => .int z
  | .cell i => .ref (ad i)
def wordV : Option Int → V
  | none => .non
  | some z => .int z
def kindN : Kg93.Kind → Int
  | .plain => 0
  | .weak => 1
  | .keyed => 2
def colN : Kg93.Colour → Int
  | .white => 0
  | .grey => 1
  | .black => 2
def colV (c : Cl) : V := if c.old = true then .int (colN c.colour) else .non
def phN : Kg93.Phase → Int
  | .rest => 0
  | .mark => 1
  | .sweep _ => 2
def cellF (fl : Addr) (rm : Bool) (c : Cl) : List (Str × V) :=
  [("place", .int c.id), ("kind", .int (kindN c.kind)), ("fields", .ref fl), ("word", wordV c.word), ("young", .bl (!c.old)), ("seasoned", .bl (c.seasoned && !c.old)), ("colour", colV c), ("remembered", .bl rm)]
def storeF (vl cl tl : Addr) (made : Nat) (ph sw : Int) : List (Str × V) :=
  [("variables", .ref vl), ("cells", .ref cl), ("made", .int made), ("phase", .int ph), ("swept", .int sw), ("told", .ref tl)]
/-- what a role's object is -/
def Holds (CC CS : Addr) (B : Role → Addr) (s : Sta) (lst : List Nat) : Role → HO → Prop
  | .store, o => ∃ dx sw, (∀ n, s.phase = .sweep n → sw = (n : Int) - 1) ∧ o = .ins CS dx (storeF (B .vars) (B .cells) (B .told) s.made (phN s.phase) sw)
  | .vars, o => o = .lst (s.vars.map (vV fun i => B (.cell i)))
  | .cells, o => o = .lst (lst.map fun i => .ref (B (.cell i)))
  | .told, o => o = .lst (s.words.map .int)
  | .cell i, o => ∃ c dx, s.at_ i = some c ∧ o = .ins CC dx (cellF (B (.flds i)) (s.remembered.contains i) c)
  | .flds i, o => ∃ c, s.at_ i = some c ∧ o = .lst (c.fields.map (vV fun i => B (.cell i)))
def Valid (s : Sta) : Role → Prop
  | .cell i => (s.at_ i).isSome = true
  | .flds i => (s.at_ i).isSome = true
  | _ => True
theorem valid_of {s t : Sta} (hv : ∀ i, (t.at_ i).isSome = (s.at_ i).isSome) {r : Role} (h : Valid t r) : Valid s r := by
  cases r with
  | cell i => exact ((hv i).symm.trans h : (s.at_ i).isSome = true)
  | flds i => exact ((hv i).symm.trans h : (s.at_ i).isSome = true)
  | _ => trivial
theorem valid_none {s : Sta} {i : Nat} (h : s.at_ i = none) (hv : Valid s (.cell i)) : False := by
  have hv' : (s.at_ i).isSome = true := hv
  rw [h] at hv'
  cases hv'
def Own (s : Sta) (D : List Nat) (r : Role) : Prop := Valid s r ∨ ∃ i ∈ D, r = .cell i
structure RepA (CC CS : Addr) (B : Role → Addr) (H0 H : Hp) (s : Sta) (lst : List Nat) (D : List Nat) : Prop where
  same : Same H0 H
  at_ : ∀ r, Valid s r → ∃ o, H (B r) = some o ∧ Holds CC CS B s lst r o
  dead : ∀ i ∈ D, ∃ dx fs, H (B (.cell i)) = some (.ins CC dx fs) ∧ fs.lookup ("young" : Str) = some (.bl false)
  nd : ∀ i ∈ D, s.at_ i = none
  out : ∀ r, Own s D r → H0 (B r) = none
  inj : ∀ r r', Own s D r → Own s D r' → B r = B r' → r = r'
def Rep (CC CS : Addr) (ad : Nat → Addr) (st : Addr) (H0 H : Hp) (s : Sta) (lst : List Nat) (D : List Nat) : Prop :=
  ∃ B : Role → Addr, B .store = st ∧ (∀ i, B (.cell i) = ad i) ∧ RepA CC CS B H0 H s lst D
section
variable {CC CS : Addr} {B : Role → Addr} {H0 H H1 : Hp} {s : Sta} {lst : List Nat} {D : List Nat} {p : Addr} {o : HO}
theorem RepA.own_some (R : RepA CC CS B H0 H s lst D) {r : Role} (h : Own s D r) : ∃ o, H (B r) = some o := by
  rcases h with h | ⟨i, hi, rfl⟩
  · obtain ⟨o, h, _⟩ := R.at_ r h
    exact ⟨o, h⟩
  · obtain ⟨dx, fs, h, _⟩ := R.dead i hi
    exact ⟨_, h⟩
/-- an object that is none of the store's comes, or is changed -/
theorem RepA.side (R : RepA CC CS B H0 H s lst D) (ne : ∀ r, Own s D r → B r ≠ p) : RepA CC CS B (upd H0 p o) (upd H p o) s lst D := by
  constructor
  · intro b u e
    by_cases q : b = p
    · subst q
      rw [upd_same] at e ⊢
      exact e
    · rw [upd_ne q] at e ⊢
      exact R.same b u e
  · intro r h
    obtain ⟨u, e, k⟩ := R.at_ r h
    exact ⟨u, by rw [upd_ne (ne r (.inl h))]; exact e, k⟩
  · intro i hi
    obtain ⟨dx, fs, e, k⟩ := R.dead i hi
    exact ⟨dx, fs, by rw [upd_ne (ne _ (.inr ⟨i, hi, rfl⟩))]; exact e, k⟩
  · exact R.nd
  · intro r h
    rw [upd_ne (ne r h)]
    exact R.out r h
  · exact R.inj
theorem RepA.ne_fresh (R : RepA CC CS B H0 H s lst D) (hp : H p = none) : ∀ r, Own s D r → B r ≠ p := fun r h => by
  obtain ⟨u, e⟩ := R.own_some h
  exact ne_of_none e hp
theorem RepA.ne_out (R : RepA CC CS B H0 H s lst D) {o' : HO} (hp : H0 p = some o') : ∀ r, Own s D r → B r ≠ p := fun r h q => by
  have := R.out r h
  rw [q, hp] at this
  cases this
theorem RepA.fresh (R : RepA CC CS B H0 H s lst D) (hp : H p = none) : RepA CC CS B (upd H0 p o) (upd H p o) s lst D := R.side (R.ne_fresh hp)
theorem RepA.tmp (R : RepA CC CS B H0 H s lst D) {o' : HO} (hp : H0 p = some o') : RepA CC CS B (upd H0 p o) (upd H p o) s lst D := R.side (R.ne_out hp)
theorem RepA.weak (R : RepA CC CS B H0 H s lst D) (h : Same H1 H0) : RepA CC CS B H1 H s lst D :=
  ⟨h.trans R.same, R.at_, R.dead, R.nd, fun r k => h.free (R.out r k), R.inj⟩
theorem same_upd (h : H p = none) : Same H (upd H p o) := fun b u e => by
  rw [upd_ne (ne_of_none e h)]
  exact e
/-- one role's object is changed in its place -/
theorem RepA.put (R : RepA CC CS B H0 H s lst D) {r : Role} (hr : Valid s r) {t : Sta} {lst' : List Nat} (hv : ∀ i, (t.at_ i).isSome = (s.at_ i).isSome) (ho : Holds CC CS B t lst' r o)
    (hk : ∀ r' o', r' ≠ r → Holds CC CS B s lst r' o' → Holds CC CS B t lst' r' o') : RepA CC CS B H0 (upd H (B r) o) t lst' D := by
  have hvv : ∀ r', Valid t r' → Valid s r' := fun r' h => valid_of hv h
  have own : ∀ r', Own t D r' → Own s D r' := fun r' h => h.imp (hvv r') id
  constructor
  · intro b u e
    have : b ≠ B r := fun q => by
      have := R.out r (.inl hr)
      rw [← q, e] at this
      cases this
    rw [upd_ne this]
    exact R.same b u e
  · intro r' h
    by_cases q : r' = r
    · subst q
      exact ⟨o, upd_same, ho⟩
    · obtain ⟨u, e, k⟩ := R.at_ r' (hvv r' h)
      refine ⟨u, ?_, hk r' u q k⟩
      rw [upd_ne (fun z => q (R.inj _ _ (.inl (hvv r' h)) (.inl hr) z))]
      exact e
  · intro i hi
    obtain ⟨dx, fs, e, k⟩ := R.dead i hi
    refine ⟨dx, fs, ?_, k⟩
    rw [upd_ne (fun z => ?_)]
    · exact e
    · have := R.inj _ _ (.inr ⟨i, hi, rfl⟩) (.inl hr) z
      subst this
      exact valid_none (R.nd i hi) hr
  · intro i hi
    have := hv i
    rw [R.nd i hi] at this
    simpa using this
  · exact fun r h => R.out r (own r h)
  · exact fun r r' h h' => R.inj r r' (own r h) (own r' h')
/-- another list takes a role: it stood beside the store; the object that holds it (role q) is changed -/
theorem RepA.move {on : HO} (R : RepA CC CS B (upd H0 p on) H s lst D) (hp0 : H0 p = none) {r q : Role} (hrq : r ≠ q) (hr : ∀ i, r ≠ .cell i) (hrv : Valid s r) (hqv : Valid s q) {t : Sta} {lst' : List Nat} (hv : ∀ i, (t.at_ i).isSome = (s.at_ i).isSome)
    (hon : Holds CC CS (fun x => if x = r then p else B x) t lst' r on) (ho : Holds CC CS (fun x => if x = r then p else B x) t lst' q o)
    (hk : ∀ r' o', r' ≠ r → r' ≠ q → Holds CC CS B s lst r' o' → Holds CC CS (fun x => if x = r then p else B x) t lst' r' o') : RepA CC CS (fun x => if x = r then p else B x) H0 (upd H (B q) o) t lst' D := by
  have hvv : ∀ r', Valid t r' → Valid s r' := fun r' h => valid_of hv h
  have own : ∀ r', Own t D r' → Own s D r' := fun r' h => h.imp (hvv r') id
  have nep : ∀ r', Own s D r' → B r' ≠ p := R.ne_out upd_same
  have hcell : ∀ i, (if Role.cell i = r then p else B (.cell i)) = B (.cell i) := fun i => if_neg (fun z => hr i z.symm)
  have R0 : Same H0 H := (same_upd hp0).trans R.same
  constructor
  · intro b u e
    have : b ≠ B q := fun z => by
      have h1 := R.out q (.inl hqv)
      have h2 : (upd H0 p on) b = some u := (same_upd hp0) b u e
      rw [← z, h2] at h1
      cases h1
    rw [upd_ne this]
    exact R0 b u e
  · intro r' h
    by_cases z : r' = r
    · subst z
      refine ⟨on, ?_, hon⟩
      simp only [if_true]
      rw [upd_ne (fun w => nep q (.inl hqv) w.symm)]
      exact R.same p on upd_same
    · simp only [if_neg z]
      by_cases z2 : r' = q
      · subst z2
        exact ⟨o, upd_same, ho⟩
      · obtain ⟨u, e, k⟩ := R.at_ r' (hvv r' h)
        refine ⟨u, ?_, hk r' u z z2 k⟩
        rw [upd_ne (fun w => z2 (R.inj _ _ (.inl (hvv r' h)) (.inl hqv) w))]
        exact e
  · intro i hi
    obtain ⟨dx, fs, e, k⟩ := R.dead i hi
    refine ⟨dx, fs, ?_, k⟩
    rw [hcell, upd_ne (fun w => ?_)]
    · exact e
    · have := R.inj _ _ (.inr ⟨i, hi, rfl⟩) (.inl hqv) w
      subst this
      exact valid_none (R.nd i hi) hqv
  · intro i hi
    have := hv i
    rw [R.nd i hi] at this
    simpa using this
  · intro r' h
    by_cases z : r' = r
    · subst z
      simp only [if_true]
      exact hp0
    · simp only [if_neg z]
      exact (same_upd hp0).free (R.out r' (own r' h))
  · intro r1 r2 h1 h2 e
    by_cases z1 : r1 = r
    · by_cases z2 : r2 = r
      · rw [z1, z2]
      · simp only [if_pos z1, if_neg z2] at e
        exact absurd e.symm (nep r2 (own r2 h2))
    · by_cases z2 : r2 = r
      · simp only [if_neg z1, if_pos z2] at e
        exact absurd e (nep r1 (own r1 h1))
      · simp only [if_neg z1, if_neg z2] at e
        exact R.inj r1 r2 (own r1 h1) (own r2 h2) e
/-! ### what one reads -/
theorem RepA.store (R : RepA CC CS B H0 H s lst D) : ∃ dx sw, (∀ n, s.phase = .sweep n → sw = (n : Int) - 1) ∧ H (B .store) = some (.ins CS dx (storeF (B .vars) (B .cells) (B .told) s.made (phN s.phase) sw)) := by
  obtain ⟨o, h, dx, sw, k, rfl⟩ := R.at_ .store trivial
  exact ⟨dx, sw, k, h⟩
theorem RepA.vars (R : RepA CC CS B H0 H s lst D) : H (B .vars) = some (.lst (s.vars.map (vV fun i => B (.cell i)))) := by
  obtain ⟨o, h, rfl⟩ := R.at_ .vars trivial
  exact h
theorem RepA.cells (R : RepA CC CS B H0 H s lst D) : H (B .cells) = some (.lst (lst.map fun i => .ref (B (.cell i)))) := by
  obtain ⟨o, h, rfl⟩ := R.at_ .cells trivial
  exact h
theorem RepA.told (R : RepA CC CS B H0 H s lst D) : H (B .told) = some (.lst (s.words.map .int)) := by
  obtain ⟨o, h, rfl⟩ := R.at_ .told trivial
  exact h
theorem RepA.cell (R : RepA CC CS B H0 H s lst D) {i : Nat} {c : Cl} (hc : s.at_ i = some c) : ∃ dx, H (B (.cell i)) = some (.ins CC dx (cellF (B (.flds i)) (s.remembered.contains i) c)) := by
  obtain ⟨o, h, c', dx, e, rfl⟩ := R.at_ (.cell i) (show (s.at_ i).isSome = true by rw [hc]; rfl)
  rw [hc] at e
  cases e
  exact ⟨dx, h⟩
theorem RepA.flds (R : RepA CC CS B H0 H s lst D) {i : Nat} {c : Cl} (hc : s.at_ i = some c) : H (B (.flds i)) = some (.lst (c.fields.map (vV fun i => B (.cell i)))) := by
  obtain ⟨o, h, c', e, rfl⟩ := R.at_ (.flds i) (show (s.at_ i).isSome = true by rw [hc]; rfl)
  rw [hc] at e
  cases e
  exact h
end
/-! ### attributes by name -/
theorem lk_here {k : Str} {v : V} {r : List (Str × V)} : List.lookup k ((k, v) :: r) = some v := by
  have e : (k == k) = true := beq_self_eq_true k
  simp only [List.lookup, e]
theorem lk_past {k g : Str} {v : V} {r : List (Str × V)} (h : (k == g) = false) : List.lookup k ((g, v) :: r) = List.lookup k r := by
  simp only [List.lookup, h]
theorem put_here {f : Str} {v x : V} {r : List (Str × V)} : putF f v ((f, x) :: r) = (f, v) :: r := if_pos rfl
theorem put_past {f g : Str} {v x : V} {r : List (Str × V)} (h : ¬ g = f) : putF f v ((g, x) :: r) = (g, x) :: putF f v r := if_neg h
section
variable {fl vl cl tl : Addr} {rm : Bool} {c : Cl} {made : Nat} {ph sw : Int}
theorem cf_place : (cellF fl rm c).lookup ("place" : Str) = some (.int c.id) := lk_here
theorem cf_kind : (cellF fl rm c).lookup ("kind" : Str) = some (.int (kindN c.kind)) := (lk_past (by decide +kernel)).trans lk_here
theorem cf_fields : (cellF fl rm c).lookup ("fields" : Str) = some (.ref fl) := (lk_past (by decide +kernel)).trans ((lk_past (by decide +kernel)).trans lk_here)
theorem cf_word : (cellF fl rm c).lookup ("word" : Str) = some (wordV c.word) := (lk_past (by decide +kernel)).trans ((lk_past (by decide +kernel)).trans ((lk_past (by decide +kernel)).trans lk_here))
theorem cf_young : (cellF fl rm c).lookup ("young" : Str) = some (.bl (!c.old)) := (lk_past (by decide +kernel)).trans ((lk_past (by decide +kernel)).trans ((lk_past (by decide +kernel)).trans ((lk_past (by decide +kernel)).trans lk_here)))
theorem cf_seasoned : (cellF fl rm c).lookup ("seasoned" : Str) = some (.bl (c.seasoned && !c.old)) := (lk_past (by decide +kernel)).trans ((lk_past (by decide +kernel)).trans ((lk_past (by decide +kernel)).trans ((lk_past (by decide +kernel)).trans ((lk_past (by decide +kernel)).trans lk_here))))
theorem cf_colour : (cellF fl rm c).lookup ("colour" : Str) = some (colV c) := (lk_past (by decide +kernel)).trans ((lk_past (by decide +kernel)).trans ((lk_past (by decide +kernel)).trans ((lk_past (by decide +kernel)).trans ((lk_past (by decide +kernel)).trans ((lk_past (by decide +kernel)).trans lk_here)))))
theorem cf_remembered : (cellF fl rm c).lookup ("remembered" : Str) = some (.bl rm) := (lk_past (by decide +kernel)).trans ((lk_past (by decide +kernel)).trans ((lk_past (by decide +kernel)).trans ((lk_past (by decide +kernel)).trans ((lk_past (by decide +kernel)).trans ((lk_past (by decide +kernel)).trans ((lk_past (by decide +kernel)).trans lk_here))))))
theorem sf_variables : (storeF vl cl tl made ph sw).lookup ("variables" : Str) = some (.ref vl) := lk_here
theorem sf_cells : (storeF vl cl tl made ph sw).lookup ("cells" : Str) = some (.ref cl) := (lk_past (by decide +kernel)).trans lk_here
theorem sf_made : (storeF vl cl tl made ph sw).lookup ("made" : Str) = some (.int made) := (lk_past (by decide +kernel)).trans ((lk_past (by decide +kernel)).trans lk_here)
theorem sf_phase : (storeF vl cl tl made ph sw).lookup ("phase" : Str) = some (.int ph) := (lk_past (by decide +kernel)).trans ((lk_past (by decide +kernel)).trans ((lk_past (by decide +kernel)).trans lk_here))
theorem sf_swept : (storeF vl cl tl made ph sw).lookup ("swept" : Str) = some (.int sw) := (lk_past (by decide +kernel)).trans ((lk_past (by decide +kernel)).trans ((lk_past (by decide +kernel)).trans ((lk_past (by decide +kernel)).trans lk_here)))
theorem sf_told : (storeF vl cl tl made ph sw).lookup ("told" : Str) = some (.ref tl) := (lk_past (by decide +kernel)).trans ((lk_past (by decide +kernel)).trans ((lk_past (by decide +kernel)).trans ((lk_past (by decide +kernel)).trans ((lk_past (by decide +kernel)).trans lk_here))))
end
end Gc
set_option Elab.async false
set_option maxRecDepth 100000
set_option maxHeartbeats 2000000
/-! == of two instances of a class without an __eq__ of its own; list.remove over such. -/
namespace Gc
open PySem PySem.Spec PyProof.Rows PySem.SeqAt
section
variable {M : Model} {prog : Program} {w : World} {A : Around} {E : Value → Shared → Prop} {s : Shared} {K : PySem.W.Frag} {x y C : Addr} {ox oy : Obj} {od od' : Option Obj}
theorem callEq_same {Q : Value → Shared → Prop} (X : K.In s.heap) (I : PySem.W.InstAt s.heap x ox C od) (hm : PySem.W.mroIn K C (.type "object") = some true) (hq : Q (.bool true) s) :
    wpAny (model prog w) A (call (.builtin "object.__eq__") [.ref x, .ref x]) Q E s :=
  wpAny_call (codeAny_call_builtin F.cmp_object.eq.plain F.cmpEntry_eq (PySem.W.check_slot F.cmpKind_eq F.cmpSplit_eq (I.type.andThen (PySem.W.looks_mroIn X hm)) (F.cmpArgs_eq _ _) (objEq_entry_same hq)))
theorem callEq_other {Q : Value → Shared → Prop} (X : K.In s.heap) (I : PySem.W.InstAt s.heap x ox C od) (hy : s.heap.get? y = some oy) (hxy : x ≠ y) (hm : PySem.W.mroIn K C (.type "object") = some true) (hq : Q .notImplemented s) :
    wpAny (model prog w) A (call (.builtin "object.__eq__") [.ref x, .ref y]) Q E s :=
  wpAny_call (codeAny_call_builtin F.cmp_object.eq.plain F.cmpEntry_eq (PySem.W.check_slot F.cmpKind_eq F.cmpSplit_eq (I.type.andThen (PySem.W.looks_mroIn X hm)) (F.cmpArgs_eq _ _) (objEq_entry_other hxy I.at_ hy (by rw [I.cls]; intro e; cases e) hq)))
theorem isSame_int {R : Bool → Shared → Prop} {i : Int} {t : Tok} (h : R false s) : wpAny M A (isSame (.ref x) (.int i t)) R E s := wpAny_of_eq (rfl : isSame (.ref x) (.int i t) = pure false) h
theorem entry_int {i : Int} {t : Tok} {Q : Fin → Shared → Prop} (hq : Q (.done (.ret .notImplemented)) s) : wpAny M A (Builtin.«object.__eq__» ⟨[.ref x, .int i t], []⟩) Q E s := by
  unfold Builtin.«object.__eq__»
  repeat (first | with_reducible refine isSame_int ?_ | wp_step)
  exact hq
theorem callEq_int {i : Int} {t : Tok} {Q : Value → Shared → Prop} (X : K.In s.heap) (I : PySem.W.InstAt s.heap x ox C od) (hm : PySem.W.mroIn K C (.type "object") = some true) (hq : Q .notImplemented s) :
    wpAny (model prog w) A (call (.builtin "object.__eq__") [.ref x, .int i t]) Q E s :=
  wpAny_call (codeAny_call_builtin F.cmp_object.eq.plain F.cmpEntry_eq (PySem.W.check_slot F.cmpKind_eq F.cmpSplit_eq (I.type.andThen (PySem.W.looks_mroIn X hm)) (F.cmpArgs_eq _ _) (entry_int hq)))
theorem rc_same (hu : A.units < cLine) (X : K.In s.heap) (I : PySem.W.InstAt s.heap x ox C od) (hm : PySem.W.mroIn K C (.type "object") = some true) (hs : PySem.W.findIn K (.ref C) "__eq__" = some (some (.builtin "object.__eq__"))) :
    RcAt A s (.ref x) (.ref x) true := fun prog w E Q h => by
  have one : wpAny (model prog w) A (tryCompare (.ref x) "__eq__" (.ref x)) (fun r s' => r = some (.bool true) ∧ s' = s) E s := by
    unfold tryCompare
    exact wpAny_bind (HN.ifBound_objEq X I hs (callEq_same X I hm (wpAny_pure ⟨rfl, rfl⟩)))
  simp only [richCompare, cmpInfo_Eq, oneThing_ref]
  refine wpAny_holding (wpAny_bind (wpAny_cRoomFor hu ?_))
  refine wpAny_bind (I.type.here ?_)
  refine wpAny_bind (I.type.here ?_)
  rw [if_neg (by simp)]
  refine wpAny_bind (wpAny_pure ?_)
  simp only [Bool.false_eq_true, if_false, Bool.not_false, if_true]
  refine wpAny_bind (m := tryCompare (.ref x) _ (.ref x)) (wpAny_mono one (fun r s1 z => ?_) fun _ _ e => e)
  obtain ⟨z1, z2⟩ := z
  subst z1
  subst z2
  exact wpAny_pure h
theorem rc_other (hu : A.units < cLine) (X : K.In s.heap) (I : PySem.W.InstAt s.heap x ox C od) (J : PySem.W.InstAt s.heap y oy C od') (hxy : x ≠ y) (hm : PySem.W.mroIn K C (.type "object") = some true) (hs : PySem.W.findIn K (.ref C) "__eq__" = some (some (.builtin "object.__eq__"))) :
    RcAt A s (.ref x) (.ref y) false := fun prog w E Q h => by
  have one : wpAny (model prog w) A (tryCompare (.ref x) "__eq__" (.ref y)) (fun r s' => r = none ∧ s' = s) E s := by
    unfold tryCompare
    exact wpAny_bind (HN.ifBound_objEq X I hs (callEq_other X I J.at_ hxy hm (wpAny_pure ⟨rfl, rfl⟩)))
  have two : wpAny (model prog w) A (tryCompare (.ref y) "__eq__" (.ref x)) (fun r s' => r = none ∧ s' = s) E s := by
    unfold tryCompare
    exact wpAny_bind (HN.ifBound_objEq X J hs (callEq_other X J I.at_ (Ne.symm hxy) hm (wpAny_pure ⟨rfl, rfl⟩)))
  simp only [richCompare, cmpInfo_Eq, oneThing_ref]
  refine wpAny_holding (wpAny_bind (wpAny_cRoomFor hu ?_))
  refine wpAny_bind (I.type.here ?_)
  refine wpAny_bind (J.type.here ?_)
  rw [if_neg (by simp)]
  refine wpAny_bind (wpAny_pure ?_)
  simp only [Bool.false_eq_true, if_false, Bool.not_false, if_true]
  refine wpAny_bind (m := tryCompare (.ref x) _ (.ref y)) (wpAny_mono one (fun r s1 z => ?_) fun _ _ e => e)
  obtain ⟨z1, z2⟩ := z
  subst z1
  subst z2
  refine wpAny_bind (m := tryCompare (.ref y) _ (.ref x)) (wpAny_mono two (fun r s2 z => ?_) fun _ _ e => e)
  obtain ⟨z1, z2⟩ := z
  subst z1
  subst z2
  exact wpAny_bind (wpAny_rule (wpAny_bind (wpAny_isSame_ref_other hxy I.at_ J.at_ (by rw [I.cls]; intro e; cases e) (wpAny_pure h))))
theorem sub_int : PySem.W.subIn K (.type "int") (.ref C) = some false := by
  have e : fastBuiltinMro "int" = some [.type "int", .type "object"] := by decide +kernel
  show (fastBuiltinMro "int").map (·.contains (.ref C)) = some false
  rw [e]
  first
    | rfl
    | simp
end
end Gc
set_option Elab.async false
set_option maxRecDepth 100000
set_option maxHeartbeats 2000000
namespace Gc
open PySem PySem.Spec PyProof.Rows PySem.SeqAt
section
variable {M : Model} {prog : Program} {w : World} {A : Around} {E : Value → Shared → Prop} {s : Shared} {K : PySem.W.Frag} {x y C dx : Addr} {ox oy : Obj} {od od' : Option Obj}
theorem int_entry {i : Int} {t : Tok} : Meets (Builtin.«int.__eq__» ⟨[.int i t, .ref x], []⟩) (fun _ R s => s.heap.get? x = some (PySem.W.instObj C dx) ∧ R (.ok (.ret .notImplemented)) s) := by
  intro prog w A R s h
  obtain ⟨hp, g, d, tk, os⟩ := s
  obtain ⟨hl, h⟩ := h
  wp_walk using AutoSeq1.wpAny_loadPart' hl
  exact h
theorem rc_int {i : Int} {t : Tok} (hu : A.units < cLine) (X : K.In s.heap) (I : PySem.W.InstAt s.heap x (PySem.W.instObj C dx) C od) (hm : PySem.W.mroIn K C (.type "object") = some true) (hs : PySem.W.findIn K (.ref C) "__eq__" = some (some (.builtin "object.__eq__"))) :
    RcAt A s (.ref x) (.int i t) false := fun prog w E Q h => by
  have one : wpAny (model prog w) A (tryCompare (.ref x) "__eq__" (.int i t)) (fun r s' => r = none ∧ s' = s) E s := by
    unfold tryCompare
    exact wpAny_bind (HN.ifBound_objEq X I hs (callEq_int X I hm (wpAny_pure ⟨rfl, rfl⟩)))
  have two : wpAny (model prog w) A (tryCompare (.int i t) "__eq__" (.ref x)) (fun r s' => r = none ∧ s' = s) E s :=
    wpAny_tryCompare_declines (typeIs_int s i t) F.slot_int_eq_refl (call_meets F.slot_int_eq_refl (typeIs_int s i t) F.entry_int_eq (F.args_int_eq_2 _ _) int_entry ⟨I.at_, rfl, rfl, rfl⟩)
  simp only [richCompare, cmpInfo_Eq, oneThing_ref]
  refine wpAny_holding (wpAny_bind (wpAny_cRoomFor hu ?_))
  refine wpAny_bind (I.type.here ?_)
  refine wpAny_bind (wpAny_typeOf (typeIs_int s i t) ?_)
  split
  · refine wpAny_bind ((PySem.W.looks_subIn X sub_int).here ?_)
    simp only [Bool.false_eq_true, if_false, Bool.not_false, if_true]
    refine wpAny_bind (m := tryCompare (.ref x) _ (.int i t)) (wpAny_mono one (fun r s1 z => ?_) fun _ _ e => e)
    obtain ⟨z1, z2⟩ := z
    subst z1
    subst z2
    refine wpAny_bind (m := tryCompare (.int i t) _ (.ref x)) (wpAny_mono two (fun r s2 z => ?_) fun _ _ e => e)
    obtain ⟨z1, z2⟩ := z
    subst z1
    subst z2
    exact wpAny_bind (wpAny_rule (wpAny_bind (wpAny_of_eq (rfl : isSame (.ref x) (.int i t) = pure false) (wpAny_pure h))))
  · rename_i q
    exact absurd (by simp) q
theorem rc_noneL (hu : A.units < cLine) (X : K.In s.heap) (I : PySem.W.InstAt s.heap x ox C od) (hm : PySem.W.mroIn K C (.type "object") = some true) (hN : PySem.W.mroIn K C (.type "NoneType") = some false) (hs : PySem.W.findIn K (.ref C) "__eq__" = some (some (.builtin "object.__eq__"))) :
    RcAt A s .none (.ref x) false := fun prog w E Q h => by
  have one : wpAny (model prog w) A (tryCompare (.ref x) "__eq__" .none) (fun r s' => r = none ∧ s' = s) E s := by
    unfold tryCompare
    exact wpAny_bind (HN.ifBound_objEq X I hs (HN.call_objEq X I hm (wpAny_pure ⟨rfl, rfl⟩)))
  have two : wpAny (model prog w) A (tryCompare .none "__eq__" (.ref x)) (fun r s' => r = none ∧ s' = s) E s :=
    wpAny_tryCompare_declines (show s.TypeIs .none "NoneType" from rfl) F.slot_NoneType_eq_refl (call_gives F.slot_NoneType_eq_refl rfl F.entry_NoneType_eq (F.args_NoneType_eq_2 _ _) (NoneType___eq___none_ref_0 x) ⟨rfl, rfl, rfl⟩)
  have o1 : oneThing? .Eq .none (.ref x) = none := rfl
  simp only [richCompare, cmpInfo_Eq, o1]
  refine wpAny_holding (wpAny_bind (wpAny_cRoomFor hu ?_))
  refine wpAny_bind (wpAny_typeOf (show s.TypeIs .none "NoneType" from rfl) ?_)
  refine wpAny_bind (I.type.here ?_)
  split
  · refine wpAny_bind ((PySem.W.looks_mroIn X hN).here ?_)
    simp only [Bool.false_eq_true, if_false, Bool.not_false, if_true]
    refine wpAny_bind (m := tryCompare .none _ (.ref x)) (wpAny_mono two (fun r s2 z => ?_) fun _ _ e => e)
    obtain ⟨z1, z2⟩ := z
    subst z1
    subst z2
    refine wpAny_bind (m := tryCompare (.ref x) _ .none) (wpAny_mono one (fun r s1 z => ?_) fun _ _ e => e)
    obtain ⟨z1, z2⟩ := z
    subst z1
    subst z2
    exact wpAny_bind (wpAny_rule (wpAny_bind (wpAny_of_eq (rfl : isSame .none (.ref x) = pure false) (wpAny_pure h))))
  · rename_i q
    exact absurd (by simp) q
theorem eqAt_ref (hu : A.units < cLine) (X : K.In s.heap) (I : PySem.W.InstAt s.heap x ox C od) (J : PySem.W.InstAt s.heap y oy C od') (hm : PySem.W.mroIn K C (.type "object") = some true) (hs : PySem.W.findIn K (.ref C) "__eq__" = some (some (.builtin "object.__eq__"))) :
    EqAt A s (.ref x) (.ref y) (decide (x = y)) := by
  by_cases e : x = y
  · subst e
    rw [decide_eq_true rfl]
    exact EqAt.same _
  · rw [decide_eq_false e]
    intro prog w E Q h
    unfold eqBool
    refine wpAny_holding ?_
    refine wpAny_ite_split (fun hab => absurd (by have := eq_of_beq hab; injection this) e) (fun _ => ?_)
    exact wpAny_bind (rc_other hu X I J e hm hs prog w E _ (wpAny_truthy_bool h))
end
end Gc
namespace Gc
open PySem PySem.Spec PyProof.Rows L2
/-- what == of cells wants to know of their class -/
structure EqC (K : PySem.W.Frag) (C : Addr) : Prop where
  hm : PySem.W.mroIn K C (.type "object") = some true
  hN : PySem.W.mroIn K C (.type "NoneType") = some false
  hs : PySem.W.findIn K (.ref C) "__eq__" = some (some (.builtin "object.__eq__"))
def EqV (C : Addr) (H : Hp) (x y : V) (b : Bool) : Prop :=
  (∃ a a' dx dx' fs fs', x = .ref a ∧ y = .ref a' ∧ H a = some (.ins C dx fs) ∧ H a' = some (.ins C dx' fs') ∧ b = decide (a = a')) ∨
  (∃ a dx fs, x = .ref a ∧ H a = some (.ins C dx fs) ∧ (y = .non ∨ ∃ i, y = .int i) ∧ b = false) ∨
  (∃ a dx fs, y = .ref a ∧ H a = some (.ins C dx fs) ∧ x = .non ∧ b = false)
def rEqC (C : Addr) : R2 := fun x y H Q => ∃ b, EqV C H x y b ∧ Q (.bl b) H
section
variable {X : Cx} {C : Addr}
theorem op_eqC (T : EqC X.K C) (hu : X.A.units < cLine) : OpR X (compareOp .Eq) (rEqC C) := by
  intro pins s σ H x y v u Q I rx ry h
  obtain ⟨b, h, q⟩ := h
  show wpAny (model X.prog X.w) X.A (richCompare .Eq v u) _ _ s
  have fin : EP X pins σ Q (.bool b) s := fin_bl I q rfl
  rcases h with ⟨a, a', dx, dx', fs, fs', rfl, rfl, ha, ha', rfl⟩ | ⟨a, dx, fs, rfl, ha, hy, rfl⟩ | ⟨a, dx, fs, rfl, ha, rfl, rfl⟩
  · cases rx
    cases ry
    obtain ⟨mA, O, _⟩ := ins_get I.hok ha
    obtain ⟨od, J, _⟩ := O.look
    obtain ⟨mA', O', _⟩ := ins_get I.hok ha'
    obtain ⟨od', J', _⟩ := O'.look
    by_cases e : a = a'
    · subst e
      rw [decide_eq_true rfl] at fin
      exact rc_same hu I.kIn J T.hm T.hs X.prog X.w _ _ fin
    · rw [decide_eq_false e] at fin
      exact rc_other hu I.kIn J J' e T.hm T.hs X.prog X.w _ _ fin
  · cases rx
    obtain ⟨mA, O, _⟩ := ins_get I.hok ha
    obtain ⟨od, J, _⟩ := O.look
    rcases hy with rfl | ⟨i, rfl⟩
    · cases ry
      exact HN.rc_none hu I.kIn J T.hm T.hs X.prog X.w _ _ fin
    · obtain ⟨t, rfl⟩ := ry
      exact rc_int hu I.kIn J T.hm T.hs X.prog X.w _ _ fin
  · cases rx
    cases ry
    obtain ⟨mA, O, _⟩ := ins_get I.hok ha
    obtain ⟨od, J, _⟩ := O.look
    exact rc_noneL hu I.kIn J T.hm T.hN T.hs X.prog X.w _ _ fin
/-- the list's items are cells; the first that is the one asked for goes -/
def rRemC (C : Addr) : V → List V → Hp → VK → Prop := fun x xs H Q => ∃ (l a : Addr) (as : List Addr) (j : Nat), x = .ref l ∧ xs = [.ref a] ∧ H l = some (.lst (as.map V.ref)) ∧ (∀ b ∈ as, ∃ dx fs, H b = some (.ins C dx fs)) ∧ as[j]? = some a ∧ (∀ m : Nat, m < j → as[m]? ≠ some a) ∧ Q .non (upd H l (.lst ((as.eraseIdx j).map V.ref)))
theorem refs_of : ∀ {as : List Addr} {us : List Value}, Vals (as.map V.ref) us → us = as.map Value.ref
  | [], _, .nil => rfl
  | a :: as, _, .cons r t => by
    cases r
    rw [refs_of t]
    rfl
theorem erase_mapR : ∀ (l : List Addr) (j : Nat), (l.map V.ref).eraseIdx j = (l.eraseIdx j).map V.ref
  | [], j => by simp
  | a :: r, 0 => by simp
  | a :: r, j + 1 => by
    have ih := erase_mapR r j
    simp [ih]
def eqR (a : Addr) : Value → Bool
  | .ref b => decide (b = a)
  | _ => false
theorem mt_removeC (T : EqC X.K C) (hu : X.A.units + 1 < cLine) : MtM X "list.remove" (rRemC C) := by
  intro pins s σ H x xs v us Q I rx rxs h
  obtain ⟨l, a, as, j, rfl, rfl, hH, hall, hj, hno, q⟩ := h
  cases rx
  obtain ⟨u, rfl, ru⟩ := rxs.one
  cases ru
  obtain ⟨z, its, n, r, hl, e⟩ := I.lstM hH
  have hi := refs_of r
  rw [List.length_map] at hl z
  have hjn : j < as.length := (List.getElem?_eq_some_iff.mp hj).1
  have hlen : its.length = as.length := by rw [hi, List.length_map]
  have hjl : j < its.toArray.size := by rw [List.size_toArray]; omega
  have hget : ∀ (m : Nat) (hm : m < its.toArray.size) (hm2 : m < as.length), its.toArray[m] = Value.ref as[m] := by
    intro m hm hm2
    subst hi
    simp
  have ham : a ∈ as := List.mem_of_getElem? hj
  obtain ⟨dxa, fsa, hha⟩ := hall a ham
  refine call_meets PySem.F.slot_list_remove ⟨_, e, rfl⟩ PySem.F.entry_list_remove (PySem.F.args_list_remove_2 _ _)
    (PySem.SeqAt.list_removeAt l its.toArray n none #[] (.ref a) (eqR a) j hjl ?_ ?_ (by rw [List.size_toArray]; omega)) ⟨e, ?_, ?_⟩
  · rw [hget j hjl hjn]
    obtain ⟨_, h2⟩ := List.getElem?_eq_some_iff.mp hj
    rw [h2]
    exact decide_eq_true rfl
  · intro m hm hmj
    have hmn : m < as.length := by omega
    rw [hget m hm hmn]
    refine decide_eq_false fun e2 => hno m hmj ?_
    rw [List.getElem?_eq_getElem hmn, e2]
  · intro y hy
    have hy' : y ∈ its := by simpa using hy
    rw [hi] at hy'
    obtain ⟨b, hb, rfl⟩ := List.mem_map.mp hy'
    obtain ⟨dxb, fsb, hhb⟩ := hall b hb
    obtain ⟨mA, O, _⟩ := ins_get I.hok hhb
    obtain ⟨od, J, _⟩ := O.look
    obtain ⟨mA', O', _⟩ := ins_get I.hok hha
    obtain ⟨od', J', _⟩ := O'.look
    exact eqAt_ref (A := X.A.in1) hu I.kIn J J' T.hm T.hs
  · have rr := r.eraseIdx j
    rw [erase_mapR] at rr
    refine ⟨.non, _, I.lset (its' := its.eraseIdx j) (t' := s.toks) hH e ?_ rr ?_, rfl, q⟩
    · show its.toArray.eraseIdxIfInBounds j = (its.eraseIdx j).toArray
      rw [List.eraseIdxIfInBounds_toArray]
    · rw [List.length_map]
      have := List.length_eraseIdx_le as j
      omega
end
end Gc
set_option Elab.async false
set_option maxRecDepth 100000
set_option maxHeartbeats 2000000
namespace Gc
open PySem PySem.Spec PyProof.Rows L2
/-! ### the text by places -/
def top (i : Nat) : Stmt := PySem.Challenge.pw_letgostore_s01_answers.main.body.getD i (.Pass ⟨0, 0, 0, 0⟩)
abbrev s_Cell___init__ : Stmt := inClass (top 11) 0
theorem sc_Cell___init__ : FnScope ["self", "place", "kind", "fields"] ["self", "place", "kind", "fields"] (defScope s_Cell___init__) := ⟨rfl, rfl, rfl, by decide +kernel, rfl, by decide +kernel, by decide +kernel⟩
abbrev s_Store___init__ : Stmt := inClass (top 12) 0
theorem sc_Store___init__ : FnScope ["self"] ["self"] (defScope s_Store___init__) := ⟨rfl, rfl, rfl, by decide +kernel, rfl, by decide +kernel, by decide +kernel⟩
abbrev s_is_cell : Stmt := top 13
theorem sc_is_cell : FnScope ["held"] ["held"] (defScope s_is_cell) := ⟨rfl, rfl, rfl, by decide +kernel, rfl, by decide +kernel, by decide +kernel⟩
abbrev s_is_cell_of : Stmt := top 14
theorem sc_is_cell_of : FnScope ["kind", "held"] ["kind", "held"] (defScope s_is_cell_of) := ⟨rfl, rfl, rfl, by decide +kernel, rfl, by decide +kernel, by decide +kernel⟩
abbrev s_is_young : Stmt := top 15
theorem sc_is_young : FnScope ["held"] ["held"] (defScope s_is_young) := ⟨rfl, rfl, rfl, by decide +kernel, rfl, by decide +kernel, by decide +kernel⟩
abbrev s_is_white : Stmt := top 16
theorem sc_is_white : FnScope ["held"] ["held"] (defScope s_is_white) := ⟨rfl, rfl, rfl, by decide +kernel, rfl, by decide +kernel, by decide +kernel⟩
abbrev s_is_come_to : Stmt := top 23
theorem sc_is_come_to : FnScope ["held"] ["held"] (defScope s_is_come_to) := ⟨rfl, rfl, rfl, by decide +kernel, rfl, by decide +kernel, by decide +kernel⟩
abbrev s_count_young : Stmt := top 17
theorem sc_count_young : FnScope ["store", "cell"] ["store"] (defScope s_count_young) := ⟨rfl, rfl, rfl, by decide +kernel, rfl, by decide +kernel, by decide +kernel⟩
abbrev s_add_cell : Stmt := top 18
theorem sc_add_cell : FnScope ["store", "kind", "fields", "cell"] ["store", "kind", "fields"] (defScope s_add_cell) := ⟨rfl, rfl, rfl, by decide +kernel, rfl, by decide +kernel, by decide +kernel⟩
abbrev s_empty_cell : Stmt := top 19
theorem sc_empty_cell : FnScope ["cell"] ["cell"] (defScope s_empty_cell) := ⟨rfl, rfl, rfl, by decide +kernel, rfl, by decide +kernel, by decide +kernel⟩
abbrev s_tell_last_word : Stmt := top 20
theorem sc_tell_last_word : FnScope ["store", "cell"] ["store", "cell"] (defScope s_tell_last_word) := ⟨rfl, rfl, rfl, by decide +kernel, rfl, by decide +kernel, by decide +kernel⟩
abbrev s_write_field : Stmt := top 21
theorem sc_write_field : FnScope ["store", "cell", "i", "held"] ["store", "cell", "i", "held"] (defScope s_write_field) := ⟨rfl, rfl, rfl, by decide +kernel, rfl, by decide +kernel, by decide +kernel⟩
abbrev s_stays : Stmt := top 42
theorem sc_stays : FnScope ["kept", "held"] ["kept", "held"] (defScope s_stays) := ⟨rfl, rfl, rfl, by decide +kernel, rfl, by decide +kernel, by decide +kernel⟩
abbrev s_held_at_first : Stmt := top 43
theorem sc_held_at_first : FnScope ["store", "found", "cell"] ["store"] (defScope s_held_at_first) := ⟨rfl, rfl, rfl, by decide +kernel, rfl, by decide +kernel, by decide +kernel⟩
abbrev s_keep_from : Stmt := top 44
theorem sc_keep_from : FnScope ["kept", "waiting", "held"] ["kept", "waiting"] (defScope s_keep_from) := ⟨rfl, rfl, rfl, by decide +kernel, rfl, by decide +kernel, by decide +kernel⟩
abbrev s_values_to_keep : Stmt := top 45
theorem sc_values_to_keep : FnScope ["store", "kept", "keyed", "values", "cell", "value"] ["store", "kept"] (defScope s_values_to_keep) := ⟨rfl, rfl, rfl, by decide +kernel, rfl, by decide +kernel, by decide +kernel⟩
abbrev s_find_kept : Stmt := top 46
theorem sc_find_kept : FnScope ["store", "kept", "waiting"] ["store"] (defScope s_find_kept) := ⟨rfl, rfl, rfl, by decide +kernel, rfl, by decide +kernel, by decide +kernel⟩
abbrev s_empty_if_gone : Stmt := top 47
theorem sc_empty_if_gone : FnScope ["kept", "cell"] ["kept", "cell"] (defScope s_empty_if_gone) := ⟨rfl, rfl, rfl, by decide +kernel, rfl, by decide +kernel, by decide +kernel⟩
abbrev s_colour_when_old : Stmt := top 48
theorem sc_colour_when_old : FnScope ["store", "cell"] ["store", "cell"] (defScope s_colour_when_old) := ⟨rfl, rfl, rfl, by decide +kernel, rfl, by decide +kernel, by decide +kernel⟩
abbrev s_grow_up : Stmt := top 49
theorem sc_grow_up : FnScope ["store", "cell"] ["store", "cell"] (defScope s_grow_up) := ⟨rfl, rfl, rfl, by decide +kernel, rfl, by decide +kernel, by decide +kernel⟩
abbrev s_is_to_be_remembered : Stmt := top 50
theorem sc_is_to_be_remembered : FnScope ["cell", "held"] ["cell"] (defScope s_is_to_be_remembered) := ⟨rfl, rfl, rfl, by decide +kernel, rfl, by decide +kernel, by decide +kernel⟩
abbrev s_round_of_the_young : Stmt := top 51
theorem sc_round_of_the_young : FnScope ["store", "kept", "gone", "cell"] ["store"] (defScope s_round_of_the_young) := ⟨rfl, rfl, rfl, by decide +kernel, rfl, by decide +kernel, by decide +kernel⟩
/-! ### what the top has written -/
def KInt (mg : Str → Option Value) (x : Str) (n : Int) : Prop := ∃ u, mg x = some u ∧ RelV (.int n) u
structure Txt (K : PySem.W.Frag) (mg : Str → Option Value) (CC CS : Addr) : Prop where
  isC : C8.InsC K CC
  eqC : EqC K CC
  cS : Cls K CS
  ni : PySem.W.kitOne K (.type "NoneType") (.ref CC) = some false
  ii : PySem.W.kitOne K (.type "int") (.ref CC) = some false
  g_Cell : mg "Cell" = some (.ref CC)
  g_Store : mg "Store" = some (.ref CS)
  n_place : NoAttr K CC "place"
  n_kind : NoAttr K CC "kind"
  n_fields : NoAttr K CC "fields"
  n_word : NoAttr K CC "word"
  n_young : NoAttr K CC "young"
  n_seasoned : NoAttr K CC "seasoned"
  n_colour : NoAttr K CC "colour"
  n_remembered : NoAttr K CC "remembered"
  m_variables : NoAttr K CS "variables"
  m_cells : NoAttr K CS "cells"
  m_made : NoAttr K CS "made"
  m_phase : NoAttr K CS "phase"
  m_swept : NoAttr K CS "swept"
  m_told : NoAttr K CS "told"
  b_isinstance : mg "isinstance" = none
  b_len : mg "len" = none
  b_any : mg "any" = none
  b_all : mg "all" = none
  b_range : mg "range" = none
  b_list : mg "list" = none
  b_enumerate : mg "enumerate" = none
  k_VARIABLES : KInt mg "VARIABLES" 16
  k_PLAIN : KInt mg "PLAIN" 0
  k_WEAK : KInt mg "WEAK" 1
  k_KEYED : KInt mg "KEYED" 2
  k_WHITE : KInt mg "WHITE" 0
  k_GREY : KInt mg "GREY" 1
  k_BLACK : KInt mg "BLACK" 2
  k_RESTS : KInt mg "RESTS" 0
  k_MARKS : KInt mg "MARKS" 1
  k_SWEEPS : KInt mg "SWEEPS" 2
/-! ### a def under its name -/
structure Def (K : PySem.W.Frag) (mg : Str → Option Value) (x : Str) (st : Stmt) (ps : List Str) : Prop where
  ex : ∃ (f : Addr) (fd : FuncData), Fun K x x st f fd ∧ mg x = some (.ref f) ∧ Binds K fd ps []
abbrev Cal (P : Program) (w : World) (K : PySem.W.Frag) (mg : Str → Option Value) (base : Heap) (k : Nat) (x : Str) (sp : Sp) : Prop := C8.Cal P w K mg base k x sp []
theorem Def.cal {P : Program} {w : World} {K : PySem.W.Frag} {mg : Str → Option Value} {base : Heap} {x : Str} {st : Stmt} {N ps : List Str} {k : Nat} {sp : Sp} (F : Def K mg x st ps) (S : FnScope N ps (defScope st)) (len : ∀ vs H Q E, sp vs H Q E → vs.length = ps.length)
    (hbody : ∀ (f : Addr) (cdv : Value) (A : Around) (outer : List Env) (s : Shared) (H : Hp) (vs : List V) (Q : VK) (E : XK), Room k (A.deeper (envOfC x (defScope st) s.heap.objs.size f cdv)) → sp vs H Q E →
      ∃ t, PSs (cxOf CX0 P w K mg base N x (defScope st) f cdv A outer s H E).nox (defBody st) t ∧ t { nx := fun _ H' => Q .non H', rt := Q } (start N vs) H) : Cal P w K mg base (k + 1) x sp := by
  obtain ⟨f, fd, F, hm, b⟩ := F.ex
  exact ⟨f, fd, ps, [], F.ok S len (hbody f), hm, F.kp, b, .nil⟩
end Gc
set_option Elab.async false
set_option maxRecDepth 100000
set_option maxHeartbeats 2000000
namespace Gc
open PySem PySem.Spec PyProof.Rows L2
/-! ### cells told apart -/
def NoCell (x : V) : Prop := x = .non ∨ ∃ i, x = .int i
def IsC (CC : Addr) (H : Hp) (x : V) (b : Bool) : Prop := (b = true ∧ ∃ a dx fs, x = .ref a ∧ H a = some (.ins CC dx fs)) ∨ (b = false ∧ NoCell x)
def IsK (CC : Addr) (H : Hp) (n : Int) (x : V) (b : Bool) : Prop := (∃ a dx fs k, x = .ref a ∧ H a = some (.ins CC dx fs) ∧ fs.lookup ("kind" : Str) = some (.int k) ∧ b = decide (k = n)) ∨ (b = false ∧ NoCell x)
def IsY (CC : Addr) (H : Hp) (x : V) (b : Bool) : Prop := (∃ a dx fs, x = .ref a ∧ H a = some (.ins CC dx fs) ∧ fs.lookup ("young" : Str) = some (.bl b)) ∨ (b = false ∧ NoCell x)
def IsW (CC : Addr) (H : Hp) (x : V) (b : Bool) : Prop := (∃ a dx fs v, x = .ref a ∧ H a = some (.ins CC dx fs) ∧ fs.lookup ("colour" : Str) = some v ∧ scal v (.int 0) = true ∧ b = decide (v = V.int 0)) ∨ (b = false ∧ NoCell x)
def hasK (kvs : List (Key × V)) (n : Int) : Bool := (valV kvs (Sum.inl n)).isSome
def IsS (CC : Addr) (H : Hp) (kvs : List (Key × V)) (x : V) (b : Bool) : Prop := (∃ a dx fs y, x = .ref a ∧ H a = some (.ins CC dx fs) ∧ fs.lookup ("young" : Str) = some (.bl y) ∧ (y = false → b = true) ∧ (y = true → ∃ pl, fs.lookup ("place" : Str) = some (.int pl) ∧ b = hasK kvs pl)) ∨ (b = true ∧ NoCell x)
def sp_is_cell (CC : Addr) : Sp := fun vs H Q _ => ∃ x b, vs = [x] ∧ IsC CC H x b ∧ Q (.bl b) H
def sp_is_cell_of (CC : Addr) : Sp := fun vs H Q _ => ∃ n x b, vs = [.int n, x] ∧ IsK CC H n x b ∧ Q (.bl b) H
def sp_is_young (CC : Addr) : Sp := fun vs H Q _ => ∃ x b, vs = [x] ∧ IsY CC H x b ∧ Q (.bl b) H
def sp_is_white (CC : Addr) : Sp := fun vs H Q _ => ∃ x b, vs = [x] ∧ IsW CC H x b ∧ Q (.bl b) H
def sp_is_come_to (CC : Addr) : Sp := fun vs H Q _ => ∃ x d b, vs = [x] ∧ IsC CC H x d ∧ IsW CC H x b ∧ Q (.bl (d && !b)) H
def sp_stays (CC : Addr) : Sp := fun vs H Q _ => ∃ k x kvs b, vs = [.ref k, x] ∧ H k = some (.dK kvs) ∧ IsS CC H kvs x b ∧ Q (.bl b) H
theorem IsY.isC {CC : Addr} {H : Hp} {x : V} {b : Bool} (h : IsY CC H x b) : ∃ d, IsC CC H x d := by
  rcases h with ⟨a, dx, fs, rfl, ha, _⟩ | ⟨_, h⟩
  · exact ⟨true, .inl ⟨rfl, a, dx, fs, rfl, ha⟩⟩
  · exact ⟨false, .inr ⟨rfl, h⟩⟩
section
variable {P : Program} {w : World} {K : PySem.W.Frag} {mg : Str → Option Value} {base : Heap} {CC CS : Addr}
theorem cal_is_cell (F : Def K mg "is_cell" s_is_cell ["held"]) (T : Txt K mg CC CS) : Cal P w K mg base 1 "is_cell" (sp_is_cell CC) := by
  refine F.cal sc_is_cell (fun vs H Q E h => ?_) (fun f cdv A outer s H vs Q E hr h => ?_)
  · obtain ⟨x, b, rfl, _⟩ := h
    rfl
  · obtain ⟨x, b, rfl, hc, k⟩ := h
    refine ⟨_, (pss_one (ps_ret (pe_callB call_isi (by rfl) T.b_isinstance (by decide +kernel) (pa_cons (pv 0) (pa_cons (pe_glob (v := .ref _) rfl T.g_Cell rfl) pa_nil))))), ?_⟩
    refine ⟨x, rfl, x, .ref CC, ?_⟩
    rcases hc with ⟨rfl, a, dx, fs, rfl, ha⟩ | ⟨rfl, rfl | ⟨i, rfl⟩⟩
    · exact ⟨.ref CC, .ref CC, true, rfl, .own CC, .base (.ins ha T.isC.cl T.isC.ha T.isC.hn T.isC.htk T.isC.hm), T.isC.me, k⟩
    · exact ⟨.type "NoneType", .ref CC, false, rfl, .own CC, .base .non, T.ni, k⟩
    · exact ⟨.type "int", .ref CC, false, rfl, .own CC, .base (.int i), T.ii, k⟩
theorem cal_is_cell_of (F : Def K mg "is_cell_of" s_is_cell_of ["kind", "held"]) (T : Txt K mg CC CS) (c_is_cell : Cal P w K mg base 1 "is_cell" (sp_is_cell CC)) : Cal P w K mg base 2 "is_cell_of" (sp_is_cell_of CC) := by
  refine F.cal sc_is_cell_of (fun vs H Q E h => ?_) (fun f cdv A outer s H vs Q E hr h => ?_)
  · obtain ⟨n, x, b, rfl, _⟩ := h
    rfl
  · obtain ⟨n, x, b, rfl, hc, k⟩ := h
    refine ⟨_, (pss_one (ps_ret (pe_and (C8.pe_c c_is_cell hr (by decide) rfl (pa_cons (pv 1) pa_nil)) (pe_one (pe_cmpR op_eq (pe_fld (pv 1) rfl) (pv 0) (nomark _)))))), ?_⟩
    rcases hc with ⟨a, dx, fs, kd, rfl, ha, hl, rfl⟩ | ⟨rfl, hx⟩
    · refine ⟨_, rfl, _, true, rfl, .inl ⟨rfl, a, dx, fs, rfl, ha⟩, true, rfl, iteT ?_⟩
      refine ⟨_, rfl, a, CC, dx, fs, _, rfl, ha, T.isC.cl, T.n_kind, hl, _, rfl, rfl, ?_⟩
      have e : decide (V.int kd = V.int n) = decide (kd = n) := by simp
      rw [e]
      exact k
    · exact ⟨_, rfl, x, false, rfl, .inr ⟨rfl, hx⟩, false, rfl, iteF k⟩
theorem cal_is_young (F : Def K mg "is_young" s_is_young ["held"]) (T : Txt K mg CC CS) (c_is_cell : Cal P w K mg base 1 "is_cell" (sp_is_cell CC)) : Cal P w K mg base 2 "is_young" (sp_is_young CC) := by
  refine F.cal sc_is_young (fun vs H Q E h => ?_) (fun f cdv A outer s H vs Q E hr h => ?_)
  · obtain ⟨x, b, rfl, _⟩ := h
    rfl
  · obtain ⟨x, b, rfl, hc, k⟩ := h
    refine ⟨_, (pss_one (ps_ret (pe_and (C8.pe_c c_is_cell hr (by decide) rfl (pa_cons (pv 0) pa_nil)) (pe_one (pe_fld (pv 0) rfl))))), ?_⟩
    rcases hc with ⟨a, dx, fs, rfl, ha, hl⟩ | ⟨rfl, hx⟩
    · refine ⟨_, rfl, _, true, rfl, .inl ⟨rfl, a, dx, fs, rfl, ha⟩, true, rfl, iteT ?_⟩
      exact ⟨_, rfl, a, CC, dx, fs, _, rfl, ha, T.isC.cl, T.n_young, hl, k⟩
    · exact ⟨_, rfl, x, false, rfl, .inr ⟨rfl, hx⟩, false, rfl, iteF k⟩
theorem cal_is_white (F : Def K mg "is_white" s_is_white ["held"]) (T : Txt K mg CC CS) (c_is_cell : Cal P w K mg base 1 "is_cell" (sp_is_cell CC)) : Cal P w K mg base 2 "is_white" (sp_is_white CC) := by
  refine F.cal sc_is_white (fun vs H Q E h => ?_) (fun f cdv A outer s H vs Q E hr h => ?_)
  · obtain ⟨x, b, rfl, _⟩ := h
    rfl
  · obtain ⟨x, b, rfl, hc, k⟩ := h
    refine ⟨_, (pss_one (ps_ret (pe_and (C8.pe_c c_is_cell hr (by decide) rfl (pa_cons (pv 0) pa_nil)) (pe_one (pe_cmpR op_eq (pe_fld (pv 0) rfl) (C8.pe_gc rfl T.k_WHITE) (nomark _)))))), ?_⟩
    rcases hc with ⟨a, dx, fs, v, rfl, ha, hl, hs, rfl⟩ | ⟨rfl, hx⟩
    · refine ⟨_, rfl, _, true, rfl, .inl ⟨rfl, a, dx, fs, rfl, ha⟩, true, rfl, iteT ?_⟩
      exact ⟨_, rfl, a, CC, dx, fs, _, rfl, ha, T.isC.cl, T.n_colour, hl, hs, k⟩
    · exact ⟨_, rfl, x, false, rfl, .inr ⟨rfl, hx⟩, false, rfl, iteF k⟩
theorem cal_is_come_to (F : Def K mg "is_come_to" s_is_come_to ["held"]) (T : Txt K mg CC CS) (c_is_cell : Cal P w K mg base 1 "is_cell" (sp_is_cell CC)) (c_is_white : Cal P w K mg base 2 "is_white" (sp_is_white CC)) : Cal P w K mg base 3 "is_come_to" (sp_is_come_to CC) := by
  refine F.cal sc_is_come_to (fun vs H Q E h => ?_) (fun f cdv A outer s H vs Q E hr h => ?_)
  · obtain ⟨x, d, b, rfl, _⟩ := h
    rfl
  · obtain ⟨x, d, b, rfl, hc, hw, k⟩ := h
    refine ⟨_, (pss_one (ps_ret (pe_and (C8.pe_c c_is_cell hr (by decide) rfl (pa_cons (pv 0) pa_nil)) (pe_one (pe_not (C8.pe_c c_is_white hr (by decide) rfl (pa_cons (pv 0) pa_nil))))))), ?_⟩
    refine ⟨_, rfl, _, d, rfl, hc, d, rfl, ?_⟩
    cases d with
    | false => exact iteF k
    | true => exact iteT ⟨_, rfl, _, b, rfl, hw, b, rfl, k⟩
theorem cal_stays (F : Def K mg "stays" s_stays ["kept", "held"]) (T : Txt K mg CC CS) (c_is_young : Cal P w K mg base 2 "is_young" (sp_is_young CC)) : Cal P w K mg base 3 "stays" (sp_stays CC) := by
  refine F.cal sc_stays (fun vs H Q E h => ?_) (fun f cdv A outer s H vs Q E hr h => ?_)
  · obtain ⟨kd, x, kvs, b, rfl, _⟩ := h
    rfl
  · obtain ⟨kd, x, kvs, b, rfl, hk, hc, k⟩ := h
    refine ⟨_, (pss_one (ps_ret (pe_or (pe_not (C8.pe_c c_is_young hr (by decide) rfl (pa_cons (pv 1) pa_nil))) (pe_one (pe_cmp (pc_din (hu_of hr) (pe_fld (pv 1) rfl) (pv 0)) rfl))))), ?_⟩
    rcases hc with ⟨a, dx, fs, y, rfl, ha, hl, h0, h1⟩ | ⟨rfl, hx⟩
    · refine ⟨_, rfl, _, y, rfl, .inl ⟨a, dx, fs, rfl, ha, hl⟩, y, rfl, !y, rfl, ?_⟩
      cases y with
      | false =>
        refine iteT ?_
        rw [h0 rfl] at k
        exact k
      | true =>
        obtain ⟨pl, hp, rfl⟩ := h1 rfl
        refine iteF ?_
        exact ⟨_, rfl, a, CC, dx, fs, _, rfl, ha, T.isC.cl, T.n_place, hp, _, rfl, kd, _, rfl, DGet.k (k := Sum.inl pl) hk, k⟩
    · exact ⟨_, rfl, x, false, rfl, .inr ⟨rfl, hx⟩, false, rfl, true, rfl, iteT k⟩
end
end Gc
set_option Elab.async false
set_option maxRecDepth 100000
set_option maxHeartbeats 2000000
namespace Gc
open PySem PySem.Spec PyProof.Rows L2
/-! ### cells by number, changed -/
theorem at_id {s : Sta} {i : Nat} {c : Cl} (h : s.at_ i = some c) : c.id = i := (at_mem h).2
theorem at_in {s : Sta} {i : Nat} {c : Cl} (h : s.at_ i = some c) : c ∈ s.cells := (at_mem h).1
theorem put_at {s : Sta} {c : Cl} (j : Nat) : (s.put c).at_ j = (s.at_ j).map fun d => if d.id = c.id then c else d := by
  unfold Kg93.State.put Kg93.State.at_
  refine at_map (fun d => if d.id = c.id then c else d) (fun d => ?_) j
  by_cases e : d.id = c.id
  · simp only [if_pos e]; exact e.symm
  · simp only [if_neg e]
theorem put_at_same {s : Sta} {c d : Cl} {i : Nat} (h : s.at_ i = some d) (hi : c.id = i) : (s.put c).at_ i = some c := by
  rw [put_at, h]
  simp only [Option.map_some]
  rw [if_pos ((at_id h).trans hi.symm)]
theorem put_at_ne {s : Sta} {c : Cl} {j : Nat} (h : j ≠ c.id) : (s.put c).at_ j = s.at_ j := by
  rw [put_at]
  cases e : s.at_ j with
  | none => rfl
  | some d =>
    simp only [Option.map_some]
    rw [if_neg]
    rw [at_id e]
    exact h
theorem put_some {s : Sta} {c : Cl} (j : Nat) : ((s.put c).at_ j).isSome = (s.at_ j).isSome := by
  rw [put_at, Option.isSome_map]
theorem put_ids (s : Sta) (c : Cl) : (s.put c).cells.map (·.id) = s.cells.map (·.id) := by
  unfold Kg93.State.put
  simp only [List.map_map]
  apply List.map_congr_left
  intro d hd
  by_cases e : d.id = c.id
  · simp [e]
  · simp [e]
section
variable {CC CS : Addr} {B : Role → Addr} {H0 H : Hp} {s : Sta} {lst : List Nat} {D : List Nat} {p dx : Addr} {i : Nat} {c c' : Cl}
/-- a cell's attributes, its fields apart -/
theorem RepA.putCell (R : RepA CC CS B H0 H s lst D) (hc : s.at_ i = some c) (hid : c'.id = i) (hf : c'.fields = c.fields) {rem : List Nat} (hrem : ∀ j, j ≠ i → rem.contains j = s.remembered.contains j) :
    RepA CC CS B H0 (upd H (B (.cell i)) (.ins CC dx (cellF (B (.flds i)) (rem.contains i) c'))) { s.put c' with remembered := rem } lst D := by
  refine R.put (r := .cell i) (show (s.at_ i).isSome = true by rw [hc]; rfl) (t := { s.put c' with remembered := rem }) (fun j => put_some j) ⟨c', dx, put_at_same hc hid, rfl⟩ ?_
  intro r' o' hne h
  cases r' with
  | cell j =>
    have hj : j ≠ i := fun z => hne (by rw [z])
    obtain ⟨d, dx', e, rfl⟩ := h
    refine ⟨d, dx', ?_, ?_⟩
    · exact (put_at_ne (fun z => hj (z.trans hid))).trans e
    · show _ = HO.ins CC dx' (cellF (B (.flds j)) (rem.contains j) d)
      rw [hrem j hj]
  | flds j =>
    obtain ⟨d, e, rfl⟩ := h
    by_cases hj : j = i
    · subst hj
      rw [hc] at e
      cases e
      exact ⟨c', put_at_same hc hid, by rw [hf]⟩
    · exact ⟨d, (put_at_ne (fun z => hj (z.trans hid))).trans e, rfl⟩
  | store => exact h
  | vars => exact h
  | cells => exact h
  | told => exact h
theorem RepA.putFlds (R : RepA CC CS B H0 H s lst D) (hc : s.at_ i = some c) (fs : List Vl) :
    RepA CC CS B H0 (upd H (B (.flds i)) (.lst (fs.map (vV fun i => B (.cell i))))) (s.put { c with fields := fs }) lst D := by
  have hid := at_id hc
  refine R.put (r := .flds i) (show (s.at_ i).isSome = true by rw [hc]; rfl) (t := s.put { c with fields := fs }) (fun j => put_some j) ⟨_, put_at_same hc hid, rfl⟩ ?_
  intro r' o' hne h
  cases r' with
  | cell j =>
    obtain ⟨d, dx', e, rfl⟩ := h
    by_cases hj : j = i
    · subst hj
      rw [hc] at e
      cases e
      exact ⟨_, dx', put_at_same hc hid, rfl⟩
    · exact ⟨d, dx', (put_at_ne (s := s) (c := { c with fields := fs }) (fun z => hj (z.trans hid))).trans e, rfl⟩
  | flds j =>
    have hj : j ≠ i := fun z => hne (by rw [z])
    obtain ⟨d, e, rfl⟩ := h
    exact ⟨d, (put_at_ne (s := s) (c := { c with fields := fs }) (fun z => hj (z.trans hid))).trans e, rfl⟩
  | store => exact h
  | vars => exact h
  | cells => exact h
  | told => exact h
/-- another list of fields -/
theorem RepA.moveFlds {fs : List Vl} (R : RepA CC CS B (upd H0 p (.lst (fs.map (vV fun i => B (.cell i))))) H s lst D) (hp0 : H0 p = none) (hc : s.at_ i = some c) :
    RepA CC CS (fun x => if x = .flds i then p else B x) H0 (upd H (B (.cell i)) (.ins CC dx (cellF p (s.remembered.contains i) c))) (s.put { c with fields := fs }) lst D := by
  have hid := at_id hc
  have hv : (s.at_ i).isSome = true := by rw [hc]; rfl
  refine R.move hp0 (r := .flds i) (q := .cell i) (fun z => by cases z) (fun j z => by cases z) hv hv (t := s.put { c with fields := fs }) (fun j => put_some j) ⟨_, put_at_same hc hid, rfl⟩ ⟨_, dx, put_at_same hc hid, ?_⟩ ?_
  · simp only [if_true]
    rfl
  intro r' o' hne hne2 h
  cases r' with
  | cell j =>
    have hj : j ≠ i := fun z => hne2 (by rw [z])
    obtain ⟨d, dx', e, rfl⟩ := h
    refine ⟨d, dx', (put_at_ne (s := s) (c := { c with fields := fs }) (fun z => hj (z.trans hid))).trans e, ?_⟩
    show _ = HO.ins CC dx' (cellF (if Role.flds j = Role.flds i then p else B (.flds j)) (s.remembered.contains j) d)
    rw [if_neg (fun z => hj (by injection z))]
  | flds j =>
    have hj : j ≠ i := fun z => hne (by rw [z])
    obtain ⟨d, e, rfl⟩ := h
    exact ⟨d, (put_at_ne (s := s) (c := { c with fields := fs }) (fun z => hj (z.trans hid))).trans e, rfl⟩
  | store => exact h
  | vars => exact h
  | cells => exact h
  | told => exact h
theorem RepA.setVar (R : RepA CC CS B H0 H s lst D) (v : Nat) (x : Vl) : RepA CC CS B H0 (upd H (B .vars) (.lst ((s.vars.set v x).map (vV fun i => B (.cell i))))) (s.setVar v x) lst D := by
  refine R.put (r := .vars) trivial (t := s.setVar v x) (fun j => rfl) rfl ?_
  intro r' o' hne h
  cases r' with
  | vars => exact absurd rfl hne
  | _ => exact h
theorem RepA.setWords (R : RepA CC CS B H0 H s lst D) (ws : List Int) : RepA CC CS B H0 (upd H (B .told) (.lst (ws.map .int))) { s with words := ws } lst D := by
  refine R.put (r := .told) trivial (t := { s with words := ws }) (fun j => rfl) rfl ?_
  intro r' o' hne h
  cases r' with
  | told => exact absurd rfl hne
  | _ => exact h
/-- another list of cells -/
theorem RepA.moveCells {lst' : List Nat} (R : RepA CC CS B (upd H0 p (.lst (lst'.map fun i => .ref (B (.cell i))))) H s lst D) (hp0 : H0 p = none) {sw : Int} (hsw : ∀ n, s.phase = .sweep n → sw = (n : Int) - 1) :
    RepA CC CS (fun x => if x = .cells then p else B x) H0 (upd H (B .store) (.ins CS dx (storeF (B .vars) p (B .told) s.made (phN s.phase) sw))) s lst' D := by
  refine R.move hp0 (r := .cells) (q := .store) (fun z => by cases z) (fun j z => by cases z) trivial trivial (t := s) (fun j => rfl) rfl ⟨dx, sw, hsw, rfl⟩ ?_
  intro r' o' hne hne2 h
  cases r' with
  | cells => exact absurd rfl hne
  | store => exact absurd rfl hne2
  | _ => exact h
/-- cells are let go: the list has them no more; those of E are still to be read as old ones -/
theorem RepA.drop (R : RepA CC CS B H0 H s lst D) {t : Sta} {E : List Nat} (hv : t.vars = s.vars) (hm : t.made = s.made) (hp : t.phase = s.phase) (hw : t.words = s.words) (hat : ∀ i c, t.at_ i = some c → s.at_ i = some c) (hrem : ∀ i c, t.at_ i = some c → t.remembered.contains i = s.remembered.contains i)
    (hE : ∀ i ∈ E, i ∈ D ∨ ∃ c, s.at_ i = some c ∧ c.old = true) (hn : ∀ i ∈ E, t.at_ i = none) : RepA CC CS B H0 H t lst E := by
  have hvv : ∀ r', Valid t r' → Valid s r' := fun r' h => by
    cases r' with
    | cell i =>
      have h' : (t.at_ i).isSome = true := h
      obtain ⟨c, e⟩ := Option.isSome_iff_exists.mp h'
      exact (show (s.at_ i).isSome = true by rw [hat i c e]; rfl)
    | flds i =>
      have h' : (t.at_ i).isSome = true := h
      obtain ⟨c, e⟩ := Option.isSome_iff_exists.mp h'
      exact (show (s.at_ i).isSome = true by rw [hat i c e]; rfl)
    | _ => trivial
  have own : ∀ r', Own t E r' → Own s D r' := fun r' h => by
    rcases h with h | ⟨i, hi, rfl⟩
    · exact .inl (hvv r' h)
    · rcases hE i hi with h | ⟨c, h, _⟩
      · exact .inr ⟨i, h, rfl⟩
      · exact .inl (show (s.at_ i).isSome = true by rw [h]; rfl)
  constructor
  · exact R.same
  · intro r h
    obtain ⟨o, e, k⟩ := R.at_ r (hvv r h)
    refine ⟨o, e, ?_⟩
    cases r with
    | store =>
      unfold Holds at k ⊢
      rw [hm, hp]
      exact k
    | vars =>
      unfold Holds at k ⊢
      rw [hv]
      exact k
    | cells => exact k
    | told =>
      unfold Holds at k ⊢
      rw [hw]
      exact k
    | cell i =>
      have h' : (t.at_ i).isSome = true := h
      obtain ⟨c, ec⟩ := Option.isSome_iff_exists.mp h'
      obtain ⟨c', dx, e', ho⟩ := k
      rw [hat i c ec] at e'
      cases e'
      exact ⟨c, dx, ec, by rw [hrem i c ec]; exact ho⟩
    | flds i =>
      have h' : (t.at_ i).isSome = true := h
      obtain ⟨c, ec⟩ := Option.isSome_iff_exists.mp h'
      obtain ⟨c', e', ho⟩ := k
      rw [hat i c ec] at e'
      cases e'
      exact ⟨c, ec, ho⟩
  · intro i hi
    rcases hE i hi with h | ⟨c, h, ho⟩
    · exact R.dead i h
    · obtain ⟨dx, e⟩ := R.cell h
      refine ⟨dx, _, e, ?_⟩
      rw [cf_young, ho]
      rfl
  · exact hn
  · exact fun r h => R.out r (own r h)
  · exact fun r r' h h' => R.inj r r' (own r h) (own r' h')
/-! ### values read -/
def HeldOk (s : Sta) (D : List Nat) (v : Vl) : Prop := ∀ i, v = .cell i → (s.at_ i).isSome = true ∨ i ∈ D
def AliveV (s : Sta) (v : Vl) : Prop := ∀ j, v = .cell j → (s.at_ j).isSome = true
theorem AliveV.held {s : Sta} {v : Vl} (h : AliveV s v) (D : List Nat) : HeldOk s D v := fun j e => .inl (h j e)
def whiteB (s : Sta) : Vl → Bool
  | .cell i => s.isWhite i
  | _ => false
theorem dec_white (c : Cl) : decide (colV c = V.int 0) = (c.old && c.colour == .white) := by
  unfold colV
  cases h : c.old with
  | false => simp
  | true => cases c.colour <;> rfl
theorem scal_col (c : Cl) (n : Int) : scal (colV c) (.int n) = true := by
  unfold colV
  split <;> rfl
def isCellB : Vl → Bool
  | .cell _ => true
  | _ => false
def youngB (s : Sta) : Vl → Bool
  | .cell i => s.isYoung i
  | _ => false
def stayB (s : Sta) (kvs : List (Key × V)) : Vl → Bool
  | .cell i => !s.isYoung i || hasK kvs i
  | _ => true
theorem noCell_of {ad : Nat → Addr} {v : Vl} (h : isCellB v = false) : NoCell (vV ad v) := by
  cases v with
  | none_ => exact .inl rfl
  | num z => exact .inr ⟨z, rfl⟩
  | cell i => cases h
theorem RepA.isC (R : RepA CC CS B H0 H s lst D) {v : Vl} (h : HeldOk s D v) : IsC CC H (vV (fun i => B (.cell i)) v) (isCellB v) := by
  cases v with
  | none_ => exact .inr ⟨rfl, noCell_of rfl⟩
  | num z => exact .inr ⟨rfl, noCell_of rfl⟩
  | cell i =>
    left
    rcases h i rfl with h | h
    · obtain ⟨c, e⟩ := Option.isSome_iff_exists.mp h
      obtain ⟨dx, e⟩ := R.cell e
      exact ⟨rfl, _, dx, _, rfl, e⟩
    · obtain ⟨dx, fs, e, _⟩ := R.dead i h
      exact ⟨rfl, _, dx, fs, rfl, e⟩
theorem RepA.isY (R : RepA CC CS B H0 H s lst D) {v : Vl} (h : HeldOk s D v) : IsY CC H (vV (fun i => B (.cell i)) v) (youngB s v) := by
  cases v with
  | none_ => exact .inr ⟨rfl, noCell_of rfl⟩
  | num z => exact .inr ⟨rfl, noCell_of rfl⟩
  | cell i =>
    left
    rcases h i rfl with h | h
    · obtain ⟨c, e⟩ := Option.isSome_iff_exists.mp h
      obtain ⟨dx, e2⟩ := R.cell e
      refine ⟨_, dx, _, rfl, e2, ?_⟩
      rw [cf_young]
      show _ = some (V.bl (s.isYoung i))
      unfold Kg93.State.isYoung
      rw [e]
      rfl
    · obtain ⟨dx, fs, e, hl⟩ := R.dead i h
      refine ⟨_, dx, fs, rfl, e, ?_⟩
      rw [hl]
      show _ = some (V.bl (s.isYoung i))
      unfold Kg93.State.isYoung
      rw [R.nd i h]
      rfl
theorem RepA.isW (R : RepA CC CS B H0 H s lst D) {v : Vl} (h : AliveV s v) : IsW CC H (vV (fun i => B (.cell i)) v) (whiteB s v) := by
  cases v with
  | none_ => exact .inr ⟨rfl, noCell_of rfl⟩
  | num z => exact .inr ⟨rfl, noCell_of rfl⟩
  | cell i =>
    left
    obtain ⟨c, e⟩ := Option.isSome_iff_exists.mp (h i rfl)
    obtain ⟨dx, e2⟩ := R.cell e
    refine ⟨_, dx, _, _, rfl, e2, cf_colour, scal_col _ _, ?_⟩
    rw [dec_white]
    show s.isWhite i = _
    unfold Kg93.State.isWhite
    rw [e]
    rfl
theorem RepA.isS (R : RepA CC CS B H0 H s lst D) {v : Vl} (h : HeldOk s D v) (kvs : List (Key × V)) : IsS CC H kvs (vV (fun i => B (.cell i)) v) (stayB s kvs v) := by
  cases v with
  | none_ => exact .inr ⟨rfl, noCell_of rfl⟩
  | num z => exact .inr ⟨rfl, noCell_of rfl⟩
  | cell i =>
    left
    rcases h i rfl with h | h
    · obtain ⟨c, e⟩ := Option.isSome_iff_exists.mp h
      obtain ⟨dx, e2⟩ := R.cell e
      have hy : s.isYoung i = !c.old := by
        unfold Kg93.State.isYoung
        rw [e]
        rfl
      refine ⟨_, dx, _, !c.old, rfl, e2, cf_young, fun z => ?_, fun z => ⟨c.id, cf_place, ?_⟩⟩
      · show (!s.isYoung i || hasK kvs i) = true
        rw [hy, z]
        rfl
      · show (!s.isYoung i || hasK kvs i) = _
        rw [hy, z, at_id e]
        rfl
    · obtain ⟨dx, fs, e, hl⟩ := R.dead i h
      refine ⟨_, dx, fs, false, rfl, e, hl, fun _ => ?_, fun z => by cases z⟩
      show (!s.isYoung i || hasK kvs i) = true
      unfold Kg93.State.isYoung
      rw [R.nd i h]
      rfl
theorem RepA.isK (R : RepA CC CS B H0 H s lst D) {v : Vl} (n : Int) (h : ∀ i, v = .cell i → (s.at_ i).isSome = true) : IsK CC H n (vV (fun i => B (.cell i)) v) (match v with | .cell i => (s.at_ i).any fun c => decide (kindN c.kind = n) | _ => false) := by
  cases v with
  | none_ => exact .inr ⟨rfl, noCell_of rfl⟩
  | num z => exact .inr ⟨rfl, noCell_of rfl⟩
  | cell i =>
    left
    obtain ⟨c, e⟩ := Option.isSome_iff_exists.mp (h i rfl)
    obtain ⟨dx, e2⟩ := R.cell e
    refine ⟨_, dx, _, _, rfl, e2, cf_kind, ?_⟩
    simp only [e, Option.any_some]
end
end Gc
set_option Elab.async false
set_option maxRecDepth 100000
set_option maxHeartbeats 2000000
namespace Gc
open PySem PySem.Spec PyProof.Rows L2
abbrev idsS (s : Sta) : List Nat := s.cells.map (·.id)
abbrev adB (B : Role → Addr) : Nat → Addr := fun i => B (.cell i)
/-! ### sizes -/
theorem Good.count {s : Sta} {D : List Nat} (g : Good s D) : s.cells.length ≤ s.made := by
  have h1 : (s.cells.map (·.id)).Nodup := by
    rw [List.Nodup, List.pairwise_map]
    exact List.Pairwise.imp (fun h e => by omega) g.sorted
  have h2 := nodup_len (m := List.range s.made) h1 (fun x hx => by
    obtain ⟨c, hc, rfl⟩ := List.mem_map.mp hx
    exact List.mem_range.mpr (g.lt c hc))
  rw [List.length_map, List.length_range] at h2
  exact h2
theorem Good.six {s : Sta} {D : List Nat} (g : Good s D) {c : Cl} (hc : c ∈ s.cells) : c.fields.length ≤ 6 := by
  have h := g.shape c hc
  unfold Shape at h
  cases e : c.kind with
  | plain => rw [e] at h; exact h
  | weak =>
    rw [e] at h
    rcases h with h | ⟨t, h⟩ <;> (rw [h]; simp)
  | keyed =>
    rw [e] at h
    rcases h with h | ⟨k, v, h⟩ <;> (rw [h]; simp)
theorem Good.atc {s : Sta} {D : List Nat} (g : Good s D) {c : Cl} (hc : c ∈ s.cells) : s.at_ c.id = some c := g.at_iff.mpr ⟨hc, rfl⟩
theorem Good.heldVar {s : Sta} {D : List Nat} (g : Good s D) {v : Vl} (hv : v ∈ s.vars) : HeldOk s D v := fun i e => by
  subst e
  obtain ⟨c, a, b, _⟩ := g.vars i hv
  left
  rw [← b, g.atc a]
  rfl
theorem Good.heldFld {s : Sta} {D : List Nat} (g : Good s D) {c : Cl} (hc : c ∈ s.cells) {v : Vl} (hv : v ∈ c.fields) : HeldOk s D v := fun i e => by
  subst e
  rcases g.dang c hc i hv with ⟨d, a, b⟩ | h
  · left
    rw [← b, g.atc a]
    rfl
  · exact .inr h
theorem ids_get {s : Sta} {B : Role → Addr} {i : Nat} {x : V} (h : ((idsS s).map fun i => V.ref (B (.cell i)))[i]? = some x) : ∃ c, s.cells[i]? = some c ∧ x = .ref (B (.cell c.id)) := by
  rw [List.getElem?_map, List.getElem?_map] at h
  cases e : s.cells[i]? with
  | none => rw [e] at h; cases h
  | some c => rw [e] at h; exact ⟨c, rfl, (Option.some.inj h).symm⟩
theorem take_more {α : Type} {l : List α} {i : Nat} {x : α} (h : l[i]? = some x) : l.take (i + 1) = l.take i ++ [x] := by
  rw [List.take_add_one, h]
  rfl
/-! ### what is held at first -/
def hfOf (s : Sta) (l : List Cl) : List Vl := s.vars ++ (l.filter fun c => s.remembered.contains c.id).flatMap (·.fields)
theorem hfOf_len {s : Sta} {D : List Nat} (g : Good s D) : ∀ l : List Cl, (∀ c ∈ l, c ∈ s.cells) → (hfOf s l).length ≤ 16 + 6 * l.length := by
  intro l hl
  unfold hfOf
  rw [List.length_append, g.v16]
  have : ((l.filter fun c => s.remembered.contains c.id).flatMap (·.fields)).length ≤ 6 * l.length := by
    induction l with
    | nil => simp
    | cons c l ih =>
      have h1 := ih fun d hd => hl d (List.mem_cons_of_mem _ hd)
      have h2 := g.six (hl c (List.mem_cons_self ..))
      rw [List.filter_cons]
      split
      · rw [List.flatMap_cons, List.length_append, List.length_cons]; omega
      · rw [List.length_cons]; omega
  omega
theorem hfOf_mem {s : Sta} {D : List Nat} (g : Good s D) {v : Vl} (h : v ∈ hfOf s s.cells) : HeldOk s D v := by
  unfold hfOf at h
  rcases List.mem_append.mp h with h | h
  · exact g.heldVar h
  · obtain ⟨c, hc, hv⟩ := List.mem_flatMap.mp h
    exact g.heldFld (List.mem_filter.mp hc).1 hv
def sp_held_at_first (CC CS : Addr) : Sp := fun vs H Q _ => ∃ B H0 s D, vs = [.ref (B .store)] ∧ RepA CC CS B H0 H s (idsS s) D ∧ Good s D ∧ s.made ≤ 1000 ∧
  ∀ H' p, H0 p = none → RepA CC CS B (upd H0 p (.lst ((hfOf s s.cells).map (vV (adB B))))) H' s (idsS s) D → Q (.ref p) H'
section
variable {P : Program} {w : World} {K : PySem.W.Frag} {mg : Str → Option Value} {base : Heap} {CC CS : Addr}
theorem cal_held_at_first (F : Def K mg "held_at_first" s_held_at_first ["store"]) (T : Txt K mg CC CS) : Cal P w K mg base 1 "held_at_first" (sp_held_at_first CC CS) := by
  refine F.cal sc_held_at_first (fun vs H Q E h => ?_) (fun f cdv A outer sh H vs Q E hr h => ?_)
  · obtain ⟨B, H0, s, D, rfl, _⟩ := h
    rfl
  · obtain ⟨B, H0, s, D, rfl, R, g, hm, k⟩ := h
    refine ⟨_, (pss_cons (ps_set (i := 1) sc_held_at_first.nd rfl (Or.inl rfl) (pe_callTy call_list_of (by rfl) T.b_list (by decide +kernel) (pa_cons (pe_fld (pv 0) rfl) pa_nil))) (pss_cons (ps_for PassesOwn.never rfl (pi_list (pe_fld (pv 0) rfl)) (pg_name (i := 2) sc_held_at_first.nd rfl (Or.inl rfl)) (pss_one (ps_if (pt_val (pe_fld (pv 2) rfl)) (pss_one (ps_expr (pe_bm PySem.F.plainAttrs_list PySem.F.slot_list_extend PySem.F.type_list_extend mt_extend (pv 1) (pa_cons (pe_fld (pv 2) rfl) pa_nil)))) pss_nil))) (pss_one (ps_ret (pv 1))))), ?_⟩
    obtain ⟨dx, sw, hsw, hst⟩ := R.store
    refine ⟨_, rfl, B .store, CS, dx, _, _, rfl, hst, T.cS, T.m_variables, sf_variables, B .vars, _, rfl, .inl (SqL.of R.vars), fun l hl => ?_⟩
    have R1 : RepA CC CS B (upd H0 l (.lst (s.vars.map (vV (adB B))))) _ s (idsS s) D := R.fresh hl
    have h0 : H0 l = none := R.same.free hl
    obtain ⟨dx1, sw1, hsw1, hst1⟩ := R1.store
    have hcount := g.count
    refine ⟨_, rfl, B .store, CS, dx1, _, _, rfl, hst1, T.cS, T.m_cells, sf_cells, B .cells, rfl, ⟨_, SqL.of R1.cells⟩,
      for_list (K := K) (a := B .cells) (xs := (idsS s).map fun i => V.ref (B (.cell i))) (fun i σ H' => ∃ v : Option V, σ = [some (.ref (B .store)), some (.ref l), v] ∧ RepA CC CS B (upd H0 l (.lst ((hfOf s (s.cells.take i)).map (vV (adB B))))) H' s (idsS s) D)
      ⟨none, rfl, ?_⟩ (fun i σ H' _ ⟨_, _, R5⟩ => SqL.of R5.cells) ?_ ?_⟩
    · have e : hfOf s (s.cells.take 0) = s.vars := by unfold hfOf; simp
      rw [e]
      exact R1
    · rintro i x σ H' hi ⟨v, rfl, R5⟩
      obtain ⟨c, hc, rfl⟩ := ids_get hi
      have hcm : c ∈ s.cells := List.mem_of_getElem? hc
      obtain ⟨dc, hcell⟩ := R5.cell (g.atc hcm)
      have step : hfOf s (s.cells.take (i + 1)) = hfOf s (s.cells.take i) ++ (if s.remembered.contains c.id = true then c.fields else []) := by
        unfold hfOf
        rw [take_more hc, List.filter_append, List.flatMap_append, List.append_assoc]
        congr 2
        by_cases q : s.remembered.contains c.id = true
        · rw [if_pos q, List.filter_cons, if_pos q]; simp
        · rw [if_neg q, List.filter_cons, if_neg q]; simp
      refine ⟨_, rfl, B (.cell c.id), CC, dc, _, _, rfl, hcell, T.isC.cl, T.n_remembered, cf_remembered, _, rfl, ?_⟩
      refine ite2 (fun q => ?_) (fun q => ?_)
      · rw [if_pos q] at step
        have hl5 : H' l = some (.lst ((hfOf s (s.cells.take i)).map (vV (adB B)))) := R5.same l _ upd_same
        have hsz : (hfOf s (s.cells.take i)).length ≤ 16 + 6 * 1000 := by
          have h1 := hfOf_len g (s.cells.take i) (fun d hd => List.mem_of_mem_take hd)
          have h2 : (s.cells.take i).length ≤ s.cells.length := by rw [List.length_take]; omega
          omega
        have h6 := g.six hcm
        refine ⟨_, rfl, .inl ⟨rfl, _, SqL.of hl5⟩, _, rfl, B (.cell c.id), CC, dc, _, _, rfl, hcell, T.isC.cl, T.n_fields, cf_fields, l, B (.flds c.id), _, _, rfl, rfl, hl5, R5.flds (g.atc hcm), ?_, ?_⟩
        · rw [List.length_map, List.length_map]
          exact Nat.le_trans (Nat.add_le_add hsz h6) (by decide)
        · refine ⟨_, rfl, ?_⟩
          rw [step, List.map_append]
          have R6 := R5.tmp (o := .lst ((hfOf s (s.cells.take i)).map (vV (adB B)) ++ c.fields.map (vV (adB B)))) (p := l) upd_same
          rw [upd_upd] at R6
          exact R6
      · rw [if_neg q, List.append_nil] at step
        refine ⟨_, rfl, ?_⟩
        rw [step]
        exact R5
    · rintro σ H' ⟨v, rfl, R5⟩
      rw [List.length_map, List.length_map, List.take_length] at R5
      exact ⟨_, rfl, k _ l h0 R5⟩
end
end Gc
set_option Elab.async false
set_option maxRecDepth 100000
set_option maxHeartbeats 2000000
namespace Gc
open PySem PySem.Spec PyProof.Rows L2
/-! ### what is kept, as a dict -/
abbrev Kd := List (Key × V)
theorem hasK_put (kvs : Kd) (n m : Int) (y : V) : hasK (putK kvs (Sum.inl n) y) m = (decide (m = n) || hasK kvs m) := by
  unfold hasK
  rw [valV_put]
  by_cases e : m = n
  · subst e
    simp
  · have : ¬ (Sum.inl m : Key) = Sum.inl n := fun z => e (by injection z)
    rw [if_neg this, decide_eq_false e, Bool.false_or]
def unkept (s : Sta) (kvs : Kd) : Nat := ((youngIds s).filter fun (i : Nat) => !hasK kvs i).length
theorem filter_len_le {α : Type} {p q : α → Bool} : ∀ {l : List α}, (∀ x ∈ l, p x = true → q x = true) → (l.filter p).length ≤ (l.filter q).length
  | [], _ => Nat.le_refl _
  | x :: l, h => by
    have ih := filter_len_le (l := l) fun y hy => h y (List.mem_cons_of_mem _ hy)
    have hx := h x (List.mem_cons_self ..)
    rw [List.filter_cons, List.filter_cons]
    by_cases e : p x = true
    · rw [if_pos e, if_pos (hx e)]; simp only [List.length_cons]; omega
    · rw [if_neg e]
      split
      · simp only [List.length_cons]; omega
      · exact ih
theorem filter_len_lt {α : Type} {p q : α → Bool} : ∀ {l : List α}, (∀ x ∈ l, p x = true → q x = true) → (∃ x ∈ l, p x = false ∧ q x = true) → (l.filter p).length < (l.filter q).length
  | [], _, ⟨_, h, _⟩ => by cases h
  | x :: l, h, ⟨y, hy, h1, h2⟩ => by
    have le := filter_len_le (l := l) fun y hy => h y (List.mem_cons_of_mem _ hy)
    have hx := h x (List.mem_cons_self ..)
    rw [List.filter_cons, List.filter_cons]
    rcases List.mem_cons.mp hy with rfl | hy
    · rw [if_neg (by rw [h1]; simp), if_pos h2]
      simp only [List.length_cons]; omega
    · have ih := filter_len_lt (l := l) (fun y hy => h y (List.mem_cons_of_mem _ hy)) ⟨y, hy, h1, h2⟩
      by_cases e : p x = true
      · rw [if_pos e, if_pos (hx e)]; simp only [List.length_cons]; omega
      · rw [if_neg e]
        split
        · simp only [List.length_cons]; omega
        · exact ih
theorem unkept_le {s : Sta} {a b : Kd} (h : ∀ i : Nat, hasK a i = true → hasK b i = true) : unkept s b ≤ unkept s a := by
  refine filter_len_le fun i _ e => ?_
  cases q : hasK a i with
  | false => rfl
  | true => rw [h i q] at e; exact e
theorem unkept_lt {s : Sta} {D : List Nat} (g : Good s D) {a b : Kd} (h : ∀ i : Nat, hasK a i = true → hasK b i = true) {i : Nat} (hy : s.isYoung i = true) (ha : hasK a i = false) (hb : hasK b i = true) : unkept s b < unkept s a := by
  refine filter_len_lt (fun i _ e => ?_) ⟨i, (youngIds_mem g).mpr hy, by rw [hb]; rfl, by rw [ha]; rfl⟩
  cases q : hasK a i with
  | false => rfl
  | true => rw [h i q] at e; exact e
/-- what keep_from comes to -/
structure KF (s : Sta) (kvs : Kd) (ws : List Vl) (kvs' : Kd) (ws' : List Vl) : Prop where
  mono : ∀ i : Nat, hasK kvs i = true → hasK kvs' i = true
  sound : (∀ i : Nat, hasK kvs i = true → Kept s i) → (∀ i, Kg93.V.cell i ∈ ws → s.isYoung i = true → Kept s i) → (∀ i : Nat, hasK kvs' i = true → Kept s i) ∧ (∀ i, Kg93.V.cell i ∈ ws' → s.isYoung i = true → Kept s i)
  full : ∀ i, Kg93.V.cell i ∈ ws → s.isYoung i = true → hasK kvs' i = true ∨ Kg93.V.cell i ∈ ws'
  closed : ∀ i : Nat, hasK kvs' i = true → hasK kvs i = true ∨ ∀ c, s.at_ i = some c → c.kind = .plain → ∀ j, Kg93.V.cell j ∈ c.fields → s.isYoung j = true → hasK kvs' j = true ∨ Kg93.V.cell j ∈ ws'
  keys : kvs'.length + unkept s kvs' ≤ kvs.length + unkept s kvs
  room : ws'.length + 7 * unkept s kvs' ≤ ws.length + 7 * unkept s kvs
theorem KF.start (s : Sta) (kvs : Kd) (ws : List Vl) : KF s kvs ws kvs ws :=
  ⟨fun _ h => h, fun a b => ⟨a, b⟩, fun _ h _ => .inr h, fun _ h => .inl h, Nat.le_refl _, Nat.le_refl _⟩
theorem stay_skip {s : Sta} {kvs : Kd} {v : Vl} (h : stayB s kvs v = true) {i : Nat} (e : v = .cell i) (hy : s.isYoung i = true) : hasK kvs i = true := by
  subst e
  have h' : (!s.isYoung i || hasK kvs i) = true := h
  rw [hy] at h'
  simpa using h'
/-- one that stays is passed over -/
theorem KF.skip {s : Sta} {kvs kvs' : Kd} {ws l : List Vl} {v : Vl} (k : KF s kvs ws kvs' (l ++ [v])) (h : stayB s kvs' v = true) : KF s kvs ws kvs' l where
  mono := k.mono
  sound := fun a b => ⟨(k.sound a b).1, fun i hi => (k.sound a b).2 i (List.mem_append_left _ hi)⟩
  full := fun i hi hy => by
    rcases k.full i hi hy with q | q
    · exact .inl q
    · rcases List.mem_append.mp q with q | q
      · exact .inr q
      · rw [List.mem_singleton] at q
        exact .inl (stay_skip h q.symm hy)
  closed := fun i hi => by
    rcases k.closed i hi with q | q
    · exact .inl q
    · right
      intro c hc hp j hj hy
      rcases q c hc hp j hj hy with q | q
      · exact .inl q
      · rcases List.mem_append.mp q with q | q
        · exact .inr q
        · rw [List.mem_singleton] at q
          exact .inl (stay_skip h q.symm hy)
  keys := k.keys
  room := by
    have := k.room
    rw [List.length_append, List.length_singleton] at this
    omega
/-- a young one that isn't kept yet is kept; of a plain one what it holds waits -/
theorem KF.keep {s : Sta} {D : List Nat} (g : Good s D) {kvs kvs' : Kd} {ws l : List Vl} {i : Nat} {c : Cl} (k : KF s kvs ws kvs' (l ++ [.cell i])) (hc : s.at_ i = some c) (h : stayB s kvs' (.cell i) = false) (y : V) :
    KF s kvs ws (putK kvs' (Sum.inl (i : Int)) y) (l ++ if c.kind = .plain then c.fields else []) := by
  have hs : (!s.isYoung i || hasK kvs' i) = false := h
  rw [Bool.or_eq_false_iff] at hs
  have hy : s.isYoung i = true := by simpa using hs.1
  have hn : hasK kvs' i = false := hs.2
  have hput : ∀ j : Nat, hasK (putK kvs' (Sum.inl (i : Int)) y) j = (decide (j = i) || hasK kvs' j) := fun j => by
    rw [hasK_put]
    congr 1
    by_cases e : j = i
    · subst e; simp
    · rw [decide_eq_false e, decide_eq_false]; omega
  have hmono : ∀ j : Nat, hasK kvs' j = true → hasK (putK kvs' (Sum.inl (i : Int)) y) j = true := fun j hj => by rw [hput, hj]; simp
  have hi : hasK (putK kvs' (Sum.inl (i : Int)) y) i = true := by rw [hput]; simp
  have hlt := unkept_lt g hmono hy hn hi
  have hcm := at_in hc
  have hci := at_id hc
  have co : c.old = false := by
    have := g.young hcm
    rw [hci, hy] at this
    simpa using this.symm
  constructor
  · exact fun j hj => hmono j (k.mono j hj)
  · intro a b
    obtain ⟨s1, s2⟩ := k.sound a b
    have ki : Kept s i := s2 i (List.mem_append_right _ (List.mem_singleton.mpr rfl)) hy
    constructor
    · intro j hj
      rw [hput, Bool.or_eq_true, decide_eq_true_eq] at hj
      rcases hj with rfl | hj
      · exact ki
      · exact s1 j hj
    · intro j hj hyj
      rcases List.mem_append.mp hj with q | q
      · exact s2 j (List.mem_append_left _ q) hyj
      · split at q
        · next hp => exact .plain hcm co (hci ▸ ki) hp q hyj
        · cases q
  · intro j hj hyj
    rcases k.full j hj hyj with q | q
    · exact .inl (hmono j q)
    · rcases List.mem_append.mp q with q | q
      · exact .inr (List.mem_append_left _ q)
      · rw [List.mem_singleton] at q
        injection q with q
        rw [q]
        exact .inl hi
  · intro j hj
    have key : ∀ m : Nat, (hasK kvs' m = true ∨ Kg93.V.cell m ∈ l ++ [Kg93.V.cell i]) → hasK (putK kvs' (Sum.inl (i : Int)) y) m = true ∨ Kg93.V.cell m ∈ l ++ (if c.kind = .plain then c.fields else []) := by
      intro m hm
      rcases hm with q | q
      · exact .inl (hmono m q)
      · rcases List.mem_append.mp q with q | q
        · exact .inr (List.mem_append_left _ q)
        · rw [List.mem_singleton] at q
          injection q with q
          rw [q]
          exact .inl hi
    rw [hput, Bool.or_eq_true, decide_eq_true_eq] at hj
    rcases hj with rfl | hj
    · right
      intro c' hc' hp m hm _
      rw [hc] at hc'
      cases hc'
      rw [if_pos hp]
      exact .inr (List.mem_append_right _ hm)
    · rcases k.closed j hj with q | q
      · exact .inl q
      · exact .inr fun c' hc' hp m hm hym => key m (q c' hc' hp m hm hym)
  · have h1 := length_putK kvs' (Sum.inl (i : Int)) y
    have h2 := k.keys
    omega
  · have h1 := k.room
    rw [List.length_append, List.length_singleton] at h1
    rw [List.length_append]
    have h2 : (if c.kind = .plain then c.fields else []).length ≤ 6 := by
      split
      · exact g.six hcm
      · exact Nat.zero_le _
    omega
def sp_keep_from (CC CS : Addr) : Sp := fun vs H Q _ => ∃ B H0 s D k wl kvs ws, vs = [.ref k, .ref wl] ∧ H0 k = some (.dK kvs) ∧ H0 wl = some (.lst (ws.map (vV (adB B)))) ∧ RepA CC CS B H0 H s (idsS s) D ∧ Good s D ∧ kvs.length + unkept s kvs ≤ 5000 ∧ ws.length + 7 * unkept s kvs ≤ 50000 ∧ (∀ v ∈ ws, HeldOk s D v) ∧
  ∀ H' kvs', KF s kvs ws kvs' [] → RepA CC CS B (upd (upd H0 k (.dK kvs')) wl (.lst [])) H' s (idsS s) D → Q .non H'
section
variable {P : Program} {w : World} {K : PySem.W.Frag} {mg : Str → Option Value} {base : Heap} {CC CS : Addr}
theorem cal_keep_from (F : Def K mg "keep_from" s_keep_from ["kept", "waiting"]) (T : Txt K mg CC CS) (c_stays : Cal P w K mg base 3 "stays" (sp_stays CC)) : Cal P w K mg base 4 "keep_from" (sp_keep_from CC CS) := by
  refine F.cal sc_keep_from (fun vs H Q E h => ?_) (fun f cdv A outer sh H vs Q E hr h => ?_)
  · obtain ⟨B, H0, s, D, k, wl, kvs, ws, rfl, _⟩ := h
    rfl
  · obtain ⟨B, H0, s, D, k, wl, kvs, ws, rfl, hk0, hw0, R, g, hkeys, hroom, hok, cont⟩ := h
    refine ⟨_, (pss_one (ps_while PassesOwn.never (pt_cmpR op_gt (pe_callB call_len_seq (by rfl) T.b_len PySem.boot_len (pa_cons (pv 1) pa_nil)) pe_int (nomark _)) (pss_cons (ps_set (i := 2) sc_keep_from.nd rfl (Or.inl rfl) (pe_bm0 PySem.F.plainAttrs_list PySem.F.slot_list_pop PySem.F.type_list_pop mt_pop (pv 1))) (pss_cons (ps_if (pt_val (C8.pe_c c_stays hr (by decide) rfl (pa_cons (pv 0) (pa_cons (pv 2) pa_nil)))) (pss_one ps_continue) pss_nil) (pss_cons (ps_dput (hu_of hr) (pv 0) (pe_fld (pv 2) rfl) pe_bl rfl) (pss_one (ps_if (pt_cmpR op_eq (pe_fld (pv 2) rfl) (C8.pe_gc rfl T.k_PLAIN) (nomark _)) (pss_one (ps_expr (pe_bm PySem.F.plainAttrs_list PySem.F.slot_list_extend PySem.F.type_list_extend mt_extend (pv 1) (pa_cons (pe_fld (pv 2) rfl) pa_nil)))) pss_nil))))))), ?_⟩
    have nkw : k ≠ wl := ne_of hk0 hw0 (by intro z; cases z)
    refine ⟨fun m σ H' => ∃ (kvs' : Kd) (ws' : List Vl) (v : Option V), m = ws'.length + 7 * unkept s kvs' ∧ σ = [some (.ref k), some (.ref wl), v] ∧ KF s kvs ws kvs' ws' ∧ (∀ v ∈ ws', HeldOk s D v) ∧ RepA CC CS B (upd (upd H0 k (.dK kvs')) wl (.lst (ws'.map (vV (adB B))))) H' s (idsS s) D, ⟨_, kvs, ws, none, rfl, rfl, KF.start s kvs ws, hok, ?_⟩, ?_⟩
    · have e : upd (upd H0 k (.dK kvs)) wl (.lst (ws.map (vV (adB B)))) = H0 := by
        funext b
        unfold upd
        by_cases q : b = wl
        · rw [if_pos q, q, hw0]
        · rw [if_neg q]
          by_cases q2 : b = k
          · rw [if_pos q2, q2, hk0]
          · rw [if_neg q2]
      rw [e]
      exact R
    · rintro m σ H' ⟨kvs', ws', v, rfl, rfl, kf, hok', R'⟩
      have hw' : H' wl = some (.lst (ws'.map (vV (adB B)))) := R'.same wl _ upd_same
      have hk' : H' k = some (.dK kvs') := R'.same k _ (by rw [upd_ne nkw, upd_same])
      refine ⟨_, rfl, wl, _, rfl, .inl (SqL.of hw'), _, _, rfl, rfl, _, rfl, ?_⟩
      rcases List.eq_nil_or_concat ws' with rfl | ⟨l, x, rfl⟩
      · refine iteF ?_
        exact cont _ kvs' kf R'
      · rw [List.concat_eq_append] at *
        refine ite2 (fun _ => ?_) (fun q => absurd (decide_eq_true (by rw [List.length_map, List.length_append, List.length_singleton]; omega)) q)
        have hx : HeldOk s D x := hok' x (List.mem_append_right _ (List.mem_singleton.mpr rfl))
        have hl : ∀ v ∈ l, HeldOk s D v := fun v hv => hok' v (List.mem_append_left _ hv)
        refine ⟨fun σ' H2 => ∃ (kvs2 : Kd) (ws2 : List Vl) (v2 : Option V), ws2.length + 7 * unkept s kvs2 < (l ++ [x]).length + 7 * unkept s kvs' ∧ σ' = [some (.ref k), some (.ref wl), v2] ∧ KF s kvs ws kvs2 ws2 ∧ (∀ v ∈ ws2, HeldOk s D v) ∧ RepA CC CS B (upd (upd H0 k (.dK kvs2)) wl (.lst (ws2.map (vV (adB B))))) H2 s (idsS s) D,
          fun σ' H2 ⟨kvs2, ws2, v2, hlt, e, kf2, ok2, R2⟩ => ⟨_, hlt, kvs2, ws2, v2, rfl, e, kf2, ok2, R2⟩, ?_⟩
        -- held = waiting.pop()
        have hm : (l ++ [x]).map (vV (adB B)) = l.map (vV (adB B)) ++ [vV (adB B) x] := by rw [List.map_append]; rfl
        refine ⟨_, rfl, .inl ⟨rfl, _, SqL.of hw'⟩, wl, _, vV (adB B) x, rfl, rfl, hw', ?_, ?_⟩
        · rw [hm, List.length_append, List.length_singleton, Nat.add_sub_cancel, List.getElem?_append_right (Nat.le_refl _), Nat.sub_self]
          rfl
        rw [hm, List.dropLast_concat]
        have R1 : RepA CC CS B (upd (upd H0 k (.dK kvs')) wl (.lst (l.map (vV (adB B))))) (upd H' wl (.lst (l.map (vV (adB B))))) s (idsS s) D := by
          have := R'.tmp (o := .lst (l.map (vV (adB B)))) (p := wl) upd_same
          rw [upd_upd] at this
          exact this
        have hk1 : (upd H' wl (.lst (l.map (vV (adB B))))) k = some (.dK kvs') := by rw [upd_ne nkw]; exact hk'
        have hw1 : (upd H' wl (.lst (l.map (vV (adB B))))) wl = some (.lst (l.map (vV (adB B)))) := upd_same
        -- if stays(kept, held): continue
        refine ⟨_, rfl, _, rfl, k, vV (adB B) x, kvs', _, rfl, hk1, R1.isS hx kvs', _, rfl, ?_⟩
        refine ite2 (fun q => ?_) (fun q => ?_)
        · refine ⟨kvs', l, _, ?_, rfl, kf.skip q, hl, R1⟩
          rw [List.length_append, List.length_singleton]; omega
        · have q' : stayB s kvs' x = false := by simpa using q
          obtain ⟨i, rfl⟩ : ∃ i, x = .cell i := by
            cases x with
            | none_ => cases q'
            | num z => cases q'
            | cell i => exact ⟨i, rfl⟩
          have hy : s.isYoung i = true := by
            have : (!s.isYoung i || hasK kvs' i) = false := q'
            rw [Bool.or_eq_false_iff] at this
            simpa using this.1
          obtain ⟨c0, hc0, hi0, _⟩ := (isYoung_iff g).mp hy
          have hc : s.at_ i = some c0 := g.at_iff.mpr ⟨hc0, hi0⟩
          obtain ⟨dc, hcell⟩ := R1.cell hc
          have kf2 := kf.keep g hc q' (V.bl true)
          have hlt := kf2.keys
          have hle := kf.keys
          -- kept[held.place] = True
          refine ⟨_, rfl, _, rfl, B (.cell i), CC, dc, _, _, rfl, hcell, T.isC.cl, T.n_place, cf_place, k, _, rfl, DPut.k (k := Sum.inl (c0.id : Int)) hk1 (by show kvs'.length < 2 ^ 24; omega), ?_⟩
          have eid : c0.id = i := hi0
          have R2 : RepA CC CS B (upd (upd H0 k (.dK (putK kvs' (Sum.inl (i : Int)) (V.bl true)))) wl (.lst (l.map (vV (adB B))))) (upd (upd H' wl (.lst (l.map (vV (adB B))))) k (.dK (putK kvs' (Sum.inl (i : Int)) (V.bl true)))) s (idsS s) D := by
            have := R1.tmp (o := .dK (putK kvs' (Sum.inl (i : Int)) (V.bl true))) (p := k) (by rw [upd_ne nkw]; exact upd_same)
            have e : upd (upd (upd H0 k (.dK kvs')) wl (.lst (l.map (vV (adB B))))) k (.dK (putK kvs' (Sum.inl (i : Int)) (V.bl true))) = upd (upd H0 k (.dK (putK kvs' (Sum.inl (i : Int)) (V.bl true)))) wl (.lst (l.map (vV (adB B)))) := by
              funext b
              unfold upd
              by_cases z : b = k
              · rw [if_pos z, if_neg (by rw [z]; exact nkw), if_pos z]
              · rw [if_neg z]
                by_cases z2 : b = wl
                · rw [if_pos z2, if_pos z2]
                · rw [if_neg z2, if_neg z2, if_neg z, if_neg z]
            rw [e] at this
            exact this
          rw [eid]
          obtain ⟨dc2, hcell2⟩ := R2.cell hc
          have hw2 : (upd (upd H' wl (.lst (l.map (vV (adB B))))) k (.dK (putK kvs' (Sum.inl (i : Int)) (V.bl true)))) wl = some (.lst (l.map (vV (adB B)))) := R2.same wl _ upd_same
          -- the measure
          have hmeas : (l ++ if c0.kind = .plain then c0.fields else []).length + 7 * unkept s (putK kvs' (Sum.inl (i : Int)) (V.bl true)) < (l ++ [Kg93.V.cell i]).length + 7 * unkept s kvs' := by
            have h6 : (if c0.kind = .plain then c0.fields else []).length ≤ 6 := by
              split
              · exact g.six hc0
              · exact Nat.zero_le _
            have hn : hasK kvs' i = false := by
              have : (!s.isYoung i || hasK kvs' i) = false := q'
              exact (Bool.or_eq_false_iff.mp this).2
            have := unkept_lt g (s := s) (a := kvs') (b := putK kvs' (Sum.inl (i : Int)) (V.bl true)) (fun j hj => by rw [hasK_put, hj]; simp) hy hn (by rw [hasK_put]; simp)
            rw [List.length_append, List.length_append, List.length_singleton]
            omega
          -- if held.kind == PLAIN: waiting.extend(held.fields)
          refine ⟨_, rfl, B (.cell i), CC, dc2, _, _, rfl, hcell2, T.isC.cl, T.n_kind, cf_kind, rfl, _, rfl, ?_⟩
          refine ite2 (fun z => ?_) (fun z => ?_)
          · have hp : c0.kind = .plain := by
              have := of_decide_eq_true z
              injection this with this
              cases e : c0.kind with
              | plain => rfl
              | weak => rw [e] at this; cases this
              | keyed => rw [e] at this; cases this
            rw [if_pos hp] at kf2 hmeas
            have hrm := kf2.room
            refine ⟨_, rfl, .inl ⟨rfl, _, SqL.of hw2⟩, _, rfl, B (.cell i), CC, dc2, _, _, rfl, hcell2, T.isC.cl, T.n_fields, cf_fields, wl, B (.flds i), _, _, rfl, rfl, hw2, R2.flds hc, ?_, ?_⟩
            · rw [List.length_map, List.length_map]
              rw [List.length_append] at hrm
              show l.length + c0.fields.length ≤ 2 ^ 24
              omega
            · refine ⟨_, l ++ c0.fields, _, hmeas, rfl, kf2, ?_, ?_⟩
              · intro v hv
                rcases List.mem_append.mp hv with hv | hv
                · exact hl v hv
                · exact g.heldFld hc0 hv
              · rw [List.map_append]
                have := R2.tmp (o := .lst (l.map (vV (adB B)) ++ c0.fields.map (vV (adB B)))) (p := wl) upd_same
                rw [upd_upd] at this
                exact this
          · have hp : c0.kind ≠ .plain := fun e => z (decide_eq_true (by rw [e]; rfl))
            rw [if_neg hp, List.append_nil] at kf2 hmeas
            exact ⟨_, l, _, hmeas, rfl, kf2, hl, R2⟩
end
end Gc
set_option Elab.async false
set_option maxRecDepth 100000
set_option maxHeartbeats 2000000
namespace Gc
open PySem PySem.Spec PyProof.Rows L2
/-- a comprehension over a list, whose turns change nothing -/
theorem lc_rep {α : Type} {K : PySem.W.Frag} {CC CS : Addr} {B : Role → Addr} {H0 H1 : Hp} {s : Sta} {lst Dd : List Nat} {a D : Addr} (ys : List α) (φ : α → V) {g : TG} {tt : TT} {te : TE} {vs : List Nat} {σ : L2.St} {Qd : Hp → Prop}
    (R1 : RepA CC CS B H0 H1 s lst Dd) (hD : H1 D = none) (hx : ∀ o H', RepA CC CS B (upd H0 D o) H' s lst Dd → SqL K H' a (ys.map φ)) (keep : α → Bool) (out : α → V) (hlen : ys.length < sizeLine)
    (turn : ∀ y ∈ ys, ∀ o H', RepA CC CS B (upd H0 D o) H' s lst Dd → ∀ (Y : V → Hp → Prop) (N : Hp → Prop), (keep y = true → Y (out y) H') → (keep y = false → N H') →
      g (φ y) (wipe σ vs) H' fun σ2 H2 => wipe σ2 vs = wipe σ vs ∧ tt σ2 H2 fun b H3 => if b = true then te σ2 H3 Y else N H3)
    (fin : ∀ H', RepA CC CS B (upd H0 D (.lst ((ys.filter keep).map out))) H' s lst Dd → Qd H') :
    ∃ W : Nat → Nat → Hp → Prop, (∃ m, W 0 m (upd H1 D (.lst []))) ∧ ∀ i m H, W i m H →
      ((Itl K a).stop i H ∧ Qd H) ∨ ((Itl K a).go i H ∧ ∃ Nx : Hp → Prop, (∀ H', Nx H' → ∃ m', m' < m ∧ W (i + 1) m' H') ∧ ∀ x H', (Itl K a).yld i H x H' → g x (wipe σ vs) H' fun σ2 H2 => wipe σ2 vs = wipe σ vs ∧ tt σ2 H2 fun b H3 =>
        if b = true then te σ2 H3 fun y H4 => ∃ acc, H4 D = some (.lst acc) ∧ acc.length < sizeLine ∧ Nx (upd H4 D (.lst (acc ++ [y]))) else Nx H3) := by
  refine lc_list (K := K) (a := a) (xs := ys.map φ) (fun i H' => RepA CC CS B (upd H0 D (.lst (((ys.take i).filter keep).map out))) H' s lst Dd) ?_ (fun i H' _ R => hx _ _ R) ?_ ?_
  · exact R1.fresh hD
  · intro i x H' hi R
    rw [List.getElem?_map] at hi
    obtain ⟨y, hy, rfl⟩ := Option.map_eq_some_iff.mp hi
    have hm : y ∈ ys := List.mem_of_getElem? hy
    refine turn y hm _ H' R _ _ (fun hk => ?_) (fun hk => ?_)
    · have e : ((ys.take (i + 1)).filter keep).map out = ((ys.take i).filter keep).map out ++ [out y] := by
        rw [take_more hy, List.filter_append, List.map_append, List.filter_cons, if_pos hk]
        rfl
      refine ⟨_, R.same D _ upd_same, ?_, ?_⟩
      · rw [List.length_map]
        refine Nat.lt_of_le_of_lt (List.length_filter_le _ _) ?_
        rw [List.length_take]
        omega
      · rw [e]
        have := R.tmp (o := .lst (((ys.take i).filter keep).map out ++ [out y])) (p := D) upd_same
        rw [upd_upd] at this
        exact this
    · have e : ((ys.take (i + 1)).filter keep).map out = ((ys.take i).filter keep).map out := by
        rw [take_more hy, List.filter_append, List.map_append, List.filter_cons, if_neg (by rw [hk]; simp)]
        simp
      rw [e]
      exact R
  · intro H' R
    rw [List.length_map, List.take_length] at R
    exact fin H' R
abbrev refC (B : Role → Addr) (c : Cl) : V := .ref (B (.cell c.id))
theorem cells_sq {K : PySem.W.Frag} {CC CS : Addr} {B : Role → Addr} {H0 H : Hp} {s : Sta} {D : List Nat} (R : RepA CC CS B H0 H s (idsS s) D) : SqL K H (B .cells) (s.cells.map (refC B)) := by
  have := R.cells
  rw [List.map_map] at this
  exact SqL.of this
/-! ### values to keep -/
def keyedOf (s : Sta) (kvs : Kd) : List Cl := s.cells.filter fun c => decide (c.kind = .keyed) && stayB s kvs (.cell c.id)
def f0 (c : Cl) : Vl := c.fields.getD 0 .none_
def f1 (c : Cl) : Vl := c.fields.getD 1 .none_
def valsOf (s : Sta) (kvs : Kd) : List Vl := (((keyedOf s kvs).filter fun c => stayB s kvs (f0 c)).map f1).filter fun v => !stayB s kvs v
theorem kind_eq {a b : Kg93.Kind} : (kindN a = kindN b) ↔ a = b := by
  cases a <;> cases b <;> simp [kindN]
theorem Good.keyed {s : Sta} {D : List Nat} (g : Good s D) {c : Cl} (hc : c ∈ s.cells) (hk : c.kind = .keyed) : c.fields = [f0 c, f1 c] := by
  have h := g.shape c hc
  unfold Shape at h
  rw [hk] at h
  rcases h with h | ⟨k, v, h⟩ <;> (unfold f0 f1; rw [h]; rfl)
theorem Good.heldSelf {s : Sta} {D : List Nat} (g : Good s D) {c : Cl} (hc : c ∈ s.cells) : HeldOk s D (.cell c.id) := fun i e => by
  injection e with e
  subst e
  left
  rw [g.atc hc]
  rfl
def sp_values_to_keep (CC CS : Addr) : Sp := fun vs H Q _ => ∃ B H0 s D k kvs, vs = [.ref (B .store), .ref k] ∧ H0 k = some (.dK kvs) ∧ RepA CC CS B H0 H s (idsS s) D ∧ Good s D ∧ s.made ≤ 1000 ∧
  ∀ H' p, H0 p = none → RepA CC CS B (upd H0 p (.lst ((valsOf s kvs).map (vV (adB B))))) H' s (idsS s) D → Q (.ref p) H'
section
variable {P : Program} {w : World} {K : PySem.W.Frag} {mg : Str → Option Value} {base : Heap} {CC CS : Addr}
theorem cal_values_to_keep (F : Def K mg "values_to_keep" s_values_to_keep ["store", "kept"]) (T : Txt K mg CC CS) (c_stays : Cal P w K mg base 3 "stays" (sp_stays CC)) : Cal P w K mg base 4 "values_to_keep" (sp_values_to_keep CC CS) := by
  refine F.cal sc_values_to_keep (fun vs H Q E h => ?_) (fun f cdv A outer sh H vs Q E hr h => ?_)
  · obtain ⟨B, H0, s, D, k, kvs, rfl, _⟩ := h
    rfl
  · obtain ⟨B, H0, s, D, k, kvs, rfl, hk0, R, g, hm, cont⟩ := h
    refine ⟨_, (pss_cons (ps_setLc (i := 2) (own := [("cell", 4)]) (g := gName 4) (tt := (tAnd (tTest (tOp _ (tFld K (tVar 4) "kind") (tC _))) (tB (tCall _ [] E0 (tCons (tVar 1) (tCons (tVar 4) tNil)))))) (te := (tVar 4)) rfl sc_values_to_keep.nd rfl rfl (sw_true rfl rfl rfl (by decide +kernel)) (pi_list (pe_fld (pv 0) rfl)) (blkOk_by (own := [("cell", 4)]) (N := ["store", "kept", "keyed", "values", "cell", "value"]) (sc := defScope s_values_to_keep) (by decide +kernel)) (fun _ _ _ _ _ => pg_name (i := 4) sc_values_to_keep.nd rfl (Or.inl rfl)) (fun _ _ _ _ _ => pts_one (PW.pt (pw_and (pt_cmpR op_eq (pe_fld (pv 4) rfl) (C8.pe_gc rfl T.k_KEYED) (nomark _)) (pw_and1 (pt_val (C8.pe_c c_stays hr (by decide) rfl (pa_cons (pv 1) (pa_cons (pv 4) pa_nil)))))))) (fun _ _ _ _ _ => (pv 4))) (pss_cons (ps_setLc (i := 3) (own := [("cell", 4)]) (g := gName 4) (tt := (tB (tCall _ [] E0 (tCons (tVar 1) (tCons (tOp (rIxL K) (tFld K (tVar 4) "fields") (tC _)) tNil))))) (te := (tOp (rIxL K) (tFld K (tVar 4) "fields") (tC _))) rfl sc_values_to_keep.nd rfl rfl (sw_true rfl rfl rfl (by decide +kernel)) (pi_list (pv 2)) (blkOk_by (own := [("cell", 4)]) (N := ["store", "kept", "keyed", "values", "cell", "value"]) (sc := defScope s_values_to_keep) (by decide +kernel)) (fun _ _ _ _ _ => pg_name (i := 4) sc_values_to_keep.nd rfl (Or.inl rfl)) (fun _ _ _ _ _ => pts_one (pt_val (C8.pe_c c_stays hr (by decide) rfl (pa_cons (pv 1) (pa_cons (pe_ix ix_list (pe_fld (pv 4) rfl) pe_int (fun _ _ => rfl)) pa_nil))))) (fun _ _ _ _ _ => (pe_ix ix_list (pe_fld (pv 4) rfl) pe_int (fun _ _ => rfl)))) (pss_one (ps_ret (pe_lc (own := [("value", 5)]) (g := gName 5) (tt := (tNot (tB (tCall _ [] E0 (tCons (tVar 1) (tCons (tVar 5) tNil)))))) (te := (tVar 5)) rfl sc_values_to_keep.nd (pi_list (pv 3)) (blkOk_by (own := [("value", 5)]) (N := ["store", "kept", "keyed", "values", "cell", "value"]) (sc := defScope s_values_to_keep) (by decide +kernel)) (fun _ _ _ _ _ => pg_name (i := 5) sc_values_to_keep.nd rfl (Or.inl rfl)) (fun _ _ _ _ _ => pts_one (pt_not (pt_val (C8.pe_c c_stays hr (by decide) rfl (pa_cons (pv 1) (pa_cons (pv 5) pa_nil)))))) (fun _ _ _ _ _ => (pv 5))))))), ?_⟩
    obtain ⟨dx, sw, hsw, hst⟩ := R.store
    have hcount := g.count
    have hlen : s.cells.length < sizeLine := Nat.lt_of_le_of_lt (Nat.le_trans hcount hm) (by decide)
    -- keyed = [..]
    refine ⟨_, rfl, B .store, CS, dx, _, _, rfl, hst, T.cS, T.m_cells, sf_cells, B .cells, rfl, ⟨_, cells_sq R⟩, fun p1 hp1 => ?_⟩
    refine lc_rep s.cells (refC B) R hp1 (fun o H' R' => cells_sq R') (fun c => decide (c.kind = .keyed) && stayB s kvs (.cell c.id)) (refC B) hlen ?_ ?_
    · intro c hc o H' R' Y N hY hN
      obtain ⟨dc, hcell⟩ := R'.cell (g.atc hc)
      have hkk : H' k = some (.dK kvs) := R'.same k _ (by rw [upd_ne (ne_of_none (R.same k _ hk0) hp1)]; exact hk0)
      refine ⟨rfl, _, rfl, B (.cell c.id), CC, dc, _, _, rfl, hcell, T.isC.cl, T.n_kind, cf_kind, rfl, _, rfl, ?_⟩
      have e : decide (V.int (kindN c.kind) = V.int 2) = decide (c.kind = .keyed) := by
        have : (V.int (kindN c.kind) = V.int 2) ↔ c.kind = .keyed := by
          constructor
          · intro h; injection h with h; exact kind_eq.mp h
          · intro h; rw [h]; rfl
        exact decide_eq_decide.mpr this
      rw [e]
      by_cases q : c.kind = .keyed
      · rw [decide_eq_true q] at hY hN ⊢
        refine iteT ?_
        refine ⟨_, rfl, _, rfl, k, refC B c, kvs, _, rfl, hkk, R'.isS (g.heldSelf hc) kvs, _, rfl, ?_⟩
        rw [Bool.true_and] at hY hN
        cases z : stayB s kvs (.cell c.id) with
        | true => exact iteT ⟨_, rfl, hY z⟩
        | false => exact iteF (hN z)
      · rw [decide_eq_false q] at hN ⊢
        exact iteF (iteF (hN rfl))
    intro H1 R1
    have hp10 : H0 p1 = none := R.same.free hp1
    -- values = [..]
    refine ⟨_, rfl, p1, rfl, ⟨_, SqL.of (R1.same p1 _ upd_same)⟩, fun p2 hp2 => ?_⟩
    have n12 : p1 ≠ p2 := ne_of_none (R1.same p1 _ upd_same) hp2
    refine lc_rep (keyedOf s kvs) (refC B) R1 hp2 (fun o H' R' => SqL.of (R'.same p1 _ (by rw [upd_ne n12]; exact upd_same))) (fun c => stayB s kvs (f0 c)) (fun c => vV (adB B) (f1 c)) (Nat.lt_of_le_of_lt (List.length_filter_le _ _) hlen) ?_ ?_
    · intro c hc2 o H' R' Y N hY hN
      obtain ⟨hc, hcq⟩ := List.mem_filter.mp hc2
      have hkd : c.kind = .keyed := by
        rw [Bool.and_eq_true] at hcq
        exact of_decide_eq_true hcq.1
      have hfs := g.keyed hc hkd
      have hm0 : f0 c ∈ c.fields := by rw [hfs]; exact List.mem_cons_self ..
      obtain ⟨dc, hcell⟩ := R'.cell (g.atc hc)
      have hfl : H' (B (.flds c.id)) = some (.lst [vV (adB B) (f0 c), vV (adB B) (f1 c)]) := by
        have := R'.flds (g.atc hc)
        rw [hfs] at this
        exact this
      have hkH : H k = some (.dK kvs) := R.same k _ hk0
      have nk1 : k ≠ p1 := ne_of_none hkH hp1
      have hk1 : H1 k = some (.dK kvs) := R1.same k _ (by rw [upd_ne nk1]; exact hk0)
      have nk2 : k ≠ p2 := ne_of_none hk1 hp2
      have hkk : H' k = some (.dK kvs) := R'.same k _ (by rw [upd_ne nk2, upd_ne nk1]; exact hk0)
      refine ⟨rfl, _, rfl, _, rfl, B (.cell c.id), CC, dc, _, _, rfl, hcell, T.isC.cl, T.n_fields, cf_fields, B (.flds c.id), _, _, _, rfl, rfl, SqL.of hfl, rfl, ?_⟩
      refine ⟨k, vV (adB B) (f0 c), kvs, _, rfl, hkk, R'.isS (g.heldFld hc hm0) kvs, _, rfl, ?_⟩
      cases z : stayB s kvs (f0 c) with
      | true => exact iteT ⟨_, rfl, B (.cell c.id), CC, dc, _, _, rfl, hcell, T.isC.cl, T.n_fields, cf_fields, B (.flds c.id), _, _, _, rfl, rfl, SqL.of hfl, rfl, hY z⟩
      | false => exact iteF (hN z)
    intro H2 R2
    -- return [..]
    have hl2 : H2 p2 = some (.lst ((((keyedOf s kvs).filter fun c => stayB s kvs (f0 c)).map f1).map (vV (adB B)))) := by
      rw [List.map_map]
      exact R2.same p2 _ upd_same
    refine ⟨_, rfl, p2, rfl, ⟨_, SqL.of hl2⟩, fun p3 hp3 => ?_⟩
    have n23 : p2 ≠ p3 := ne_of_none hl2 hp3
    refine lc_rep (((keyedOf s kvs).filter fun c => stayB s kvs (f0 c)).map f1) (vV (adB B)) R2 hp3 (fun o H' R' => SqL.of (R'.same p2 _ (by rw [upd_ne n23, List.map_map]; exact upd_same))) (fun v => !stayB s kvs v) (vV (adB B)) ?_ ?_ ?_
    · rw [List.length_map]
      exact Nat.lt_of_le_of_lt (Nat.le_trans (List.length_filter_le _ _) (List.length_filter_le _ _)) hlen
    · intro v hv o H' R' Y N hY hN
      have hok : HeldOk s D v := by
        obtain ⟨c, hc, rfl⟩ := List.mem_map.mp hv
        obtain ⟨hc, _⟩ := List.mem_filter.mp hc
        obtain ⟨hc, hcq⟩ := List.mem_filter.mp hc
        have hkd : c.kind = .keyed := by
          rw [Bool.and_eq_true] at hcq
          exact of_decide_eq_true hcq.1
        refine g.heldFld hc ?_
        rw [g.keyed hc hkd]
        exact List.mem_cons_of_mem _ (List.mem_cons_self ..)
      have hkH : H k = some (.dK kvs) := R.same k _ hk0
      have nk1 : k ≠ p1 := ne_of_none hkH hp1
      have hk1 : H1 k = some (.dK kvs) := R1.same k _ (by rw [upd_ne nk1]; exact hk0)
      have nk2 : k ≠ p2 := ne_of_none hk1 hp2
      have hk2 : H2 k = some (.dK kvs) := R2.same k _ (by rw [upd_ne nk2, upd_ne nk1]; exact hk0)
      have nk3 : k ≠ p3 := ne_of_none hk2 hp3
      have hkk : H' k = some (.dK kvs) := R'.same k _ (by rw [upd_ne nk3, upd_ne nk2, upd_ne nk1]; exact hk0)
      refine ⟨rfl, _, rfl, _, rfl, k, vV (adB B) v, kvs, _, rfl, hkk, R'.isS hok kvs, _, rfl, ?_⟩
      cases z : stayB s kvs v with
      | true => exact iteF (hN (by rw [z]; rfl))
      | false => exact iteT ⟨_, rfl, hY (by rw [z]; rfl)⟩
    intro H3 R3
    have hp20 : H0 p2 = none := (same_upd hp10).free (R1.same.free hp2)
    have hp30 : H0 p3 = none := (same_upd hp10).free ((same_upd (R1.same.free hp2)).free (R2.same.free hp3))
    refine cont H3 p3 hp30 (R3.weak ?_)
    intro b o e
    by_cases z3 : b = p3
    · subst z3
      rw [upd_same] at e ⊢
      exact e
    · rw [upd_ne z3] at e ⊢
      rw [upd_ne (ne_of_none e hp20), upd_ne (ne_of_none e hp10)]
      exact e
end
end Gc
set_option Elab.async false
set_option maxRecDepth 100000
set_option maxHeartbeats 2000000
namespace Gc
open PySem PySem.Spec PyProof.Rows L2
/-! ### find_kept -/
theorem stay_iff {s : Sta} {kvs : Kd} {i : Nat} : stayB s kvs (.cell i) = true ↔ (s.isYoung i = true → hasK kvs i = true) := by
  show (!s.isYoung i || hasK kvs i) = true ↔ _
  cases s.isYoung i <;> simp
theorem valsOf_mem {s : Sta} {D : List Nat} (g : Good s D) {kvs : Kd} {v : Vl} : v ∈ valsOf s kvs ↔ stayB s kvs v = false ∧ ∃ c ∈ s.cells, c.kind = .keyed ∧ stayB s kvs (.cell c.id) = true ∧ stayB s kvs (f0 c) = true ∧ f1 c = v := by
  unfold valsOf keyedOf
  simp only [List.mem_filter, List.mem_map, Bool.and_eq_true, decide_eq_true_eq, Bool.not_eq_true']
  constructor
  · rintro ⟨⟨c, ⟨⟨hc, hk, h1⟩, h2⟩, e⟩, h3⟩
    exact ⟨h3, c, hc, hk, h1, h2, e⟩
  · rintro ⟨h3, c, hc, hk, h1, h2, e⟩
    exact ⟨⟨c, ⟨⟨hc, hk, h1⟩, h2⟩, e⟩, h3⟩
theorem valsOf_ok {s : Sta} {D : List Nat} (g : Good s D) {kvs : Kd} {v : Vl} (h : v ∈ valsOf s kvs) : HeldOk s D v := by
  obtain ⟨_, c, hc, hk, _, _, e⟩ := (valsOf_mem g).mp h
  refine g.heldFld hc ?_
  rw [g.keyed hc hk, e]
  exact List.mem_cons_of_mem _ (List.mem_cons_self ..)
theorem valsOf_len {s : Sta} {D : List Nat} (g : Good s D) {kvs : Kd} : (valsOf s kvs).length ≤ s.made := by
  unfold valsOf keyedOf
  refine Nat.le_trans (List.length_filter_le _ _) ?_
  rw [List.length_map]
  exact Nat.le_trans (List.length_filter_le _ _) (Nat.le_trans (List.length_filter_le _ _) g.count)
theorem valsOf_sound {s : Sta} {D : List Nat} (g : Good s D) {kvs : Kd} (hs : ∀ i : Nat, hasK kvs i = true → Kept s i) {i : Nat} (h : Kg93.V.cell i ∈ valsOf s kvs) (hy : s.isYoung i = true) : Kept s i := by
  obtain ⟨_, c, hc, hk, h1, h2, e⟩ := (valsOf_mem g).mp h
  have hf := g.keyed hc hk
  rw [e] at hf
  have hsh := g.shape c hc
  unfold Shape at hsh
  rw [hk] at hsh
  rcases hsh with z | ⟨j, v, z⟩
  · rw [z] at hf
    simp at hf
  · rw [z] at hf
    have e0 : f0 c = .cell j := by
      have := (List.cons.inj hf).1
      exact this.symm
    have e1 : v = .cell i := by
      have := (List.cons.inj (List.cons.inj hf).2).1
      exact this
    rw [e0] at h2
    rw [e1] at z
    have kj : s.isYoung j = true → Kept s j := fun y => hs j (stay_iff.mp h2 y)
    by_cases o : c.old = true
    · exact .valO hc o hk z kj hy
    · have o' : c.old = false := by simpa using o
      have : s.isYoung c.id = true := by rw [g.young hc, o']; rfl
      exact .valY hc (hs _ (stay_iff.mp h1 this)) hk z kj hy
/-- at the loop's head -/
structure FK (s : Sta) (kvs : Kd) (ws : List Vl) (b : Bool) : Prop where
  sound : ∀ i : Nat, hasK kvs i = true → Kept s i
  wsound : ∀ i, Kg93.V.cell i ∈ ws → s.isYoung i = true → Kept s i
  first : ∀ i, Kg93.V.cell i ∈ hfOf s s.cells → s.isYoung i = true → hasK kvs i = true ∨ Kg93.V.cell i ∈ ws
  closed : ∀ i : Nat, hasK kvs i = true → ∀ c, s.at_ i = some c → c.kind = .plain → ∀ j, Kg93.V.cell j ∈ c.fields → s.isYoung j = true → hasK kvs j = true
  src : if b = true then ws = hfOf s s.cells else ws = valsOf s kvs
  keys : kvs.length + unkept s kvs ≤ 1000
theorem FK.next {s : Sta} {D : List Nat} (g : Good s D) {kvs kvs' : Kd} {ws : List Vl} {b : Bool} (k : FK s kvs ws b) (f : KF s kvs ws kvs' []) : FK s kvs' (valsOf s kvs') false := by
  have hs := (f.sound k.sound k.wsound).1
  refine ⟨hs, fun i hi hy => valsOf_sound g hs hi hy, fun i hi hy => ?_, fun i hi c hc hp j hj hy => ?_, ?_, Nat.le_trans f.keys k.keys⟩
  · rcases k.first i hi hy with q | q
    · exact .inl (f.mono i q)
    · rcases f.full i q hy with q | q
      · exact .inl q
      · cases q
  · rcases f.closed i hi with q | q
    · exact f.mono j (k.closed i q c hc hp j hj hy)
    · rcases q c hc hp j hj hy with q | q
      · exact q
      · cases q
  · rw [if_neg (by simp)]
theorem FK.done {s : Sta} {D : List Nat} (g : Good s D) {kvs : Kd} {b : Bool} (k : FK s kvs [] b) (i : Nat) : hasK kvs i = true ↔ Kept s i := by
  have hb : valsOf s kvs = [] := by
    have := k.src
    cases b with
    | true =>
      rw [if_pos rfl] at this
      have h2 : (hfOf s s.cells).length ≥ 16 := by
        unfold hfOf
        rw [List.length_append, g.v16]
        omega
      rw [← this] at h2
      simp at h2
    | false =>
      rw [if_neg (by simp)] at this
      exact this.symm
  constructor
  · exact k.sound i
  · intro h
    have first : ∀ i, Kg93.V.cell i ∈ hfOf s s.cells → s.isYoung i = true → hasK kvs i = true := fun i hi hy => by
      rcases k.first i hi hy with q | q
      · exact q
      · cases q
    have vals : ∀ (c : Cl) (j i : Nat), c ∈ s.cells → c.kind = .keyed → c.fields = [.cell j, .cell i] → (s.isYoung c.id = true → hasK kvs c.id = true) → (s.isYoung j = true → hasK kvs j = true) → s.isYoung i = true → hasK kvs i = true := by
      intro c j i hc hk hf h1 h2 hy
      have e0 : f0 c = .cell j := by unfold f0; rw [hf]; rfl
      have e1 : f1 c = .cell i := by unfold f1; rw [hf]; rfl
      cases q : hasK kvs i with
      | true => rfl
      | false =>
        exfalso
        have : Kg93.V.cell i ∈ valsOf s kvs := (valsOf_mem g).mpr ⟨by show (!s.isYoung i || hasK kvs i) = false; rw [hy, q]; rfl, c, hc, hk, stay_iff.mpr h1, by rw [e0]; exact stay_iff.mpr h2, e1⟩
        rw [hb] at this
        cases this
    induction h with
    | var h y => exact first _ (List.mem_append_left _ h) y
    | rem hc o r p h y => exact first _ (List.mem_append_right _ (List.mem_flatMap.mpr ⟨_, List.mem_filter.mpr ⟨hc, by simpa using r⟩, h⟩)) y
    | plain hc o kk p h y ih => exact k.closed _ ih _ (g.atc hc) p _ h y
    | valO hc o p h kk y ih =>
      refine vals _ _ _ hc p h (fun z => ?_) ih y
      rw [g.young hc, o] at z
      cases z
    | valY hc o p h kk y ih1 ih2 => exact vals _ _ _ hc p h (fun _ => ih1) ih2 y
theorem hasK_nil (n : Int) : hasK [] n = false := rfl
theorem FK.start {s : Sta} {D : List Nat} (g : Good s D) (hm : s.made ≤ 1000) : FK s [] (hfOf s s.cells) true := by
  refine ⟨fun i hi => ?_, fun i hi hy => ?_, fun i hi _ => .inr hi, fun i hi => ?_, iteT rfl, ?_⟩
  · rw [hasK_nil] at hi; cases hi
  · unfold hfOf at hi
    rcases List.mem_append.mp hi with h | h
    · exact .var h hy
    · obtain ⟨c, hc, hv⟩ := List.mem_flatMap.mp h
      obtain ⟨hc, hr⟩ := List.mem_filter.mp hc
      have hr' : c.id ∈ s.remembered := by simpa using hr
      obtain ⟨d, hd, e, ho, hp⟩ := g.remOk _ hr'
      have := g.sorted.uniq hd hc e
      subst this
      exact .rem hc ho hr' hp hv hy
  · rw [hasK_nil] at hi; cases hi
  · have h0 : unkept s [] ≤ 1000 := by
      unfold unkept youngIds Kg93.State.young
      refine Nat.le_trans (List.length_filter_le _ _) ?_
      rw [List.length_map]
      exact Nat.le_trans (List.length_filter_le _ _) (Nat.le_trans g.count hm)
    show 0 + _ ≤ 1000
    omega
def sp_find_kept (CC CS : Addr) : Sp := fun vs H Q _ => ∃ B H0 s D, vs = [.ref (B .store)] ∧ RepA CC CS B H0 H s (idsS s) D ∧ Good s D ∧ s.made ≤ 1000 ∧
  ∀ H' p kvs, H0 p = none → (∀ i : Nat, hasK kvs i = true ↔ Kept s i) → RepA CC CS B (upd H0 p (.dK kvs)) H' s (idsS s) D → Q (.ref p) H'
section
variable {P : Program} {w : World} {K : PySem.W.Frag} {mg : Str → Option Value} {base : Heap} {CC CS : Addr}
theorem cal_find_kept (F : Def K mg "find_kept" s_find_kept ["store"]) (T : Txt K mg CC CS) (c_held_at_first : Cal P w K mg base 1 "held_at_first" (sp_held_at_first CC CS)) (c_keep_from : Cal P w K mg base 4 "keep_from" (sp_keep_from CC CS)) (c_values_to_keep : Cal P w K mg base 4 "values_to_keep" (sp_values_to_keep CC CS)) :
    Cal P w K mg base 5 "find_kept" (sp_find_kept CC CS) := by
  refine F.cal sc_find_kept (fun vs H Q E h => ?_) (fun f cdv A outer sh H vs Q E hr h => ?_)
  · obtain ⟨B, H0, s, D, rfl, _⟩ := h
    rfl
  · obtain ⟨B, H0, s, D, rfl, R, g, hm, cont⟩ := h
    refine ⟨_, (pss_cons (ps_set (i := 1) sc_find_kept.nd rfl (Or.inl rfl) pe_dnewK) (pss_cons (ps_set (i := 2) sc_find_kept.nd rfl (Or.inl rfl) (C8.pe_c c_held_at_first hr (by decide) rfl (pa_cons (pv 0) pa_nil))) (pss_cons (ps_while PassesOwn.never (pt_cmpR op_gt (pe_callB call_len_seq (by rfl) T.b_len PySem.boot_len (pa_cons (pv 2) pa_nil)) pe_int (nomark _)) (pss_cons (ps_expr (C8.pe_c c_keep_from hr (by decide) rfl (pa_cons (pv 1) (pa_cons (pv 2) pa_nil)))) (pss_one (ps_set (i := 2) sc_find_kept.nd rfl (Or.inl rfl) (C8.pe_c c_values_to_keep hr (by decide) rfl (pa_cons (pv 0) (pa_cons (pv 1) pa_nil))))))) (pss_one (ps_ret (pv 1)))))), ?_⟩
    -- kept = {}
    intro k hk
    have hk0 : H0 k = none := R.same.free hk
    have R1 := R.fresh (o := .dK []) hk
    -- waiting = held_at_first(store)
    refine ⟨_, rfl, B, upd H0 k (.dK []), s, D, rfl, R1, g, hm, fun H2 wl hwl R2 => ?_⟩
    -- the loop
    refine ⟨fun m σ H' => ∃ (kvs : Kd) (ws : List Vl) (b : Bool) (wl : Addr), m = 2 * unkept s kvs + (if b = true then 1 else 0) ∧ σ = [some (.ref (B .store)), some (.ref k), some (.ref wl)] ∧ FK s kvs ws b ∧ (upd H0 k (.dK kvs)) wl = none ∧ RepA CC CS B (upd (upd H0 k (.dK kvs)) wl (.lst (ws.map (vV (adB B))))) H' s (idsS s) D,
      ⟨_, [], hfOf s s.cells, true, wl, rfl, rfl, FK.start g hm, hwl, R2⟩, ?_⟩
    rintro m σ H' ⟨kvs, ws, b, wl', rfl, rfl, fk, hwl', R'⟩
    have hw' : H' wl' = some (.lst (ws.map (vV (adB B)))) := R'.same wl' _ upd_same
    refine ⟨_, rfl, wl', _, rfl, .inl (SqL.of hw'), _, _, rfl, rfl, _, rfl, ?_⟩
    cases ws with
    | nil =>
      refine iteF ⟨_, rfl, ?_⟩
      exact cont H' k kvs hk0 (fun i => fk.done g i) (R'.weak (same_upd hwl'))
    | cons x ws =>
      refine ite2 (fun _ => ?_) (fun q => absurd (decide_eq_true (by rw [List.length_map, List.length_cons]; omega)) q)
      refine ⟨fun σ' H2 => ∃ (kvs2 : Kd) (ws2 : List Vl) (wl2 : Addr), 2 * unkept s kvs2 < 2 * unkept s kvs + (if b = true then 1 else 0) ∧ σ' = [some (.ref (B .store)), some (.ref k), some (.ref wl2)] ∧ FK s kvs2 ws2 false ∧ (upd H0 k (.dK kvs2)) wl2 = none ∧ RepA CC CS B (upd (upd H0 k (.dK kvs2)) wl2 (.lst (ws2.map (vV (adB B))))) H2 s (idsS s) D,
        fun σ' H2 ⟨kvs2, ws2, wl2, hlt, e, fk2, hn2, R2⟩ => ⟨2 * unkept s kvs2, by omega, kvs2, ws2, false, wl2, rfl, e, fk2, hn2, R2⟩, ?_⟩
      have nkw : k ≠ wl' := ne_of_none (H := upd H0 k (.dK kvs)) upd_same hwl'
      have hun : unkept s kvs ≤ 1000 := by have := fk.keys; omega
      have hwlen : (x :: ws).length ≤ 16 + 6 * 1000 := by
        have hsrc := fk.src
        cases b with
        | true =>
          rw [if_pos rfl] at hsrc
          have := hfOf_len g s.cells (fun _ h => h)
          rw [← hsrc] at this
          have := g.count
          omega
        | false =>
          rw [if_neg (by simp)] at hsrc
          have := valsOf_len g (kvs := kvs)
          rw [← hsrc] at this
          omega
      have hwok : ∀ v ∈ x :: ws, HeldOk s D v := by
        intro v hv
        have hsrc := fk.src
        cases b with
        | true =>
          rw [if_pos rfl] at hsrc
          rw [hsrc] at hv
          exact hfOf_mem g hv
        | false =>
          rw [if_neg (by simp)] at hsrc
          rw [hsrc] at hv
          exact valsOf_ok g hv
      -- keep_from(kept, waiting)
      refine ⟨_, rfl, _, rfl, B, _, s, D, k, wl', kvs, x :: ws, rfl, by rw [upd_ne nkw]; exact upd_same, upd_same, R', g, by have := fk.keys; omega, by omega, hwok, fun H3 kvs' kf R3 => ?_⟩
      have hH0wl : H0 wl' = none := by rw [upd_ne (Ne.symm nkw)] at hwl'; exact hwl'
      have R4 : RepA CC CS B (upd H0 k (.dK kvs')) H3 s (idsS s) D := R3.weak (by
        intro c o e
        have hc : c ≠ wl' := fun z => by
          subst z
          rw [upd_ne (Ne.symm nkw), hH0wl] at e
          cases e
        rw [upd_ne hc]
        by_cases z : c = k
        · subst z
          rw [upd_same] at e ⊢
          exact e
        · rw [upd_ne z] at e ⊢
          rw [upd_ne hc, upd_ne z]
          exact e)
      have fk2 := fk.next g kf
      -- waiting = values_to_keep(store, kept)
      refine ⟨_, rfl, _, rfl, B, _, s, D, k, kvs', rfl, upd_same, R4, g, hm, fun H5 p2 hp2 R5 => ?_⟩
      refine ⟨kvs', valsOf s kvs', p2, ?_, rfl, fk2, hp2, R5⟩
      have hle := unkept_le (s := s) kf.mono
      cases b with
      | true => rw [if_pos rfl]; omega
      | false =>
        rw [if_neg (by simp)]
        have hsrc := fk.src
        rw [if_neg (by simp)] at hsrc
        have hx : x ∈ valsOf s kvs := by rw [← hsrc]; exact List.mem_cons_self ..
        obtain ⟨hst, _⟩ := (valsOf_mem g).mp hx
        cases x with
        | none_ => cases hst
        | num z => cases hst
        | cell i =>
          have hst' : (!s.isYoung i || hasK kvs i) = false := hst
          rw [Bool.or_eq_false_iff] at hst'
          have hy : s.isYoung i = true := by simpa using hst'.1
          have hin : hasK kvs' i = true := by
            rcases kf.full i (List.mem_cons_self ..) hy with q | q
            · exact q
            · cases q
          have := unkept_lt g kf.mono hy hst'.2 hin
          omega
end
end Gc
set_option Elab.async false
set_option maxRecDepth 100000
set_option maxHeartbeats 2000000
namespace Gc
open PySem PySem.Spec PyProof.Rows L2
/-! ### attributes stored -/
def cellL (pl kd fl wd yo se co re : V) : List (Str × V) := [("place", pl), ("kind", kd), ("fields", fl), ("word", wd), ("young", yo), ("seasoned", se), ("colour", co), ("remembered", re)]
section
variable {pl kd flv wd yo se co re x : V}
theorem pl_fields : putF "fields" x (cellL pl kd flv wd yo se co re) = cellL pl kd x wd yo se co re :=
  (put_past (by decide +kernel)).trans (congrArg _ ((put_past (by decide +kernel)).trans (congrArg _ put_here)))
theorem pl_word : putF "word" x (cellL pl kd flv wd yo se co re) = cellL pl kd flv x yo se co re :=
  (put_past (by decide +kernel)).trans (congrArg _ ((put_past (by decide +kernel)).trans (congrArg _ ((put_past (by decide +kernel)).trans (congrArg _ put_here)))))
theorem pl_young : putF "young" x (cellL pl kd flv wd yo se co re) = cellL pl kd flv wd x se co re :=
  (put_past (by decide +kernel)).trans (congrArg _ ((put_past (by decide +kernel)).trans (congrArg _ ((put_past (by decide +kernel)).trans (congrArg _ ((put_past (by decide +kernel)).trans (congrArg _ put_here)))))))
theorem pl_seasoned : putF "seasoned" x (cellL pl kd flv wd yo se co re) = cellL pl kd flv wd yo x co re :=
  (put_past (by decide +kernel)).trans (congrArg _ ((put_past (by decide +kernel)).trans (congrArg _ ((put_past (by decide +kernel)).trans (congrArg _ ((put_past (by decide +kernel)).trans (congrArg _ ((put_past (by decide +kernel)).trans (congrArg _ put_here)))))))))
theorem pl_colour : putF "colour" x (cellL pl kd flv wd yo se co re) = cellL pl kd flv wd yo se x re :=
  (put_past (by decide +kernel)).trans (congrArg _ ((put_past (by decide +kernel)).trans (congrArg _ ((put_past (by decide +kernel)).trans (congrArg _ ((put_past (by decide +kernel)).trans (congrArg _ ((put_past (by decide +kernel)).trans (congrArg _ ((put_past (by decide +kernel)).trans (congrArg _ put_here)))))))))))
theorem pl_remembered : putF "remembered" x (cellL pl kd flv wd yo se co re) = cellL pl kd flv wd yo se co x :=
  (put_past (by decide +kernel)).trans (congrArg _ ((put_past (by decide +kernel)).trans (congrArg _ ((put_past (by decide +kernel)).trans (congrArg _ ((put_past (by decide +kernel)).trans (congrArg _ ((put_past (by decide +kernel)).trans (congrArg _ ((put_past (by decide +kernel)).trans (congrArg _ ((put_past (by decide +kernel)).trans (congrArg _ put_here)))))))))))))
theorem pl_place : (cellL pl kd flv wd yo se co re).lookup ("place" : Str) = some pl := lk_here
end
section
variable {fl : Addr} {rm : Bool} {c : Cl}
theorem cellF_L : cellF fl rm c = cellL (.int c.id) (.int (kindN c.kind)) (.ref fl) (wordV c.word) (.bl (!c.old)) (.bl (c.seasoned && !c.old)) (colV c) (.bl rm) := rfl
theorem pf_word (w : Option Int) : putF "word" (wordV w) (cellF fl rm c) = cellF fl rm { c with word := w } := pl_word
theorem pf_fields (p : Addr) : putF "fields" (.ref p) (cellF fl rm c) = cellF p rm c := pl_fields
theorem pf_remembered (b : Bool) : putF "remembered" (.bl b) (cellF fl rm c) = cellF fl b c := pl_remembered
theorem pf_seasoned (h : c.old = false) : putF "seasoned" (.bl true) (cellF fl rm c) = cellF fl rm { c with seasoned := true } := by
  refine pl_seasoned.trans ?_
  rw [cellF_L]
  have e : (true && !c.old) = true := by rw [h]; rfl
  show cellL _ _ _ _ _ (.bl true) _ _ = cellL _ _ _ _ _ (.bl (true && !c.old)) _ _
  rw [e]
  rfl
theorem pf_colour (x : Kg93.Colour) (h : c.old = true) : putF "colour" (.int (colN x)) (cellF fl rm c) = cellF fl rm { c with colour := x } := by
  refine pl_colour.trans ?_
  rw [cellF_L]
  have e : colV { c with colour := x } = .int (colN x) := if_pos h
  rw [e]
/-- a young cell that becomes old: three attributes, one by one -/
theorem pf_grow (x : Kg93.Colour) : putF "colour" (.int (colN x)) (putF "seasoned" (.bl false) (putF "young" (.bl false) (cellF fl rm c))) = cellF fl rm { c with old := true, colour := x } := by
  rw [cellF_L, pl_young, pl_seasoned, pl_colour, cellF_L]
  have e : colV { c with old := true, colour := x } = .int (colN x) := if_pos rfl
  have e2 : (c.seasoned && !true) = false := by simp
  rw [e]
  show _ = cellL _ _ _ _ (.bl (!true)) (.bl (c.seasoned && !true)) _ _
  rw [e2]
  rfl
theorem grow_place : (putF "seasoned" (.bl false) (putF "young" (.bl false) (cellF fl rm c))).lookup ("place" : Str) = some (.int c.id) := by
  rw [cellF_L, pl_young, pl_seasoned]
  exact pl_place
end
section
variable {CC CS : Addr} {B : Role → Addr} {H0 H : Hp} {s t : Sta} {lst : List Nat} {D : List Nat}
/-- the heap tells a state by its cells' numbers -/
theorem RepA.congr (R : RepA CC CS B H0 H s lst D) (hv : t.vars = s.vars) (hm : t.made = s.made) (hp : t.phase = s.phase) (hw : t.words = s.words) (hat : ∀ i, t.at_ i = s.at_ i) (hrem : ∀ i c, t.at_ i = some c → t.remembered.contains i = s.remembered.contains i) : RepA CC CS B H0 H t lst D :=
  R.drop hv hm hp hw (fun i c h => (hat i).symm.trans h) hrem (fun i h => .inl h) fun i h => (hat i).trans (R.nd i h)
end
/-! ### last words -/
def sp_tell_last_word (CC CS : Addr) : Sp := fun vs H Q _ => ∃ (B : Role → Addr) (H0 : Hp) (s : Sta) (lst D : List Nat) (c : Cl), vs = [.ref (B .store), refC B c] ∧ RepA CC CS B H0 H s lst D ∧ s.at_ c.id = some c ∧ s.words.length < 1000000 ∧
  ∀ H', RepA CC CS B H0 H' { s with words := s.words ++ c.word.toList } lst D → Q .non H'
def colWhen (ph sw pl : Int) : Int := if ph = 0 then 0 else if ph = 1 then 1 else if pl ≤ sw then 0 else 2
def sp_colour_when_old (CC CS : Addr) : Sp := fun vs H Q _ => ∃ st ce dxs fss dxc fsc ph sw pl, vs = [.ref st, .ref ce] ∧ H st = some (.ins CS dxs fss) ∧ fss.lookup ("phase" : Str) = some (.int ph) ∧ fss.lookup ("swept" : Str) = some (.int sw) ∧ H ce = some (.ins CC dxc fsc) ∧ fsc.lookup ("place" : Str) = some (.int pl) ∧ Q (.int (colWhen ph sw pl)) H
def sp_grow_up (CC CS : Addr) : Sp := fun vs H Q _ => ∃ B H0 s lst D c, vs = [.ref (B .store), refC B c] ∧ RepA CC CS B H0 H s lst D ∧ s.at_ c.id = some c ∧ c.old = false ∧
  ∀ H', RepA CC CS B H0 H' (s.put (s.aged c)) lst D → Q .non H'
def emptyB (s : Sta) (kvs : Kd) (c : Cl) : Bool := !decide (c.kind = .plain) && !stayB s kvs (f0 c)
def emptied (c : Cl) : Cl := { c with fields := List.replicate c.fields.length .none_ }
def sp_empty_cell (CC CS : Addr) : Sp := fun vs H Q _ => ∃ B H0 s lst D c, vs = [refC B c] ∧ RepA CC CS B H0 H s lst D ∧ s.at_ c.id = some c ∧ c.fields.length ≤ 6 ∧
  ∀ H' B', (∀ r, (∀ i, r ≠ .flds i) → B' r = B r) → RepA CC CS B' H0 H' (s.put (emptied c)) lst D → Q .non H'
def sp_empty_if_gone (CC CS : Addr) : Sp := fun vs H Q _ => ∃ B H0 s lst D k kvs c, vs = [.ref k, refC B c] ∧ H0 k = some (.dK kvs) ∧ RepA CC CS B H0 H s lst D ∧ s.at_ c.id = some c ∧ (c.kind ≠ .plain → f0 c ∈ c.fields ∧ HeldOk s D (f0 c)) ∧ c.fields.length ≤ 6 ∧
  (emptyB s kvs c = false → Q .non H) ∧ (emptyB s kvs c = true → ∀ H' B', (∀ r, (∀ i, r ≠ .flds i) → B' r = B r) → RepA CC CS B' H0 H' (s.put (emptied c)) lst D → Q .non H')
def remB (s : Sta) (c : Cl) : Bool := decide (c.kind = .plain) && (c.old && c.fields.any (youngB s))
def sp_is_to_be_remembered (CC CS : Addr) : Sp := fun vs H Q _ => ∃ B H0 s lst D c, vs = [refC B c] ∧ RepA CC CS B H0 H s lst D ∧ s.at_ c.id = some c ∧ (∀ v ∈ c.fields, HeldOk s D v) ∧ c.fields.length ≤ 6 ∧
  ∀ H', RepA CC CS B H0 H' s lst D → Q (.bl (remB s c)) H'
section
variable {P : Program} {w : World} {K : PySem.W.Frag} {mg : Str → Option Value} {base : Heap} {CC CS : Addr}
theorem cal_tell_last_word (F : Def K mg "tell_last_word" s_tell_last_word ["store", "cell"]) (T : Txt K mg CC CS) : Cal P w K mg base 1 "tell_last_word" (sp_tell_last_word CC CS) := by
  refine F.cal sc_tell_last_word (fun vs H Q E h => ?_) (fun f cdv A outer sh H vs Q E hr h => ?_)
  · obtain ⟨B, H0, s, lst, D, c, rfl, _⟩ := h
    rfl
  · obtain ⟨B, H0, s, lst, D, c, rfl, R, hat, hsz, cont⟩ := h
    refine ⟨_, (pss_one (ps_if (pt_cmpR op_notN (pe_fld (pv 1) rfl) pe_non (nomark _)) (pss_one (ps_expr (pe_bm PySem.F.plainAttrs_list PySem.F.slot_list_append PySem.F.type_list_append mt_append (pe_fld (pv 0) rfl) (pa_cons (pe_fld (pv 1) rfl) pa_nil)))) pss_nil)), ?_⟩
    obtain ⟨dc, hcell⟩ := R.cell hat
    refine ⟨_, rfl, B (.cell c.id), CC, dc, _, _, rfl, hcell, T.isC.cl, T.n_word, cf_word, rfl, _, rfl, ?_⟩
    cases ew : c.word with
    | none =>
      refine iteF ?_
      refine cont _ ?_
      rw [ew]
      simpa using R
    | some z =>
      obtain ⟨dx, sw, hsw, hst⟩ := R.store
      refine iteT ?_
      refine ⟨_, rfl, B .store, CS, dx, _, _, rfl, hst, T.cS, T.m_told, sf_told, .inl ⟨rfl, _, SqL.of R.told⟩, _, rfl, B (.cell c.id), CC, dc, _, _, rfl, hcell, T.isC.cl, T.n_word, cf_word, B .told, _, _, rfl, rfl, R.told, by rw [List.length_map]; exact Nat.lt_trans hsz (by decide), ?_⟩
      refine cont _ ?_
      have R6 := R.setWords (s.words ++ c.word.toList)
      rw [ew] at R6 ⊢
      rw [List.map_append] at R6
      exact R6
theorem cal_colour_when_old (F : Def K mg "colour_when_old" s_colour_when_old ["store", "cell"]) (T : Txt K mg CC CS) : Cal P w K mg base 1 "colour_when_old" (sp_colour_when_old CC CS) := by
  refine F.cal sc_colour_when_old (fun vs H Q E h => ?_) (fun f cdv A outer sh H vs Q E hr h => ?_)
  · obtain ⟨st, ce, dxs, fss, dxc, fsc, ph, sw, pl, rfl, _⟩ := h
    rfl
  · obtain ⟨st, ce, dxs, fss, dxc, fsc, ph, sw, pl, rfl, hst, hph, hsw, hce, hpl, k⟩ := h
    refine ⟨_, (pss_cons (ps_if (pt_cmpR op_eq (pe_fld (pv 0) rfl) (C8.pe_gc rfl T.k_RESTS) (nomark _)) (pss_one (ps_ret (C8.pe_gc rfl T.k_WHITE))) pss_nil) (pss_cons (ps_if (pt_cmpR op_eq (pe_fld (pv 0) rfl) (C8.pe_gc rfl T.k_MARKS) (nomark _)) (pss_one (ps_ret (C8.pe_gc rfl T.k_GREY))) pss_nil) (pss_one (ps_ret (pe_ifExp (pt_cmpR op_le (pe_fld (pv 1) rfl) (pe_fld (pv 0) rfl) (nomark _)) (C8.pe_gc rfl T.k_WHITE) (C8.pe_gc rfl T.k_BLACK)))))), ?_⟩
    unfold colWhen at k
    refine ⟨_, rfl, st, CS, dxs, _, _, rfl, hst, T.cS, T.m_phase, hph, rfl, _, rfl, ?_⟩
    refine ite2 (fun q => ?_) (fun q => ?_)
    · have e : ph = 0 := by have := of_decide_eq_true q; injection this
      rw [if_pos e] at k
      exact k
    · have e : ph ≠ 0 := fun z => q (decide_eq_true (by rw [z]))
      rw [if_neg e] at k
      refine ⟨_, rfl, st, CS, dxs, _, _, rfl, hst, T.cS, T.m_phase, hph, rfl, _, rfl, ?_⟩
      refine ite2 (fun q => ?_) (fun q => ?_)
      · have e : ph = 1 := by have := of_decide_eq_true q; injection this
        rw [if_pos e] at k
        exact k
      · have e : ph ≠ 1 := fun z => q (decide_eq_true (by rw [z]))
        rw [if_neg e] at k
        refine ⟨_, rfl, ce, CC, dxc, _, _, rfl, hce, T.isC.cl, T.n_place, hpl, _, rfl, st, CS, dxs, _, _, rfl, hst, T.cS, T.m_swept, hsw, _, _, rfl, rfl, _, rfl, ?_⟩
        refine ite2 (fun q => ?_) (fun q => ?_)
        · rw [if_pos (of_decide_eq_true q)] at k
          exact k
        · rw [if_neg (fun z => q (decide_eq_true z))] at k
          exact k
end
end Gc
set_option Elab.async false
set_option maxRecDepth 100000
set_option maxHeartbeats 2000000
namespace Gc
open PySem PySem.Spec PyProof.Rows L2
theorem colWhen_new {s : Sta} {sw : Int} (hsw : ∀ n, s.phase = .sweep n → sw = (n : Int) - 1) (i : Nat) : colWhen (phN s.phase) sw i = colN (s.newColour i) := by
  unfold colWhen Kg93.State.newColour
  cases e : s.phase with
  | rest => rfl
  | mark => rfl
  | sweep n =>
    have := hsw n e
    subst this
    show (if (2 : Int) = 0 then (0 : Int) else if (2 : Int) = 1 then 1 else if (i : Int) ≤ (n : Int) - 1 then 0 else 2) = colN (if i < n then .white else .black)
    rw [if_neg (by decide), if_neg (by decide)]
    by_cases q : i < n
    · rw [if_pos (by omega), if_pos q]; rfl
    · rw [if_neg (by omega), if_neg q]; rfl
section
variable {P : Program} {w : World} {K : PySem.W.Frag} {mg : Str → Option Value} {base : Heap} {CC CS : Addr}
theorem cal_grow_up (F : Def K mg "grow_up" s_grow_up ["store", "cell"]) (T : Txt K mg CC CS) (c_colour_when_old : Cal P w K mg base 1 "colour_when_old" (sp_colour_when_old CC CS)) : Cal P w K mg base 2 "grow_up" (sp_grow_up CC CS) := by
  refine F.cal sc_grow_up (fun vs H Q E h => ?_) (fun f cdv A outer sh H vs Q E hr h => ?_)
  · obtain ⟨B, H0, s, lst, D, c, rfl, _⟩ := h
    rfl
  · obtain ⟨B, H0, s, lst, D, c, rfl, R, hc, ho, cont⟩ := h
    refine ⟨_, (pss_one (ps_if (pt_val (pe_fld (pv 1) rfl)) (pss_cons (ps_fld (pv 1) pe_bl rfl) (pss_cons (ps_fld (pv 1) pe_bl rfl) (pss_one (ps_fld (pv 1) (C8.pe_c c_colour_when_old hr (by decide) rfl (pa_cons (pv 0) (pa_cons (pv 1) pa_nil))) rfl)))) (pss_one (ps_fld (pv 1) pe_bl rfl)))), ?_⟩
    obtain ⟨dc, hcell⟩ := R.cell hc
    obtain ⟨dx, sw, hsw, hst⟩ := R.store
    have hne : B .store ≠ B (.cell c.id) := fun z => by
      have := R.inj .store (.cell c.id) (.inl trivial) (.inl (show (s.at_ c.id).isSome = true by rw [hc]; rfl)) z
      cases this
    have hrem : ∀ j, j ≠ c.id → s.remembered.contains j = s.remembered.contains j := fun _ _ => rfl
    refine ⟨_, rfl, B (.cell c.id), CC, dc, _, _, rfl, hcell, T.isC.cl, T.n_seasoned, cf_seasoned, _, rfl, ?_⟩
    have e : (c.seasoned && !c.old) = c.seasoned := by rw [ho]; simp
    rw [e]
    cases hs : c.seasoned with
    | true =>
      refine iteT ?_
      have ea : s.aged c = { c with old := true, colour := s.newColour c.id } := by
        unfold Kg93.State.aged
        rw [if_neg (by rw [ho]; simp), if_pos hs]
      -- cell.young = False; cell.seasoned = False
      refine ⟨_, rfl, B (.cell c.id), CC, dc, _, rfl, hcell, T.isC.cl, T.n_young, (by show 8 < 1000; decide), ?_⟩
      refine ⟨_, rfl, B (.cell c.id), CC, dc, _, rfl, upd_same, T.isC.cl, T.n_seasoned, (by rw [cellF_L, pl_young]; show 8 < 1000; decide), ?_⟩
      rw [upd_upd]
      -- cell.colour = colour_when_old(store, cell)
      refine ⟨_, rfl, _, rfl, B .store, B (.cell c.id), dx, _, dc, _, _, _, _, rfl, Eq.trans (upd_ne hne) hst, sf_phase, sf_swept, upd_same, grow_place, ?_⟩
      refine ⟨_, rfl, B (.cell c.id), CC, dc, _, rfl, upd_same, T.isC.cl, T.n_colour, (by rw [cellF_L, pl_young, pl_seasoned]; show 8 < 1000; decide), ?_⟩
      rw [upd_upd, colWhen_new hsw, pf_grow]
      refine cont _ ?_
      rw [ea]
      exact R.putCell (c' := { c with old := true, colour := s.newColour c.id }) hc rfl rfl hrem
    | false =>
      refine iteF ?_
      have ea : s.aged c = { c with seasoned := true } := by
        unfold Kg93.State.aged
        rw [if_neg (by rw [ho]; simp), if_neg (by rw [hs]; simp)]
      refine ⟨_, rfl, B (.cell c.id), CC, dc, _, rfl, hcell, T.isC.cl, T.n_seasoned, (by show 8 < 1000; decide), ?_⟩
      rw [pf_seasoned ho]
      refine cont _ ?_
      rw [ea]
      exact R.putCell (c' := { c with seasoned := true }) hc rfl rfl hrem
theorem at0 {xs : List V} {v : V} (h : xs[0]? = some v) : atI xs 0 = some v := at_of (j := 0) rfl h
theorem cal_empty_cell (F : Def K mg "empty_cell" s_empty_cell ["cell"]) (T : Txt K mg CC CS) : Cal P w K mg base 1 "empty_cell" (sp_empty_cell CC CS) := by
  refine F.cal sc_empty_cell (fun vs H Q E h => ?_) (fun f cdv A outer sh H vs Q E hr h => ?_)
  · obtain ⟨B, H0, s, lst, D, c, rfl, _⟩ := h
    rfl
  · obtain ⟨B, H0, s, lst, D, c, rfl, R, hc, h6, cont⟩ := h
    refine ⟨_, (pss_one (ps_fld (pv 0) (pe_op op_rep (pe_lst (pa_cons pe_non pa_nil)) (pe_callB call_len_seq (by rfl) T.b_len PySem.boot_len (pa_cons (pe_fld (pv 0) rfl) pa_nil))) rfl)), ?_⟩
    -- cell.fields = [None] * len(cell.fields)
    refine ⟨by show 1 ≤ 2 ^ 24; decide, fun l hl => ?_⟩
    have R1 := R.fresh (o := .lst [V.non]) hl
    obtain ⟨dc1, hcell1⟩ := R1.cell hc
    refine ⟨_, rfl, B (.cell c.id), CC, dc1, _, _, rfl, hcell1, T.isC.cl, T.n_fields, cf_fields, B (.flds c.id), _, rfl, .inl (SqL.of (R1.flds hc)), l, _, _, rfl, rfl, upd_same, ?_, ?_, ?_, fun p hp2 => ?_⟩
    · omega
    · rw [List.length_map]; omega
    · rw [List.length_map]
      show 1 * (c.fields.length : Int).toNat ≤ 2 ^ 24
      omega
    have hrep : (List.replicate (((c.fields.map (vV (adB B))).length : Nat) : Int).toNat [V.non]).flatten = (List.replicate c.fields.length Kg93.V.none_).map (vV (adB B)) := by
      rw [List.length_map, Int.toNat_natCast]
      induction c.fields.length with
      | zero => rfl
      | succ n ih =>
        rw [List.replicate_succ, List.replicate_succ, List.flatten_cons, ih]
        rfl
    have R2 := R1.fresh (o := .lst ((List.replicate (((c.fields.map (vV (adB B))).length : Nat) : Int).toNat [V.non]).flatten)) hp2
    have hl0 : H0 l = none := R.same.free hl
    have hp0 : H0 p = none := (same_upd hl0).free (R1.same.free hp2)
    obtain ⟨dc2, hcell2⟩ := R2.cell hc
    refine ⟨_, rfl, B (.cell c.id), CC, dc2, _, rfl, hcell2, T.isC.cl, T.n_fields, (by show 8 < 1000; decide), ?_⟩
    rw [pf_fields]
    have R3 : RepA CC CS B (upd H0 p (.lst ((List.replicate c.fields.length Kg93.V.none_).map (vV (adB B))))) (upd (upd H l (.lst [V.non])) p (.lst ((List.replicate (((c.fields.map (vV (adB B))).length : Nat) : Int).toNat [V.non]).flatten))) s lst D := by
      refine R2.weak ?_
      intro b o e
      by_cases z : b = p
      · subst z
        rw [upd_same] at e ⊢
        rw [hrep]
        exact e
      · rw [upd_ne z] at e ⊢
        rw [upd_ne (ne_of_none e hl0)]
        exact e
    refine cont _ _ (fun r hr => ?_) (R3.moveFlds hp0 hc)
    exact if_neg (hr c.id)
theorem cal_empty_if_gone (F : Def K mg "empty_if_gone" s_empty_if_gone ["kept", "cell"]) (T : Txt K mg CC CS) (c_stays : Cal P w K mg base 3 "stays" (sp_stays CC)) (c_empty_cell : Cal P w K mg base 1 "empty_cell" (sp_empty_cell CC CS)) : Cal P w K mg base 4 "empty_if_gone" (sp_empty_if_gone CC CS) := by
  refine F.cal sc_empty_if_gone (fun vs H Q E h => ?_) (fun f cdv A outer sh H vs Q E hr h => ?_)
  · obtain ⟨B, H0, s, lst, D, k, kvs, c, rfl, _⟩ := h
    rfl
  · obtain ⟨B, H0, s, lst, D, k, kvs, c, rfl, hk0, R, hc, hf, h6, kN, kY⟩ := h
    refine ⟨_, (pss_one (ps_if (PW.pt (pw_and (pt_cmpR op_ne (pe_fld (pv 1) rfl) (C8.pe_gc rfl T.k_PLAIN) (nomark _)) (pw_and1 (pt_not (pt_val (C8.pe_c c_stays hr (by decide) rfl (pa_cons (pv 0) (pa_cons (pe_ix ix_list (pe_fld (pv 1) rfl) pe_int (fun _ _ => rfl)) pa_nil)))))))) (pss_one (ps_expr (C8.pe_c c_empty_cell hr (by decide) rfl (pa_cons (pv 1) pa_nil)))) pss_nil)), ?_⟩
    obtain ⟨dc, hcell⟩ := R.cell hc
    have hkH : H k = some (.dK kvs) := R.same k _ hk0
    unfold emptyB at kN kY
    refine ⟨_, rfl, B (.cell c.id), CC, dc, _, _, rfl, hcell, T.isC.cl, T.n_kind, cf_kind, rfl, _, rfl, ?_⟩
    by_cases hp : c.kind = .plain
    · have e : (!decide (V.int (kindN c.kind) = V.int 0)) = false := by rw [hp]; rfl
      rw [e]
      refine iteF (iteF ?_)
      exact kN (by rw [decide_eq_true hp]; rfl)
    · have e : (!decide (V.int (kindN c.kind) = V.int 0)) = true := by
        rw [decide_eq_false (fun z => hp (by injection z with z; exact (kind_eq (b := Kg93.Kind.plain)).mp z))]
        rfl
      rw [e]
      rw [decide_eq_false hp] at kN kY
      obtain ⟨hm, hok⟩ := hf hp
      have h00 : (c.fields.map (vV (adB B)))[0]? = some (vV (adB B) (f0 c)) := by
        unfold f0
        cases hfs : c.fields with
        | nil => rw [hfs] at hm; cases hm
        | cons a r => rfl
      refine iteT ?_
      refine ⟨_, rfl, _, rfl, B (.cell c.id), CC, dc, _, _, rfl, hcell, T.isC.cl, T.n_fields, cf_fields, B (.flds c.id), _, _, _, rfl, rfl, SqL.of (R.flds hc), at0 h00, ?_⟩
      refine ⟨k, vV (adB B) (f0 c), kvs, _, rfl, hkH, R.isS hok kvs, _, rfl, ?_⟩
      cases hs : stayB s kvs (f0 c) with
      | true => exact iteF (kN (by rw [hs]; rfl))
      | false =>
        refine iteT ?_
        exact ⟨_, rfl, B, H0, s, lst, D, c, rfl, R, hc, h6, fun H' B' hB R' => kY (by rw [hs]; rfl) H' B' hB R'⟩
end
end Gc
set_option Elab.async false
set_option maxRecDepth 100000
set_option maxHeartbeats 2000000
namespace Gc
open PySem PySem.Spec PyProof.Rows L2
section
variable {P : Program} {w : World} {K : PySem.W.Frag} {mg : Str → Option Value} {base : Heap} {CC CS : Addr}
theorem cal_is_to_be_remembered (F : Def K mg "is_to_be_remembered" s_is_to_be_remembered ["cell"]) (T : Txt K mg CC CS) (c_is_young : Cal P w K mg base 2 "is_young" (sp_is_young CC)) : Cal P w K mg base 3 "is_to_be_remembered" (sp_is_to_be_remembered CC CS) := by
  refine F.cal sc_is_to_be_remembered (fun vs H Q E h => ?_) (fun f cdv A outer sh H vs Q E hr h => ?_)
  · obtain ⟨B, H0, s, lst, D, c, rfl, _⟩ := h
    rfl
  · obtain ⟨B, H0, s, lst, D, c, rfl, R, hc, hok, h6, cont⟩ := h
    refine ⟨_, (pss_one (ps_ret (pe_and (pe_cmpR op_eq (pe_fld (pv 0) rfl) (C8.pe_gc rfl T.k_PLAIN) (nomark _)) (pe_and (pe_not (pe_fld (pv 0) rfl)) (pe_one (pe_callB (cr_any rfl) (by rfl) T.b_any (by decide +kernel) (pa_cons (pe_lc (own := [("held", 1)]) (g := gName 1) (tt := tYes) (te := (tCall _ [] E0 (tCons (tVar 1) tNil))) rfl sc_is_to_be_remembered.nd (pi_list (pe_fld (pv 0) rfl)) (blkOk_by (own := [("held", 1)]) (N := ["cell", "held"]) (sc := defScope s_is_to_be_remembered) (by decide +kernel)) (fun _ _ _ _ _ => pg_name (i := 1) sc_is_to_be_remembered.nd rfl (Or.inl rfl)) (fun _ _ _ _ _ => pts_nil) (fun _ _ _ _ _ => (C8.pe_c c_is_young hr (by decide) rfl (pa_cons (pv 1) pa_nil)))) pa_nil))))))), ?_⟩
    obtain ⟨dc, hcell⟩ := R.cell hc
    unfold remB at cont
    refine ⟨_, rfl, B (.cell c.id), CC, dc, _, _, rfl, hcell, T.isC.cl, T.n_kind, cf_kind, rfl, _, rfl, ?_⟩
    by_cases hp : c.kind = .plain
    · have e : decide (V.int (kindN c.kind) = V.int 0) = true := by rw [hp]; rfl
      rw [e]
      rw [decide_eq_true hp] at cont
      refine iteT ?_
      refine ⟨_, rfl, B (.cell c.id), CC, dc, _, _, rfl, hcell, T.isC.cl, T.n_young, cf_young, _, rfl, _, rfl, ?_⟩
      cases ho : c.old with
      | false =>
        rw [ho] at cont
        exact iteF (cont H R)
      | true =>
        rw [ho] at cont
        refine iteT ?_
        refine ⟨_, rfl, B (.cell c.id), CC, dc, _, _, rfl, hcell, T.isC.cl, T.n_fields, cf_fields, B (.flds c.id), rfl, ⟨_, SqL.of (R.flds hc)⟩, fun p hp => ?_⟩
        refine lc_rep c.fields (vV (adB B)) R hp (fun o H' R' => SqL.of (R'.flds hc)) (fun _ => true) (fun v => .bl (youngB s v)) (Nat.lt_of_le_of_lt h6 (by decide)) ?_ ?_
        · intro v hv o H' R' Y N hY hN
          refine ⟨rfl, iteT (B := N H') ?_⟩
          exact ⟨_, rfl, _, _, rfl, R'.isY (hok v hv), hY rfl⟩
        · intro H1 R1
          have hl : H1 p = some (.lst ((c.fields.map (youngB s)).map V.bl)) := by
            have := R1.same p _ upd_same
            rw [List.filter_eq_self.mpr (fun _ _ => rfl)] at this
            rw [List.map_map]
            exact this
          refine ⟨p, c.fields.map (youngB s), rfl, SqL.of hl, ?_⟩
          have e2 : (c.fields.map (youngB s)).any id = c.fields.any (youngB s) := by
            rw [List.any_map]
            rfl
          rw [e2]
          exact cont H1 (R1.weak (same_upd (R.same.free hp)))
    · have e : decide (V.int (kindN c.kind) = V.int 0) = false := decide_eq_false (fun z => hp (by injection z with z; exact (kind_eq (b := Kg93.Kind.plain)).mp z))
      rw [e]
      rw [decide_eq_false hp] at cont
      exact iteF (cont H R)
end
/-! ### a round of the young: the states between -/
/-- cells whose numbers are in l have gone through -/
def midAt (s : Sta) (l : List Nat) (j : Nat) : Option Cl := if l.contains j = true then (s.at_ j).map (leftF s) else s.at_ j
structure Mid (s t : Sta) (ws : List Int) (l : List Nat) : Prop where
  vars : t.vars = s.vars
  made : t.made = s.made
  phase : t.phase = s.phase
  words : t.words = ws
  at_ : ∀ j, t.at_ j = midAt s l j
def leftC (s : Sta) : List Cl := s.cells.filter fun c => !gone s c.id
def leftI (s : Sta) : List Nat := (leftC s).map (·.id)
theorem leftI_mem {s : Sta} {D : List Nat} (g : Good s D) {j : Nat} : j ∈ leftI s ↔ ∃ c, s.at_ j = some c ∧ gone s j = false := by
  unfold leftI leftC
  rw [List.mem_map]
  constructor
  · rintro ⟨c, h, rfl⟩
    obtain ⟨a, b⟩ := List.mem_filter.mp h
    exact ⟨c, g.atc a, by simpa using b⟩
  · rintro ⟨c, h, b⟩
    have e := at_id h
    refine ⟨c, List.mem_filter.mpr ⟨at_in h, ?_⟩, e⟩
    rw [e, b]; rfl
theorem leftF_old_eq {s : Sta} {c : Cl} (h : c.old = true) : (leftF s c).old = true := by
  rw [leftF_old h, (without_id _ c).2.2.1, h]
/-- in every state between, what stays is what isn't gone -/
theorem Mid.stay {s t : Sta} {D : List Nat} (g : Good s D) {ws : List Int} {l : List Nat} (m : Mid s t ws l) (hl : ∀ j ∈ l, j ∈ leftI s) {kvs : Kd} (hk : ∀ i : Nat, hasK kvs i = true ↔ Kept s i) (j : Nat) : stayB t kvs (.cell j) = !gone s j := by
  have hgo := gone_iff g (i := j)
  cases hg : gone s j with
  | true =>
    have hy : s.isYoung j = true := by
      unfold gone at hg
      exact (Bool.and_eq_true_iff.mp hg).1
    have hnk : ¬ Kept s j := fun h => by
      have := hgo.mpr (fun _ => h)
      rw [hg] at this
      cases this
    have hjl : j ∉ l := fun h => by
      obtain ⟨_, _, h2⟩ := (leftI_mem g).mp (hl j h)
      rw [hg] at h2
      cases h2
    have hty : t.isYoung j = true := by
      unfold Kg93.State.isYoung
      rw [m.at_, midAt, if_neg (by simpa using hjl)]
      exact hy
    show (!t.isYoung j || hasK kvs j) = !true
    rw [hty]
    cases q : hasK kvs j with
    | true => exact absurd ((hk j).mp q) hnk
    | false => rfl
  | false =>
    refine stay_iff.mpr fun hty => ?_
    have hy : s.isYoung j = true := by
      unfold Kg93.State.isYoung at hty
      rw [m.at_, midAt] at hty
      by_cases q : l.contains j = true
      · rw [if_pos q] at hty
        unfold Kg93.State.isYoung
        cases e : s.at_ j with
        | none => rw [e] at hty; cases hty
        | some c =>
          rw [e] at hty
          simp only [Option.map_some, Option.any_some] at hty ⊢
          cases o : c.old with
          | false => rfl
          | true => rw [leftF_old_eq o] at hty; cases hty
      · rw [if_neg q] at hty
        exact hty
    exact (hk j).mpr (hgo.mp hg hy)
theorem Mid.held {s t : Sta} {D : List Nat} {ws : List Int} {l : List Nat} (m : Mid s t ws l) {v : Vl} (h : HeldOk s D v) : HeldOk t D v := fun i e => by
  rcases h i e with h | h
  · left
    rw [m.at_, midAt]
    split
    · rw [Option.isSome_map]; exact h
    · exact h
  · exact .inr h
/-- one cell more has gone through -/
theorem Mid.next {s t u : Sta} {ws : List Int} {l : List Nat} (m : Mid s t ws l) {c d : Cl} (hc : s.at_ c.id = some c) (hd : d = leftF s c) (hu : u.vars = t.vars) (hm : u.made = t.made) (hp : u.phase = t.phase) (hw : u.words = t.words) (hat : ∀ j, u.at_ j = if j = c.id then some d else t.at_ j) : Mid s u ws (l ++ [c.id]) := by
  refine ⟨hu.trans m.vars, hm.trans m.made, hp.trans m.phase, hw.trans m.words, fun j => ?_⟩
  rw [hat]
  unfold midAt
  by_cases e : j = c.id
  · subst e
    rw [if_pos rfl, if_pos (by simp), hc, hd]
    rfl
  · rw [if_neg e, m.at_]
    unfold midAt
    have : ((l ++ [c.id]).contains j = true) ↔ (l.contains j = true) := by
      simp [e]
    by_cases q : l.contains j = true
    · rw [if_pos q, if_pos (this.mpr q)]
    · rw [if_neg q, if_neg (fun z => q (this.mp z))]
/-- what empty_if_gone and grow_up make of a cell -/
theorem without_empty {s : Sta} {D : List Nat} (g : Good s D) {c : Cl} (hc : c ∈ s.cells) {t : Sta} {kvs : Kd} (h : ∀ j, stayB t kvs (.cell j) = !gone s j) : c.without (gone s) = if emptyB t kvs c = true then emptied c else c := by
  have hsh := g.shape c hc
  unfold Shape at hsh
  unfold emptyB emptied f0
  cases hk : c.kind with
  | plain => rw [without_plain hk]; simp
  | weak =>
    rw [hk] at hsh
    unfold Kg93.Cell.without
    rw [hk]
    rcases hsh with e | ⟨j, e⟩
    · rw [e]
      have : stayB t kvs (List.getD [Kg93.V.none_] 0 Kg93.V.none_) = true := rfl
      rw [this]
      simp
    · rw [e]
      have : stayB t kvs (List.getD [Kg93.V.cell j] 0 Kg93.V.none_) = !gone s j := h j
      rw [this]
      cases q : gone s j <;> simp [q]
  | keyed =>
    rw [hk] at hsh
    unfold Kg93.Cell.without
    rw [hk]
    rcases hsh with e | ⟨j, v, e⟩
    · rw [e]
      have : stayB t kvs (List.getD [Kg93.V.none_, Kg93.V.none_] 0 Kg93.V.none_) = true := rfl
      rw [this]
      simp
    · rw [e]
      have : stayB t kvs (List.getD [Kg93.V.cell j, v] 0 Kg93.V.none_) = !gone s j := h j
      rw [this]
      cases q : gone s j <;> simp [q]
end Gc
set_option Elab.async false
set_option maxRecDepth 100000
set_option maxHeartbeats 4000000
namespace Gc
open PySem PySem.Spec PyProof.Rows L2
theorem pf_cells {vl cl tl : Addr} {made : Nat} {ph sw : Int} (p : Addr) : putF "cells" (.ref p) (storeF vl cl tl made ph sw) = storeF vl p tl made ph sw :=
  (put_past (by decide +kernel)).trans (congrArg _ put_here)
theorem aged_phase {s t : Sta} (h : t.phase = s.phase) (c : Cl) : t.aged c = s.aged c := by
  unfold Kg93.State.aged Kg93.State.newColour
  rw [h]
theorem Mid.zero (s : Sta) (ws : List Int) : Mid s { s with words := ws } ws [] := ⟨rfl, rfl, rfl, rfl, fun j => by
  unfold midAt
  rw [if_neg (by simp)]
  rfl⟩
theorem stay0 {s : Sta} {D : List Nat} (g : Good s D) {kvs : Kd} (hk : ∀ i : Nat, hasK kvs i = true ↔ Kept s i) (j : Nat) : stayB s kvs (.cell j) = !gone s j :=
  (Mid.zero s s.words).stay g (fun j h => nomatch h) hk j
theorem leftI_nodup {s : Sta} {D : List Nat} (g : Good s D) : (leftI s).Nodup := by
  unfold leftI leftC
  rw [List.Nodup, List.pairwise_map]
  exact List.Pairwise.imp (fun h e => by omega) (g.sorted.filter _)
theorem nodup_take {l : List Nat} (h : l.Nodup) {i : Nat} {x : Nat} (hx : l[i]? = some x) : x ∉ l.take i := by
  intro hm
  obtain ⟨j, hj⟩ := List.mem_iff_getElem?.mp hm
  rw [List.getElem?_take] at hj
  split at hj
  · next hlt =>
    have := (List.getElem?_inj (by
      have := (List.getElem?_eq_some_iff.mp hj).1
      exact this) h).mp (hj.trans hx.symm)
    omega
  · cases hj
theorem round_at {s : Sta} {D : List Nat} (g : Good s D) (i : Nat) : s.round.1.at_ i = ((s.at_ i).filter fun c => !gone s c.id).map (leftF s) := by
  unfold Kg93.State.at_
  rw [round_cells, at_map _ (leftF_id s), g.sorted.at_filter]
theorem round_mid {s : Sta} {D : List Nat} (g : Good s D) {i : Nat} {c : Cl} (h : s.round.1.at_ i = some c) : midAt s (leftI s) i = some c ∧ i ∈ leftI s := by
  rw [round_at g] at h
  obtain ⟨d, hd, rfl⟩ := Option.map_eq_some_iff.mp h
  obtain ⟨h1, h2⟩ := Option.filter_eq_some_iff.mp hd
  have e := at_id h1
  have hm : i ∈ leftI s := (leftI_mem g).mpr ⟨d, h1, by rw [e] at h2; simpa using h2⟩
  refine ⟨?_, hm⟩
  unfold midAt
  rw [if_pos (by simpa using hm), h1]
  rfl
theorem round_ids (s : Sta) : idsS s.round.1 = leftI s := by
  show (s.round.1.cells).map (·.id) = _
  rw [round_cells, List.map_map]
  unfold leftI leftC
  apply List.map_congr_left
  intro c _
  exact leftF_id s c
/-- holding a young one, told from the states between -/
def youngM (s : Sta) (v : Vl) : Bool := match v with
  | .cell j => (midAt s (leftI s) j).any fun c => !c.old
  | _ => false
def remM (s : Sta) (c : Cl) : Bool := decide (c.kind = .plain) && (c.old && c.fields.any (youngM s))
theorem remM_eq {s t : Sta} (h : ∀ j, t.at_ j = midAt s (leftI s) j) (c : Cl) : remB t c = remM s c := by
  unfold remB remM
  have : youngB t = youngM s := by
    funext v
    cases v with
    | none_ => rfl
    | num z => rfl
    | cell j =>
      show t.isYoung j = _
      unfold Kg93.State.isYoung
      rw [h]
      rfl
  rw [this]
theorem round_rem {s : Sta} {D : List Nat} (g : Good s D) {i : Nat} {c : Cl} (h : s.round.1.at_ i = some c) : s.round.1.remembered.contains i = remM s c := by
  have g2 := g.round
  have hcm := at_in h
  have hci := at_id h
  rw [round_remembered g, Bool.eq_iff_iff, List.contains_iff_mem, holders_mem]
  unfold remM
  simp only [Bool.and_eq_true, decide_eq_true_eq, List.any_eq_true]
  constructor
  · rintro ⟨c', hc', e, ho, hk, d, hd, hdo, hf⟩
    have := g2.sorted.uniq hc' hcm (e.trans hci.symm)
    subst this
    refine ⟨hk, ho, _, hf, ?_⟩
    show ((midAt s (leftI s) d.id).any fun c => !c.old) = true
    rw [(round_mid g (g2.atc hd)).1]
    show (!d.old) = true
    rw [hdo]
    rfl
  · rintro ⟨hk, ho, v, hv, hy⟩
    cases v with
    | none_ => cases hy
    | num z => cases hy
    | cell j =>
      obtain ⟨c0, hc0, hg0, rfl⟩ := left_mem.mp hcm
      have hgj := (left_fld g hc0 hg0 hv).2
      have hy' : ((midAt s (leftI s) j).any fun c => !c.old) = true := hy
      rw [Option.any_eq_true] at hy'
      obtain ⟨d, hd, hdo⟩ := hy'
      have hj : j ∈ leftI s := by
        unfold midAt at hd
        split at hd
        · next q => simpa using q
        · exact (leftI_mem g).mpr ⟨d, hd, hgj⟩
      obtain ⟨d0, hd0, _⟩ := (leftI_mem g).mp hj
      have hd1 : s.round.1.at_ j = some d := by
        rw [round_at g, hd0]
        unfold midAt at hd
        rw [if_pos (by simpa using hj), hd0] at hd
        have : (some d0).filter (fun c => !gone s c.id) = some d0 := by
          rw [Option.filter_eq_some_iff]
          exact ⟨rfl, by rw [at_id hd0, hgj]; rfl⟩
        rw [this]
        exact hd
      refine ⟨_, hcm, hci, ho, hk, d, at_in hd1, by simpa using hdo, ?_⟩
      rw [at_id hd1]
      exact hv
theorem sq_left {K : PySem.W.Frag} {CC CS : Addr} {B B' : Role → Addr} {H0 H : Hp} {t : Sta} {l D : List Nat} {a : Addr} (h : ∀ i, B' (.cell i) = B (.cell i)) (hc : B' .cells = a) (R : RepA CC CS B' H0 H t l D) : SqL K H a (l.map fun i => V.ref (B (.cell i))) := by
  have := R.cells
  rw [hc] at this
  have e : (fun i => V.ref (B' (.cell i))) = fun i => V.ref (B (.cell i)) := by
    funext i
    rw [h]
  rw [e] at this
  exact SqL.of this
def sp_round_of_the_young (CC CS : Addr) : Sp := fun vs H Q _ => ∃ B H0 s D, vs = [.ref (B .store)] ∧ RepA CC CS B H0 H s (idsS s) D ∧ Good s D ∧ s.made ≤ 1000 ∧ s.words.length ≤ 900000 ∧
  ∀ H' B', B' .store = B .store → (∀ i, B' (.cell i) = B (.cell i)) → RepA CC CS B' H0 H' s.round.1 (idsS s.round.1) D → Q .non H'
section
variable {P : Program} {w : World} {K : PySem.W.Frag} {mg : Str → Option Value} {base : Heap} {CC CS : Addr}
theorem cal_round_of_the_young (F : Def K mg "round_of_the_young" s_round_of_the_young ["store"]) (T : Txt K mg CC CS) (c_find_kept : Cal P w K mg base 5 "find_kept" (sp_find_kept CC CS)) (c_stays : Cal P w K mg base 3 "stays" (sp_stays CC)) (c_tell_last_word : Cal P w K mg base 1 "tell_last_word" (sp_tell_last_word CC CS))
    (c_empty_if_gone : Cal P w K mg base 4 "empty_if_gone" (sp_empty_if_gone CC CS)) (c_grow_up : Cal P w K mg base 2 "grow_up" (sp_grow_up CC CS)) (c_is_to_be_remembered : Cal P w K mg base 3 "is_to_be_remembered" (sp_is_to_be_remembered CC CS)) :
    Cal P w K mg base 6 "round_of_the_young" (sp_round_of_the_young CC CS) := by
  refine F.cal sc_round_of_the_young (fun vs H Q E h => ?_) (fun f cdv A outer sh H vs Q E hr h => ?_)
  · obtain ⟨B, H0, s, D, rfl, _⟩ := h
    rfl
  · obtain ⟨B, H0, s, D, rfl, R, g, hm, hwl, cont⟩ := h
    refine ⟨_, (pss_cons (ps_set (i := 1) sc_round_of_the_young.nd rfl (Or.inr rfl) (C8.pe_c c_find_kept hr (by decide) rfl (pa_cons (pv 0) pa_nil))) (pss_cons (ps_for PassesOwn.never rfl (pi_list (pe_lc (own := [("cell", 3)]) (g := gName 3) (tt := (tNot (tB (tCall _ [] E0 (tCons (tVar 1) (tCons (tVar 3) tNil)))))) (te := (tVar 3)) rfl sc_round_of_the_young.nd (pi_list (pe_fld (pv 0) rfl)) (blkOk_by (own := [("cell", 3)]) (N := ["store", "kept", "gone", "cell"]) (sc := defScope s_round_of_the_young) (by decide +kernel)) (fun _ _ _ _ _ => pg_name (i := 3) sc_round_of_the_young.nd rfl (Or.inl rfl)) (fun _ _ _ _ _ => pts_one (pt_not (pt_val (C8.pe_c c_stays hr (by decide) rfl (pa_cons (pv 1) (pa_cons (pv 3) pa_nil)))))) (fun _ _ _ _ _ => (pv 3)))) (pg_name (i := 2) sc_round_of_the_young.nd rfl (Or.inl rfl)) (pss_one (ps_expr (C8.pe_c c_tell_last_word hr (by decide) rfl (pa_cons (pv 0) (pa_cons (pv 2) pa_nil)))))) (pss_cons (ps_fld (pv 0) (pe_lc (own := [("cell", 3)]) (g := gName 3) (tt := (tB (tCall _ [] E0 (tCons (tVar 1) (tCons (tVar 3) tNil))))) (te := (tVar 3)) rfl sc_round_of_the_young.nd (pi_list (pe_fld (pv 0) rfl)) (blkOk_by (own := [("cell", 3)]) (N := ["store", "kept", "gone", "cell"]) (sc := defScope s_round_of_the_young) (by decide +kernel)) (fun _ _ _ _ _ => pg_name (i := 3) sc_round_of_the_young.nd rfl (Or.inl rfl)) (fun _ _ _ _ _ => pts_one (pt_val (C8.pe_c c_stays hr (by decide) rfl (pa_cons (pv 1) (pa_cons (pv 3) pa_nil))))) (fun _ _ _ _ _ => (pv 3))) rfl) (pss_cons (ps_for PassesOwn.never rfl (pi_list (pe_fld (pv 0) rfl)) (pg_name (i := 3) sc_round_of_the_young.nd rfl (Or.inl rfl)) (pss_cons (ps_expr (C8.pe_c c_empty_if_gone hr (by decide) rfl (pa_cons (pv 1) (pa_cons (pv 3) pa_nil)))) (pss_one (ps_if (pt_val (pe_fld (pv 3) rfl)) (pss_one (ps_expr (C8.pe_c c_grow_up hr (by decide) rfl (pa_cons (pv 0) (pa_cons (pv 3) pa_nil))))) pss_nil)))) (pss_one (ps_for PassesOwn.never rfl (pi_list (pe_fld (pv 0) rfl)) (pg_name (i := 3) sc_round_of_the_young.nd rfl (Or.inl rfl)) (pss_one (ps_fld (pv 3) (C8.pe_c c_is_to_be_remembered hr (by decide) rfl (pa_cons (pv 3) pa_nil)) rfl)))))))), ?_⟩
    have hcount := g.count
    have hlen : s.cells.length < sizeLine := Nat.lt_of_le_of_lt (Nat.le_trans hcount hm) (by decide)
    -- kept = find_kept(store)
    refine ⟨_, rfl, B, H0, s, D, rfl, R, g, hm, fun H1 k kvs hk0 hkk R1 => ?_⟩
    have hst0 := stay0 g hkk
    have h1k : H1 k = some (.dK kvs) := R1.same k _ upd_same
    obtain ⟨dx1, sw1, hsw1, hs1⟩ := R1.store
    -- for gone in [..]: tell_last_word(store, gone)
    refine ⟨_, rfl, B .store, CS, dx1, _, _, rfl, hs1, T.cS, T.m_cells, sf_cells, B .cells, rfl, ⟨_, cells_sq R1⟩, fun p hp => ?_⟩
    refine lc_rep s.cells (refC B) R1 hp (fun o H' R' => cells_sq R') (fun c => gone s c.id) (refC B) hlen ?_ ?_
    · intro c hc o H' R' Y N hY hN
      have hkH : H' k = some (.dK kvs) := R'.same k _ (by rw [upd_ne (ne_of_none h1k hp)]; exact upd_same)
      refine ⟨rfl, _, rfl, _, rfl, k, refC B c, kvs, _, rfl, hkH, R'.isS (g.heldSelf hc) kvs, _, rfl, ?_⟩
      rw [hst0]
      cases q : gone s c.id with
      | true => exact iteT ⟨_, rfl, hY q⟩
      | false => exact iteF (hN q)
    intro H2 R2
    have hp0 : (upd H0 k (.dK kvs)) p = none := R1.same.free hp
    refine ⟨p, rfl, ⟨_, SqL.of (R2.same p _ upd_same)⟩, for_list (K := K) (a := p) (xs := (s.cells.filter fun c => gone s c.id).map (refC B)) (fun i σ H' => ∃ v1 : Option V, σ = [some (.ref (B .store)), some (.ref k), v1, none] ∧ RepA CC CS B (upd (upd H0 k (.dK kvs)) p (.lst ((s.cells.filter fun c => gone s c.id).map (refC B)))) H' { s with words := s.words ++ ((s.cells.filter fun c => gone s c.id).take i).filterMap (·.word) } (idsS s) D)
      ⟨none, rfl, ?_⟩ (fun i σ H' _ ⟨_, _, R5⟩ => SqL.of (R5.same p _ upd_same)) ?_ ?_⟩
    · have e : s.words ++ ((s.cells.filter fun c => gone s c.id).take 0).filterMap (·.word) = s.words := by simp
      rw [e]
      exact R2
    · rintro i x σ H' hi ⟨v, rfl, R5⟩
      rw [List.getElem?_map] at hi
      obtain ⟨c, hc, rfl⟩ := Option.map_eq_some_iff.mp hi
      have hat : s.at_ c.id = some c := g.atc (List.mem_filter.mp (List.mem_of_getElem? hc)).1
      have step : ((s.cells.filter fun c => gone s c.id).take (i + 1)).filterMap (·.word) = ((s.cells.filter fun c => gone s c.id).take i).filterMap (·.word) ++ c.word.toList := by
        rw [take_more hc, List.filterMap_append]
        congr 1
      have hl : (s.words ++ ((s.cells.filter fun c => gone s c.id).take i).filterMap (·.word)).length < 1000000 := by
        have h1 : (((s.cells.filter fun c => gone s c.id).take i).filterMap (·.word)).length ≤ ((s.cells.filter fun c => gone s c.id).take i).length := List.length_filterMap_le _ _
        have h2 : ((s.cells.filter fun c => gone s c.id).take i).length ≤ (s.cells.filter fun c => gone s c.id).length := by rw [List.length_take]; omega
        have h3 : (s.cells.filter fun c => gone s c.id).length ≤ s.cells.length := List.length_filter_le _ _
        rw [List.length_append]
        omega
      refine ⟨_, rfl, _, rfl, B, _, { s with words := s.words ++ ((s.cells.filter fun c => gone s c.id).take i).filterMap (·.word) }, idsS s, D, c, rfl, R5, hat, hl, fun H6 R6 => ?_⟩
      refine ⟨_, rfl, ?_⟩
      rw [step, ← List.append_assoc]
      exact R6
    rintro σ H3 ⟨v1, rfl, R3'⟩
    rw [List.length_map, List.take_length] at R3'
    have R3 := R3'.weak (same_upd hp0)
    have ew : s.words ++ (s.cells.filter fun c => gone s c.id).filterMap (·.word) = s.round.1.words := rfl
    rw [ew] at R3
    have h3k : H3 k = some (.dK kvs) := R3.same k _ upd_same
    obtain ⟨dx3, sw3, hsw3, hs3⟩ := R3.store
    -- store.cells = [..]
    refine ⟨_, rfl, B .store, CS, dx3, _, _, rfl, hs3, T.cS, T.m_cells, sf_cells, B .cells, rfl, ⟨_, cells_sq (s := { s with words := s.round.1.words }) R3⟩, fun p2 hp2 => ?_⟩
    refine lc_rep s.cells (refC B) R3 hp2 (fun o H' R' => cells_sq (s := { s with words := s.round.1.words }) R') (fun c => !gone s c.id) (refC B) hlen ?_ ?_
    · intro c hc o H' R' Y N hY hN
      have hkH : H' k = some (.dK kvs) := R'.same k _ (by rw [upd_ne (ne_of_none h3k hp2)]; exact upd_same)
      refine ⟨rfl, _, rfl, _, rfl, k, refC B c, kvs, _, rfl, hkH, R'.isS (v := .cell c.id) (g.heldSelf hc) kvs, _, rfl, ?_⟩
      have e : stayB { s with words := s.round.1.words } kvs (.cell c.id) = !gone s c.id := hst0 c.id
      rw [e]
      cases q : gone s c.id with
      | true => exact iteF (hN (by rw [q]; rfl))
      | false => exact iteT ⟨_, rfl, hY (by rw [q]; rfl)⟩
    intro H4 R4
    have hp20 : (upd H0 k (.dK kvs)) p2 = none := R3.same.free hp2
    have el : (s.cells.filter fun c => !gone s c.id).map (refC B) = (leftI s).map fun i => V.ref (B (.cell i)) := by
      unfold leftI leftC
      rw [List.map_map]
      rfl
    rw [el] at R4
    obtain ⟨dx4, sw4, hsw4, hs4⟩ := R4.store
    refine ⟨_, rfl, B .store, CS, dx4, _, rfl, hs4, T.cS, T.m_cells, (by show 6 < 1000; decide), ?_⟩
    rw [pf_cells]
    obtain ⟨B1, hB1, R5⟩ : ∃ B1 : Role → Addr, (∀ r, r ≠ .cells → B1 r = B r) ∧ RepA CC CS B1 (upd H0 k (.dK kvs)) _ { s with words := s.round.1.words } (leftI s) D := ⟨_, fun r hr => if_neg hr, R4.moveCells (dx := dx4) hp20 hsw4⟩
    have hB1s : B1 .store = B .store := hB1 _ (by intro z; cases z)
    have hB1c : ∀ i, B1 (.cell i) = B (.cell i) := fun i => hB1 _ (by intro z; cases z)
    obtain ⟨dx5, sw5, hsw5, hs5⟩ := R5.store
    rw [hB1s] at hs5
    -- for cell in store.cells: ..
    refine ⟨_, rfl, B .store, CS, dx5, _, _, rfl, hs5, T.cS, T.m_cells, sf_cells, B1 .cells, rfl, ⟨_, sq_left hB1c rfl R5⟩,
      for_list (K := K) (a := B1 .cells) (xs := (leftI s).map fun i => V.ref (B (.cell i))) (fun i σ H' => ∃ (B' : Role → Addr) (t : Sta) (v : Option V), σ = [some (.ref (B .store)), some (.ref k), v1, v] ∧ (∀ r, (∀ j, r ≠ .flds j) → B' r = B1 r) ∧ Mid s t s.round.1.words ((leftI s).take i) ∧ t.remembered = s.remembered ∧ RepA CC CS B' (upd H0 k (.dK kvs)) H' t (leftI s) D)
      ⟨B1, _, none, rfl, fun r _ => rfl, Mid.zero s _, rfl, R5⟩ (fun i σ H' _ ⟨B', t, v, _, hB', _, _, R'⟩ => sq_left (fun j => (hB' _ (by intro i z; cases z)).trans (hB1c j)) (hB' _ (by intro i z; cases z)) R') ?_ ?_⟩
    · rintro i x σ H' hi ⟨B', t, v, rfl, hB', mid, hrm, R'⟩
      have hBc : ∀ j, B' (.cell j) = B (.cell j) := fun j => (hB' _ (by intro i z; cases z)).trans (hB1c j)
      have hBs : B' .store = B .store := (hB' _ (by intro i z; cases z)).trans hB1s
      obtain ⟨c, hci, rfl⟩ : ∃ c, (leftC s)[i]? = some c ∧ x = V.ref (B (.cell c.id)) := by
        unfold leftI at hi
        rw [List.getElem?_map, List.getElem?_map] at hi
        cases e : (leftC s)[i]? with
        | none => rw [e] at hi; cases hi
        | some c => rw [e] at hi; exact ⟨c, rfl, (Option.some.inj hi).symm⟩
      have hcl : c ∈ leftC s := List.mem_of_getElem? hci
      obtain ⟨hcm, hcg⟩ := List.mem_filter.mp hcl
      have hid : (leftI s)[i]? = some c.id := by
        unfold leftI
        rw [List.getElem?_map, hci]
        rfl
      have hnt : c.id ∉ (leftI s).take i := nodup_take (leftI_nodup g) hid
      have hat : t.at_ c.id = some c := by
        rw [mid.at_, midAt, if_neg (by simpa using hnt)]
        exact g.atc hcm
      have hst := mid.stay g (fun j hj => List.mem_of_mem_take hj) hkk
      have hwo := without_empty g hcm hst
      have htake : (leftI s).take (i + 1) = (leftI s).take i ++ [c.id] := take_more hid
      have hf : c.kind ≠ .plain → f0 c ∈ c.fields ∧ HeldOk t D (f0 c) := by
        intro hp
        have h0 : f0 c ∈ c.fields := by
          have hsh := g.shape c hcm
          unfold Shape at hsh
          unfold f0
          cases e : c.kind with
          | plain => exact absurd e hp
          | weak =>
            rw [e] at hsh
            rcases hsh with q | ⟨_, q⟩ <;> (rw [q]; exact List.mem_cons_self ..)
          | keyed =>
            rw [e] at hsh
            rcases hsh with q | ⟨_, _, q⟩ <;> (rw [q]; exact List.mem_cons_self ..)
        exact ⟨h0, mid.held (g.heldFld hcm h0)⟩
      refine ⟨_, rfl, _, rfl, B', _, t, leftI s, D, k, kvs, c, by show [V.ref k, V.ref (B (.cell c.id))] = [V.ref k, V.ref (B' (.cell c.id))]; rw [hBc], upd_same, R', hat, hf, g.six hcm, fun he => ?_, fun he H6 B6 hB6 R6 => ?_⟩
      · -- nothing is emptied
        rw [he, if_neg (by simp)] at hwo
        obtain ⟨dc, hcell⟩ := R'.cell hat
        rw [hBc] at hcell
        refine ⟨_, rfl, B (.cell c.id), CC, dc, _, _, rfl, hcell, T.isC.cl, T.n_young, cf_young, _, rfl, ?_⟩
        cases ho : c.old with
        | false =>
          refine iteT ⟨_, rfl, _, rfl, B', _, t, leftI s, D, c, by show [V.ref (B .store), V.ref (B (.cell c.id))] = [V.ref (B' .store), V.ref (B' (.cell c.id))]; rw [hBc, hBs], R', hat, ho, fun H7 R7 => ?_⟩
          refine ⟨B', _, _, rfl, hB', ?_, ?_, R7⟩
          · rw [htake]
            refine mid.next (g.atc hcm) (d := leftF s c) rfl rfl rfl rfl rfl fun j => ?_
            by_cases q : j = c.id
            · rw [if_pos q, q]
              have e2 : t.aged c = leftF s c := by unfold leftF; rw [aged_phase mid.phase, hwo]
              rw [e2]
              exact put_at_same hat (leftF_id s c)
            · rw [if_neg q]
              refine put_at_ne ?_
              rw [(aged_id t c).1]
              exact q
          · exact hrm
        | true =>
          refine iteF ⟨B', t, _, rfl, hB', ?_, hrm, R'⟩
          rw [htake]
          refine mid.next (g.atc hcm) (d := c) ?_ rfl rfl rfl rfl fun j => ?_
          · rw [leftF_old ho, hwo]
          · by_cases q : j = c.id
            · rw [if_pos q, q]; exact hat
            · rw [if_neg q]
      · rw [he, if_pos rfl] at hwo
        have hB6c : ∀ j, B6 (.cell j) = B (.cell j) := fun j => (hB6 _ (by intro i z; cases z)).trans (hBc j)
        have hB6s : B6 .store = B .store := (hB6 _ (by intro i z; cases z)).trans hBs
        have hB6a : ∀ r, (∀ j, r ≠ .flds j) → B6 r = B1 r := fun r hr => (hB6 r hr).trans (hB' r hr)
        have hat6 : (t.put (emptied c)).at_ c.id = some (emptied c) := put_at_same hat rfl
        obtain ⟨dc, hcell⟩ := R6.cell hat6
        rw [hB6c] at hcell
        refine ⟨_, rfl, B (.cell c.id), CC, dc, _, _, rfl, hcell, T.isC.cl, T.n_young, cf_young, _, rfl, ?_⟩
        cases ho : c.old with
        | false =>
          have ho' : (emptied c).old = false := ho
          rw [ho']
          refine iteT ⟨_, rfl, _, rfl, B6, _, t.put (emptied c), leftI s, D, emptied c, ?_, R6, hat6, ho', fun H7 R7 => ?_⟩
          · show [V.ref (B .store), V.ref (B (.cell c.id))] = [V.ref (B6 .store), V.ref (B6 (.cell c.id))]
            rw [hB6c, hB6s]
          refine ⟨B6, _, _, rfl, hB6a, ?_, ?_, R7⟩
          · rw [htake]
            refine mid.next (g.atc hcm) (d := leftF s c) rfl rfl rfl rfl rfl fun j => ?_
            have e2 : (t.put (emptied c)).aged (emptied c) = leftF s c := by
              unfold leftF
              rw [aged_phase (s := s) (t := t.put (emptied c)) mid.phase, hwo]
            rw [e2]
            by_cases q : j = c.id
            · rw [if_pos q, q]
              exact put_at_same hat6 (leftF_id s c)
            · rw [if_neg q]
              refine (put_at_ne ?_).trans (put_at_ne (c := emptied c) q)
              rw [leftF_id]
              exact q
          · exact hrm
        | true =>
          have ho' : (emptied c).old = true := ho
          rw [ho']
          refine iteF ⟨B6, t.put (emptied c), _, rfl, hB6a, ?_, hrm, R6⟩
          rw [htake]
          refine mid.next (g.atc hcm) (d := emptied c) ?_ rfl rfl rfl rfl fun j => ?_
          · rw [leftF_old ho, hwo]
          · by_cases q : j = c.id
            · rw [if_pos q, q]; exact hat6
            · rw [if_neg q]; exact put_at_ne (c := emptied c) q
    · rintro σ H' ⟨B', t, v, rfl, hB', mid, hrm, R'⟩
      have hBc : ∀ j, B' (.cell j) = B (.cell j) := fun j => (hB' _ (by intro i z; cases z)).trans (hB1c j)
      have hBs : B' .store = B .store := (hB' _ (by intro i z; cases z)).trans hB1s
      rw [List.length_map, List.take_length] at mid
      obtain ⟨dx7, sw7, hsw7, hs7⟩ := R'.store
      rw [hBs] at hs7
      -- for cell in store.cells: cell.remembered = is_to_be_remembered(cell)
      refine ⟨_, rfl, B .store, CS, dx7, _, _, rfl, hs7, T.cS, T.m_cells, sf_cells, B' .cells, rfl, ⟨_, sq_left hBc rfl R'⟩,
        for_list (K := K) (a := B' .cells) (xs := (leftI s).map fun i => V.ref (B (.cell i))) (fun i σ H2 => ∃ (u : Sta) (v : Option V), σ = [some (.ref (B .store)), some (.ref k), v1, v] ∧ Mid s u s.round.1.words (leftI s) ∧ (∀ j, u.remembered.contains j = if ((leftI s).take i).contains j = true then ((midAt s (leftI s) j).any (remM s)) else s.remembered.contains j) ∧ RepA CC CS B' (upd H0 k (.dK kvs)) H2 u (leftI s) D)
        ⟨t, v, rfl, mid, fun j => by rw [hrm, if_neg (by simp)], R'⟩ (fun i σ H2 _ ⟨u, v, _, _, _, R2⟩ => sq_left hBc rfl R2) ?_ ?_⟩
      · rintro i x σ H2 hi ⟨u, v2, rfl, mid2, hrm2, R2⟩
        obtain ⟨c, hci, rfl⟩ : ∃ c, (leftC s)[i]? = some c ∧ x = V.ref (B (.cell c.id)) := by
          unfold leftI at hi
          rw [List.getElem?_map, List.getElem?_map] at hi
          cases e : (leftC s)[i]? with
          | none => rw [e] at hi; cases hi
          | some c => rw [e] at hi; exact ⟨c, rfl, (Option.some.inj hi).symm⟩
        have hcl : c ∈ leftC s := List.mem_of_getElem? hci
        obtain ⟨hcm, hcg⟩ := List.mem_filter.mp hcl
        have hid : (leftI s)[i]? = some c.id := by
          unfold leftI
          rw [List.getElem?_map, hci]
          rfl
        have hmemL : c.id ∈ leftI s := List.mem_of_getElem? hid
        have hmid : midAt s (leftI s) c.id = some (leftF s c) := by
          unfold midAt
          rw [if_pos (by simpa using hmemL), g.atc hcm]
          rfl
        have hat : u.at_ (leftF s c).id = some (leftF s c) := by
          rw [leftF_id, mid2.at_]
          exact hmid
        have htake : (leftI s).take (i + 1) = (leftI s).take i ++ [c.id] := take_more hid
        have hrnd : leftF s c ∈ s.round.1.cells := left_mem.mpr ⟨c, hcm, by simpa using hcg, rfl⟩
        have hok : ∀ v ∈ (leftF s c).fields, HeldOk u D v := by
          intro v hv
          rw [leftF_fields] at hv
          rcases without_mem hv with h | h
          · exact mid2.held (g.heldFld hcm h)
          · subst h
            intro i z
            cases z
        refine ⟨_, rfl, B', _, u, leftI s, D, leftF s c, ?_, R2, hat, hok, g.round.six hrnd, fun H3 R3 => ?_⟩
        · show [V.ref (B (.cell c.id))] = [V.ref (B' (.cell (leftF s c).id))]
          rw [leftF_id, hBc]
        obtain ⟨dc, hcell⟩ := R3.cell hat
        rw [leftF_id, hBc] at hcell
        refine ⟨_, rfl, B (.cell c.id), CC, dc, _, rfl, hcell, T.isC.cl, T.n_remembered, (by show 8 < 1000; decide), ?_⟩
        rw [pf_remembered]
        obtain ⟨rem', hr1, hr2⟩ : ∃ rem' : List Nat, rem'.contains (leftF s c).id = remB u (leftF s c) ∧ ∀ j, j ≠ (leftF s c).id → rem'.contains j = u.remembered.contains j := by
          cases q : remB u (leftF s c) with
          | true => exact ⟨(leftF s c).id :: u.remembered, by simp, fun j hj => by simp [hj]⟩
          | false =>
            refine ⟨u.remembered.filter (fun i => i != (leftF s c).id), by simp, fun j hj => ?_⟩
            rw [Bool.eq_iff_iff, List.contains_iff_mem, List.contains_iff_mem, List.mem_filter]
            simp [hj]
        have R4 := R3.putCell (dx := dc) (c' := leftF s c) hat rfl rfl hr2
        rw [hr1, hBc, leftF_id] at R4
        refine ⟨{ u.put (leftF s c) with remembered := rem' }, _, rfl, ⟨mid2.vars, mid2.made, mid2.phase, mid2.words, fun j => ?_⟩, fun j => ?_, R4⟩
        · show (u.put (leftF s c)).at_ j = _
          rw [← mid2.at_]
          by_cases q : j = (leftF s c).id
          · rw [q, put_at_same hat rfl, hat]
          · exact put_at_ne q
        · show rem'.contains j = _
          by_cases q : j = c.id
          · have e1 := hr1
            rw [leftF_id] at e1
            rw [q, e1, if_pos (by rw [htake]; simp), hmid, remM_eq mid2.at_]
            rfl
          · rw [hr2 j (by rw [leftF_id]; exact q), hrm2]
            have : (((leftI s).take (i + 1)).contains j = true) ↔ (((leftI s).take i).contains j = true) := by
              rw [htake]
              simp [q]
            by_cases z : ((leftI s).take i).contains j = true
            · rw [if_pos z, if_pos (this.mpr z)]
            · rw [if_neg z, if_neg (fun y => z (this.mp y))]
      · rintro σ H2 ⟨u, v2, rfl, mid2, hrm2, R2⟩
        rw [List.length_map, List.take_length] at hrm2
        refine cont H2 B' hBs hBc ?_
        rw [round_ids]
        refine (R2.weak (same_upd hk0)).drop (by rw [mid2.vars]; rfl) (by rw [mid2.made]; rfl) (by rw [mid2.phase]; rfl) (by rw [mid2.words]) (fun i c h => ?_) (fun i c h => ?_) (fun i h => .inl h) (fun i h => ?_)
        · rw [mid2.at_]
          exact (round_mid g h).1
        · obtain ⟨h1, h2⟩ := round_mid g h
          rw [hrm2, if_pos (by simpa using h2), h1, round_rem g h]
          rfl
        · rw [round_at g, R.nd i h]
          rfl
end
end Gc
set_option Elab.async false
set_option maxRecDepth 100000
set_option maxHeartbeats 4000000
namespace Gc
open PySem PySem.Spec PyProof.Rows L2
/-! ### new objects -/
theorem nw_place {a : V} : putF "place" a ([] : List (Str × V)) = ([("place", a)] : List (Str × V)) := rfl
theorem nw_kind {a b : V} : putF "kind" b ([("place", a)] : List (Str × V)) = ([("place", a), ("kind", b)] : List (Str × V)) := (put_past (by decide +kernel)).trans (congrArg _ (rfl))
theorem nw_fields {a b c : V} : putF "fields" c ([("place", a), ("kind", b)] : List (Str × V)) = ([("place", a), ("kind", b), ("fields", c)] : List (Str × V)) := (put_past (by decide +kernel)).trans (congrArg _ ((put_past (by decide +kernel)).trans (congrArg _ (rfl))))
theorem nw_word {a b c d : V} : putF "word" d ([("place", a), ("kind", b), ("fields", c)] : List (Str × V)) = ([("place", a), ("kind", b), ("fields", c), ("word", d)] : List (Str × V)) := (put_past (by decide +kernel)).trans (congrArg _ ((put_past (by decide +kernel)).trans (congrArg _ ((put_past (by decide +kernel)).trans (congrArg _ (rfl))))))
theorem nw_young {a b c d e : V} : putF "young" e ([("place", a), ("kind", b), ("fields", c), ("word", d)] : List (Str × V)) = ([("place", a), ("kind", b), ("fields", c), ("word", d), ("young", e)] : List (Str × V)) := (put_past (by decide +kernel)).trans (congrArg _ ((put_past (by decide +kernel)).trans (congrArg _ ((put_past (by decide +kernel)).trans (congrArg _ ((put_past (by decide +kernel)).trans (congrArg _ (rfl))))))))
theorem nw_seasoned {a b c d e f : V} : putF "seasoned" f ([("place", a), ("kind", b), ("fields", c), ("word", d), ("young", e)] : List (Str × V)) = ([("place", a), ("kind", b), ("fields", c), ("word", d), ("young", e), ("seasoned", f)] : List (Str × V)) := (put_past (by decide +kernel)).trans (congrArg _ ((put_past (by decide +kernel)).trans (congrArg _ ((put_past (by decide +kernel)).trans (congrArg _ ((put_past (by decide +kernel)).trans (congrArg _ ((put_past (by decide +kernel)).trans (congrArg _ (rfl))))))))))
theorem nw_colour {a b c d e f g : V} : putF "colour" g ([("place", a), ("kind", b), ("fields", c), ("word", d), ("young", e), ("seasoned", f)] : List (Str × V)) = ([("place", a), ("kind", b), ("fields", c), ("word", d), ("young", e), ("seasoned", f), ("colour", g)] : List (Str × V)) := (put_past (by decide +kernel)).trans (congrArg _ ((put_past (by decide +kernel)).trans (congrArg _ ((put_past (by decide +kernel)).trans (congrArg _ ((put_past (by decide +kernel)).trans (congrArg _ ((put_past (by decide +kernel)).trans (congrArg _ ((put_past (by decide +kernel)).trans (congrArg _ (rfl))))))))))))
theorem nw_remembered {a b c d e f g h : V} : putF "remembered" h ([("place", a), ("kind", b), ("fields", c), ("word", d), ("young", e), ("seasoned", f), ("colour", g)] : List (Str × V)) = ([("place", a), ("kind", b), ("fields", c), ("word", d), ("young", e), ("seasoned", f), ("colour", g), ("remembered", h)] : List (Str × V)) := (put_past (by decide +kernel)).trans (congrArg _ ((put_past (by decide +kernel)).trans (congrArg _ ((put_past (by decide +kernel)).trans (congrArg _ ((put_past (by decide +kernel)).trans (congrArg _ ((put_past (by decide +kernel)).trans (congrArg _ ((put_past (by decide +kernel)).trans (congrArg _ ((put_past (by decide +kernel)).trans (congrArg _ (rfl))))))))))))))
theorem ns_variables {a : V} : putF "variables" a ([] : List (Str × V)) = ([("variables", a)] : List (Str × V)) := rfl
theorem ns_cells {a b : V} : putF "cells" b ([("variables", a)] : List (Str × V)) = ([("variables", a), ("cells", b)] : List (Str × V)) := (put_past (by decide +kernel)).trans (congrArg _ (rfl))
theorem ns_made {a b c : V} : putF "made" c ([("variables", a), ("cells", b)] : List (Str × V)) = ([("variables", a), ("cells", b), ("made", c)] : List (Str × V)) := (put_past (by decide +kernel)).trans (congrArg _ ((put_past (by decide +kernel)).trans (congrArg _ (rfl))))
theorem ns_phase {a b c d : V} : putF "phase" d ([("variables", a), ("cells", b), ("made", c)] : List (Str × V)) = ([("variables", a), ("cells", b), ("made", c), ("phase", d)] : List (Str × V)) := (put_past (by decide +kernel)).trans (congrArg _ ((put_past (by decide +kernel)).trans (congrArg _ ((put_past (by decide +kernel)).trans (congrArg _ (rfl))))))
theorem ns_swept {a b c d e : V} : putF "swept" e ([("variables", a), ("cells", b), ("made", c), ("phase", d)] : List (Str × V)) = ([("variables", a), ("cells", b), ("made", c), ("phase", d), ("swept", e)] : List (Str × V)) := (put_past (by decide +kernel)).trans (congrArg _ ((put_past (by decide +kernel)).trans (congrArg _ ((put_past (by decide +kernel)).trans (congrArg _ ((put_past (by decide +kernel)).trans (congrArg _ (rfl))))))))
theorem ns_told {a b c d e f : V} : putF "told" f ([("variables", a), ("cells", b), ("made", c), ("phase", d), ("swept", e)] : List (Str × V)) = ([("variables", a), ("cells", b), ("made", c), ("phase", d), ("swept", e), ("told", f)] : List (Str × V)) := (put_past (by decide +kernel)).trans (congrArg _ ((put_past (by decide +kernel)).trans (congrArg _ ((put_past (by decide +kernel)).trans (congrArg _ ((put_past (by decide +kernel)).trans (congrArg _ ((put_past (by decide +kernel)).trans (congrArg _ (rfl))))))))))
structure MDef (K : PySem.W.Frag) (mg : Str → Option Value) (x qual : Str) (C : Addr) (st : Stmt) (ps : List Str) : Prop where
  ex : ∃ (f : Addr) (fd : FuncData), Mk K C f ∧ Fun K "__init__" qual st f fd ∧ mg x = some (.ref C) ∧ Binds K fd ps []
abbrev Mak (P : Program) (w : World) (K : PySem.W.Frag) (mg : Str → Option Value) (base : Heap) (k : Nat) (x : Str) (C : Addr) (sp : Sp) : Prop := C8.Mak P w K mg base k x C sp []
theorem MDef.mak {P : Program} {w : World} {K : PySem.W.Frag} {mg : Str → Option Value} {base : Heap} {x qual : Str} {C : Addr} {st : Stmt} {N ps : List Str} {k : Nat} {sp : Sp} (F : MDef K mg x qual C st ps) (S : FnScope N ps (defScope st)) (len : ∀ vs H Q E, sp vs H Q E → vs.length = ps.length)
    (hbody : ∀ (f : Addr) (cdv : Value) (A : Around) (outer : List Env) (s : Shared) (H : Hp) (vs : List V) (Q : VK) (E : XK), Room k (A.deeper (envOfC qual (defScope st) s.heap.objs.size f cdv)) → sp vs H Q E →
      ∃ t, PSs (cxOf CX0 P w K mg base N qual (defScope st) f cdv A outer s H E).nox (defBody st) t ∧ t { nx := fun _ H' => Q .non H', rt := Q } (start N vs) H) : Mak P w K mg base (k + 1) x C sp := by
  obtain ⟨f, fd, M, F, hm, b⟩ := F.ex
  exact ⟨f, fd, ps, [], M, F.ok S len (hbody f), hm, b, .nil⟩
theorem pe_mk0 {X : Cx} {k j : Nat} {C : Addr} {x : Str} {sp : Sp} {p pos : Pos} (c : Mak X.prog X.w X.K X.mg X.base k x C sp) (hr : Room j X.A) (hk : k + 1 ≤ j) (hg : Gl X x) (hdb : (x == ("__debug__" : Str)) = false := by decide) :
    PE X (.Call (.Name x p) [] [] pos) (tMake C sp [] E0 tNil) := by
  obtain ⟨f, fd, ps, ds, M, F, hm, b, d⟩ := c.ex
  exact pe_make0 M F (hr.mono hk) hg hm b d pass0 hdb
def sp_Cell_init (CC : Addr) : Sp := fun vs H Q _ => ∃ x dx pl kd fl, vs = [.ref x, pl, kd, fl] ∧ H x = some (.ins CC dx []) ∧ Q .non (upd H x (.ins CC dx (cellL pl kd fl .non (.bl true) (.bl false) .non (.bl false))))
def sp_Store_init (CS : Addr) : Sp := fun vs H Q _ => ∃ x dx, vs = [.ref x] ∧ H x = some (.ins CS dx []) ∧
  ∀ H' vl cl tl, Same (fun b => if b = x then none else H b) H' → H vl = none → H cl = none → H tl = none → vl ≠ cl → vl ≠ tl → cl ≠ tl → vl ≠ x → cl ≠ x → tl ≠ x →
    H' x = some (.ins CS dx (storeF vl cl tl 0 0 (-1))) → H' vl = some (.lst (List.replicate 16 .non)) → H' cl = some (.lst []) → H' tl = some (.lst []) → Q .non H'
section
variable {P : Program} {w : World} {K : PySem.W.Frag} {mg : Str → Option Value} {base : Heap} {CC CS : Addr}
theorem mak_Cell (F : MDef K mg "Cell" "Cell.__init__" CC s_Cell___init__ ["self", "place", "kind", "fields"]) (T : Txt K mg CC CS) : Mak P w K mg base 1 "Cell" CC (sp_Cell_init CC) := by
  refine F.mak sc_Cell___init__ (fun vs H Q E h => ?_) (fun f cdv A outer sh H vs Q E hr h => ?_)
  · obtain ⟨x, dx, pl, kd, fl, rfl, _⟩ := h
    rfl
  · obtain ⟨x, dx, pl, kd, fl, rfl, hx, k⟩ := h
    refine ⟨_, (pss_cons (ps_fld (pv 0) (pv 1) rfl) (pss_cons (ps_fld (pv 0) (pv 2) rfl) (pss_cons (ps_fld (pv 0) (pv 3) rfl) (pss_cons (ps_fld (pv 0) pe_non rfl) (pss_cons (ps_fld (pv 0) pe_bl rfl) (pss_cons (ps_fld (pv 0) pe_bl rfl) (pss_cons (ps_fld (pv 0) pe_non rfl) (pss_one (ps_fld (pv 0) pe_bl rfl))))))))), ?_⟩
    refine ⟨_, rfl, _, rfl, x, CC, dx, _, rfl, hx, T.isC.cl, T.n_place, (by show 0 < 1000; decide), ?_⟩
    rw [nw_place]
    refine ⟨_, rfl, _, rfl, x, CC, dx, _, rfl, upd_same, T.isC.cl, T.n_kind, (by show 1 < 1000; decide), ?_⟩
    rw [nw_kind, upd_upd]
    refine ⟨_, rfl, _, rfl, x, CC, dx, _, rfl, upd_same, T.isC.cl, T.n_fields, (by show 2 < 1000; decide), ?_⟩
    rw [nw_fields, upd_upd]
    refine ⟨_, rfl, x, CC, dx, _, rfl, upd_same, T.isC.cl, T.n_word, (by show 3 < 1000; decide), ?_⟩
    rw [nw_word, upd_upd]
    refine ⟨_, rfl, x, CC, dx, _, rfl, upd_same, T.isC.cl, T.n_young, (by show 4 < 1000; decide), ?_⟩
    rw [nw_young, upd_upd]
    refine ⟨_, rfl, x, CC, dx, _, rfl, upd_same, T.isC.cl, T.n_seasoned, (by show 5 < 1000; decide), ?_⟩
    rw [nw_seasoned, upd_upd]
    refine ⟨_, rfl, x, CC, dx, _, rfl, upd_same, T.isC.cl, T.n_colour, (by show 6 < 1000; decide), ?_⟩
    rw [nw_colour, upd_upd]
    refine ⟨_, rfl, x, CC, dx, _, rfl, upd_same, T.isC.cl, T.n_remembered, (by show 7 < 1000; decide), ?_⟩
    rw [nw_remembered, upd_upd]
    exact k
theorem mak_Store (F : MDef K mg "Store" "Store.__init__" CS s_Store___init__ ["self"]) (T : Txt K mg CC CS) : Mak P w K mg base 1 "Store" CS (sp_Store_init CS) := by
  refine F.mak sc_Store___init__ (fun vs H Q E h => ?_) (fun f cdv A outer sh H vs Q E hr h => ?_)
  · obtain ⟨x, dx, rfl, _⟩ := h
    rfl
  · obtain ⟨x, dx, rfl, hx, k⟩ := h
    refine ⟨_, (pss_cons (ps_fld (pv 0) (pe_op op_rep (pe_lst (pa_cons pe_non pa_nil)) (C8.pe_gc rfl T.k_VARIABLES)) rfl) (pss_cons (ps_fld (pv 0) (pe_lst pa_nil) rfl) (pss_cons (ps_fld (pv 0) pe_int rfl) (pss_cons (ps_fld (pv 0) (C8.pe_gc rfl T.k_RESTS) rfl) (pss_cons (ps_fld (pv 0) (pe_un un_neg pe_int) rfl) (pss_one (ps_fld (pv 0) (pe_lst pa_nil) rfl))))))), ?_⟩
    -- self.variables = [None] * VARIABLES
    refine ⟨by show 1 ≤ 2 ^ 24; decide, fun l0 hl0 => ⟨l0, _, _, rfl, rfl, upd_same, by decide, by decide, by show 1 * 16 ≤ 2 ^ 24; decide, fun vl hvl => ?_⟩⟩
    have n0 : x ≠ l0 := ne_of_none hx hl0
    have nv : x ≠ vl := ne_of_none (H := upd H l0 (.lst [V.non])) (by rw [upd_ne n0]; exact hx) hvl
    have n0v : vl ≠ l0 := fun z => by rw [z, upd_same] at hvl; cases hvl
    have hvl0 : H vl = none := by rw [upd_ne n0v] at hvl; exact hvl
    refine ⟨_, rfl, x, CS, dx, _, rfl, Eq.trans (upd_ne nv) (Eq.trans (upd_ne n0) hx), T.cS, T.m_variables, (by show 0 < 1000; decide), ?_⟩
    rw [ns_variables]
    -- self.cells = []
    refine ⟨Nat.zero_le _, fun cl hcl => ?_⟩
    have ncx : cl ≠ x := fun z => by rw [z, upd_same] at hcl; cases hcl
    have hcl1 : (upd (upd H l0 (.lst [V.non])) vl (.lst (List.replicate (16 : Int).toNat [V.non]).flatten)) cl = none := by rw [upd_ne ncx] at hcl; exact hcl
    have ncv : cl ≠ vl := fun z => by rw [z, upd_same] at hcl1; cases hcl1
    have hcl2 : (upd H l0 (.lst [V.non])) cl = none := by rw [upd_ne ncv] at hcl1; exact hcl1
    have nc0 : cl ≠ l0 := fun z => by rw [z, upd_same] at hcl2; cases hcl2
    have hcl0 : H cl = none := by rw [upd_ne nc0] at hcl2; exact hcl2
    refine ⟨_, rfl, x, CS, dx, _, rfl, Eq.trans (upd_ne ncx.symm) upd_same, T.cS, T.m_cells, (by show 1 < 1000; decide), ?_⟩
    rw [ns_cells]
    -- self.made = 0, phase, swept
    refine ⟨_, rfl, x, CS, dx, _, rfl, upd_same, T.cS, T.m_made, (by show 2 < 1000; decide), ?_⟩
    rw [ns_made, upd_upd]
    refine ⟨_, rfl, x, CS, dx, _, rfl, upd_same, T.cS, T.m_phase, (by show 3 < 1000; decide), ?_⟩
    rw [ns_phase, upd_upd]
    refine ⟨_, rfl, _, rfl, x, CS, dx, _, rfl, upd_same, T.cS, T.m_swept, (by show 4 < 1000; decide), ?_⟩
    rw [ns_swept, upd_upd]
    -- self.told = []
    refine ⟨Nat.zero_le _, fun tl htl => ?_⟩
    have ntx : tl ≠ x := fun z => by rw [z, upd_same] at htl; cases htl
    have ht1 := htl
    rw [upd_ne ntx] at ht1
    have ntc : tl ≠ cl := fun z => by rw [z, upd_same] at ht1; cases ht1
    rw [upd_ne ntc, upd_ne ntx] at ht1
    have ntv : tl ≠ vl := fun z => by rw [z, upd_same] at ht1; cases ht1
    rw [upd_ne ntv] at ht1
    have nt0 : tl ≠ l0 := fun z => by rw [z, upd_same] at ht1; cases ht1
    rw [upd_ne nt0] at ht1
    refine ⟨_, rfl, x, CS, dx, _, rfl, Eq.trans (upd_ne ntx.symm) upd_same, T.cS, T.m_told, (by show 5 < 1000; decide), ?_⟩
    rw [ns_told]
    refine k _ vl cl tl ?_ hvl0 hcl0 ht1 ncv.symm ntv.symm ntc.symm nv.symm ncx ntx upd_same ?_ ?_ ?_
    · intro b o e0
      have e : (if b = x then none else H b) = some o := e0
      have hb : b ≠ x := fun z => by rw [if_pos z] at e; cases e
      rw [if_neg hb] at e
      rw [upd_ne hb, upd_ne (ne_of_none e ht1), upd_ne hb, upd_ne (ne_of_none e hcl0), upd_ne hb, upd_ne (ne_of_none e hvl0), upd_ne (ne_of_none e hl0)]
      exact e
    · rw [upd_ne nv.symm, upd_ne ntv.symm, upd_ne nv.symm, upd_ne ncv.symm, upd_ne nv.symm, upd_same]
      rfl
    · rw [upd_ne ncx, upd_ne ntc.symm, upd_ne ncx, upd_same]
    · rw [upd_ne ntx, upd_same]
end
end Gc
set_option Elab.async false
set_option maxRecDepth 100000
set_option maxHeartbeats 4000000
namespace Gc
open PySem PySem.Spec PyProof.Rows L2
theorem vV_agree {a b : Nat → Addr} {v : Vl} (h : ∀ i, v = .cell i → a i = b i) : vV a v = vV b v := by
  cases v with
  | none_ => rfl
  | num z => rfl
  | cell i => exact congrArg V.ref (h i rfl)
theorem map_agree {a b : Nat → Addr} {l : List Vl} (h : ∀ i, Kg93.V.cell i ∈ l → a i = b i) : l.map (vV a) = l.map (vV b) := by
  apply List.map_congr_left
  intro v hv
  exact vV_agree fun i e => h i (e ▸ hv)
theorem add_at {s : Sta} {c : Cl} (hn : s.at_ c.id = none) (j : Nat) : ({ s with cells := s.cells ++ [c] } : Sta).at_ j = if j = c.id then some c else s.at_ j := by
  show (s.cells ++ [c]).find? (fun d => d.id == j) = _
  rw [List.find?_append]
  by_cases e : j = c.id
  · subst e
    rw [if_pos rfl]
    have : s.cells.find? (fun d => d.id == c.id) = none := hn
    rw [this]
    simp
  · rw [if_neg e]
    have e2 : (c.id == j) = false := by simpa using fun z => e z.symm
    show (s.at_ j).or _ = s.at_ j
    cases s.at_ j with
    | some d => rfl
    | none => simp [List.find?, e2]
section
variable {CC CS : Addr} {B : Role → Addr} {H0 H : Hp} {s : Sta} {lst : List Nat} {D : List Nat} {p x dx fl : Addr} {c : Cl}
theorem RepA.addCell (R : RepA CC CS B (upd H0 fl (.lst (c.fields.map (vV (adB B))))) H s lst D) (hfl : H0 fl = none) (hx : H x = none) (hdx : H dx = none) (hne : dx ≠ x) (hn : s.at_ c.id = none) (hnD : c.id ∉ D) (hv : Kg93.V.cell c.id ∉ s.vars) (hf : ∀ i d, s.at_ i = some d → Kg93.V.cell c.id ∉ d.fields) (hfc : Kg93.V.cell c.id ∉ c.fields) (hl : c.id ∉ lst) (hrm : s.remembered.contains c.id = false) :
    RepA CC CS (fun r => if r = .cell c.id then x else if r = .flds c.id then fl else B r) H0 (upd (upd H dx (.own x)) x (.ins CC dx (cellF fl false c))) { s with cells := s.cells ++ [c] } lst D := by
  have hat := add_at (s := s) (c := c) hn
  have nx : ∀ r, Own s D r → B r ≠ x := R.ne_fresh hx
  have ndx : ∀ r, Own s D r → B r ≠ dx := R.ne_fresh hdx
  have nfl : ∀ r, Own s D r → B r ≠ fl := R.ne_out upd_same
  have hflH : H fl = some (.lst (c.fields.map (vV (adB B)))) := R.same fl _ upd_same
  have flx : fl ≠ x := ne_of_none hflH hx
  have fldx : fl ≠ dx := ne_of_none hflH hdx
  have hBr : ∀ r, r ≠ .cell c.id → r ≠ .flds c.id → (if r = .cell c.id then x else if r = .flds c.id then fl else B r) = B r := fun r h1 h2 => by rw [if_neg h1, if_neg h2]
  have hBc : ∀ j, j ≠ c.id → (if Role.cell j = .cell c.id then x else if Role.cell j = .flds c.id then fl else B (.cell j)) = B (.cell j) := fun j h => hBr _ (by intro z; injection z with z; exact h z) (by intro z; cases z)
  have keepH : ∀ r, Own s D r → ∀ o, H (B r) = some o → (upd (upd H dx (.own x)) x (.ins CC dx (cellF fl false c))) (B r) = some o := fun r h o e => by
    rw [upd_ne (nx r h), upd_ne (ndx r h)]
    exact e
  have vold : ∀ r, r ≠ .cell c.id → r ≠ .flds c.id → Valid { s with cells := s.cells ++ [c] } r → Valid s r := by
    intro r h1 h2 h
    cases r with
    | cell j =>
      have hj : j ≠ c.id := fun z => h1 (by rw [z])
      have h' : (({ s with cells := s.cells ++ [c] } : Sta).at_ j).isSome = true := h
      rw [hat, if_neg hj] at h'
      exact h'
    | flds j =>
      have hj : j ≠ c.id := fun z => h2 (by rw [z])
      have h' : (({ s with cells := s.cells ++ [c] } : Sta).at_ j).isSome = true := h
      rw [hat, if_neg hj] at h'
      exact h'
    | _ => trivial
  have ownold : ∀ r, r ≠ .cell c.id → r ≠ .flds c.id → Own { s with cells := s.cells ++ [c] } D r → Own s D r := fun r h1 h2 h => h.imp (vold r h1 h2) id
  have H0s : Same H0 (upd H0 fl (.lst (c.fields.map (vV (adB B))))) := same_upd hfl
  constructor
  · intro b o e
    have e2 := R.same b o (H0s b o e)
    rw [upd_ne (ne_of_none e2 hx), upd_ne (ne_of_none e2 hdx)]
    exact e2
  · intro r h
    by_cases h1 : r = .cell c.id
    · subst h1
      simp only [if_true]
      refine ⟨_, upd_same, c, dx, ?_, ?_⟩
      · rw [hat, if_pos rfl]
      · show _ = HO.ins CC dx (cellF (if Role.flds c.id = .cell c.id then x else if Role.flds c.id = .flds c.id then fl else B (.flds c.id)) (s.remembered.contains c.id) c)
        rw [if_neg (by intro z; cases z), if_pos rfl, hrm]
    · by_cases h2 : r = .flds c.id
      · subst h2
        simp only [if_neg h1, if_true]
        refine ⟨_, ?_, c, by rw [hat, if_pos rfl], rfl⟩
        rw [upd_ne flx, upd_ne fldx, hflH]
        congr 2
        refine map_agree fun j hj => ?_
        exact (hBc j (fun z => hfc (z ▸ hj))).symm
      · have hval := vold r h1 h2 h
        obtain ⟨o, e, k⟩ := R.at_ r hval
        rw [hBr r h1 h2]
        refine ⟨o, keepH r (.inl hval) o e, ?_⟩
        cases r with
        | store => exact k
        | vars =>
          have k' : o = .lst (s.vars.map (vV (adB B))) := k
          show o = .lst (s.vars.map (vV _))
          rw [k']
          congr 1
          refine map_agree fun j hj => ?_
          exact (hBc j (fun z => hv (z ▸ hj))).symm
        | cells =>
          have k' : o = .lst (lst.map fun i => V.ref (B (.cell i))) := k
          show o = .lst (lst.map _)
          rw [k']
          congr 1
          apply List.map_congr_left
          intro j hj
          exact congrArg V.ref (hBc j (fun z => hl (z ▸ hj))).symm
        | told => exact k
        | cell j =>
          have hj : j ≠ c.id := fun z => h1 (by rw [z])
          obtain ⟨d, dx', e', ho⟩ := k
          refine ⟨d, dx', by rw [hat, if_neg hj]; exact e', ?_⟩
          rw [ho]
          show _ = HO.ins CC dx' (cellF (if Role.flds j = .cell c.id then x else if Role.flds j = .flds c.id then fl else B (.flds j)) (s.remembered.contains j) d)
          rw [if_neg (by intro z; cases z), if_neg (by intro z; injection z with z; exact hj z)]
        | flds j =>
          have hj : j ≠ c.id := fun z => h2 (by rw [z])
          obtain ⟨d, e', ho⟩ := k
          refine ⟨d, by rw [hat, if_neg hj]; exact e', ?_⟩
          rw [ho]
          congr 1
          refine map_agree fun m hm => ?_
          exact (hBc m (fun z => hf j d e' (z ▸ hm))).symm
  · intro i hi
    obtain ⟨dx', fs, e, k⟩ := R.dead i hi
    have hic : i ≠ c.id := fun z => hnD (z ▸ hi)
    refine ⟨dx', fs, ?_, k⟩
    rw [hBc i hic]
    exact keepH _ (.inr ⟨i, hi, rfl⟩) _ e
  · intro i hi
    have hic : i ≠ c.id := fun z => hnD (z ▸ hi)
    rw [hat, if_neg hic]
    exact R.nd i hi
  · intro r h
    by_cases h1 : r = .cell c.id
    · simp only [if_pos h1]
      exact H0s.free (R.same.free hx)
    · by_cases h2 : r = .flds c.id
      · simp only [if_neg h1, if_pos h2]
        exact hfl
      · simp only [if_neg h1, if_neg h2]
        exact H0s.free (R.out r (ownold r h1 h2 h))
  · intro r1 r2 h1 h2 e
    by_cases a1 : r1 = .cell c.id
    · by_cases a2 : r2 = .cell c.id
      · rw [a1, a2]
      · by_cases b2 : r2 = .flds c.id
        · simp only [if_pos a1, if_neg a2, if_pos b2] at e
          exact absurd e.symm flx
        · simp only [if_pos a1, if_neg a2, if_neg b2] at e
          exact absurd e.symm (nx r2 (ownold r2 a2 b2 h2))
    · by_cases b1 : r1 = .flds c.id
      · by_cases a2 : r2 = .cell c.id
        · simp only [if_neg a1, if_pos b1, if_pos a2] at e
          exact absurd e flx
        · by_cases b2 : r2 = .flds c.id
          · rw [b1, b2]
          · simp only [if_neg a1, if_pos b1, if_neg a2, if_neg b2] at e
            exact absurd e.symm (nfl r2 (ownold r2 a2 b2 h2))
      · by_cases a2 : r2 = .cell c.id
        · simp only [if_neg a1, if_neg b1, if_pos a2] at e
          exact absurd e (nx r1 (ownold r1 a1 b1 h1))
        · by_cases b2 : r2 = .flds c.id
          · simp only [if_neg a1, if_neg b1, if_neg a2, if_pos b2] at e
            exact absurd e (nfl r1 (ownold r1 a1 b1 h1))
          · simp only [if_neg a1, if_neg b1, if_neg a2, if_neg b2] at e
            exact R.inj r1 r2 (ownold r1 a1 b1 h1) (ownold r2 a2 b2 h2) e
theorem RepA.setMade (R : RepA CC CS B H0 H s lst D) {sw : Int} (hsw : ∀ n, s.phase = .sweep n → sw = (n : Int) - 1) (m : Nat) : RepA CC CS B H0 (upd H (B .store) (.ins CS dx (storeF (B .vars) (B .cells) (B .told) m (phN s.phase) sw))) { s with made := m } lst D := by
  refine R.put (r := .store) trivial (t := { s with made := m }) (fun j => rfl) ⟨dx, sw, hsw, rfl⟩ ?_
  intro r' o' hne h
  cases r' with
  | store => exact absurd rfl hne
  | _ => exact h
theorem RepA.setCells (R : RepA CC CS B H0 H s lst D) (lst' : List Nat) : RepA CC CS B H0 (upd H (B .cells) (.lst (lst'.map fun i => V.ref (B (.cell i))))) s lst' D := by
  refine R.put (r := .cells) trivial (t := s) (fun j => rfl) rfl ?_
  intro r' o' hne h
  cases r' with
  | cells => exact absurd rfl hne
  | _ => exact h
end
theorem pf_made {vl cl tl : Addr} {made : Nat} {ph sw : Int} (m : Int) (n : Nat) (h : m = n) : putF "made" (.int m) (storeF vl cl tl made ph sw) = storeF vl cl tl n ph sw := by
  subst h
  exact (put_past (by decide +kernel)).trans (congrArg _ ((put_past (by decide +kernel)).trans (congrArg _ put_here)))
/-- a new cell, in no variable yet -/
def newC (s : Sta) (k : Kg93.Kind) (fs : List Vl) : Cl := ⟨s.made, k, fs, false, false, .white, none⟩
def addS (s : Sta) (k : Kg93.Kind) (fs : List Vl) : Sta := { s with cells := s.cells ++ [newC s k fs], made := s.made + 1 }
theorem add_make (s : Sta) (v : Nat) (k : Kg93.Kind) (fs : List Vl) : s.make v k fs = (addS s k fs).setVar v (.cell s.made) := rfl
def sp_add_cell (CC CS : Addr) : Sp := fun vs H Q _ => ∃ B H0 s D kd fs fl, vs = [.ref (B .store), .int (kindN kd), .ref fl] ∧ RepA CC CS B (upd H0 fl (.lst (fs.map (vV (adB B))))) H s (idsS s) D ∧ H0 fl = none ∧ Good s D ∧ s.made ≤ 1000 ∧ (∀ v ∈ fs, HeldOk s D v) ∧
  ∀ H' B', B' .store = B .store → (∀ i, i ≠ s.made → B' (.cell i) = B (.cell i)) → RepA CC CS B' H0 H' (addS s kd fs) (idsS (addS s kd fs)) D → Q (.ref (B' (.cell s.made))) H'
def sp_count_young (CC CS : Addr) : Sp := fun vs H Q _ => ∃ B H0 s D, vs = [.ref (B .store)] ∧ RepA CC CS B H0 H s (idsS s) D ∧ Good s D ∧ s.made ≤ 1000 ∧
  ∀ H', RepA CC CS B H0 H' s (idsS s) D → Q (.int (s.young.length : Nat)) H'
section
variable {P : Program} {w : World} {K : PySem.W.Frag} {mg : Str → Option Value} {base : Heap} {CC CS : Addr}
theorem Good.lt_held {s : Sta} {D : List Nat} (g : Good s D) {v : Vl} (h : HeldOk s D v) : v ≠ .cell s.made := by
  intro e
  rcases h _ e with h | h
  · obtain ⟨c, hc⟩ := Option.isSome_iff_exists.mp h
    have := g.lt c (at_in hc)
    have := at_id hc
    omega
  · have := g.dlt _ h
    omega
theorem Good.at_made {s : Sta} {D : List Nat} (g : Good s D) : s.at_ s.made = none := by
  cases e : s.at_ s.made with
  | none => rfl
  | some c =>
    have := g.lt c (at_in e)
    have := at_id e
    omega
theorem cal_add_cell (F : Def K mg "add_cell" s_add_cell ["store", "kind", "fields"]) (T : Txt K mg CC CS) (c_Cell : Mak P w K mg base 1 "Cell" CC (sp_Cell_init CC)) : Cal P w K mg base 3 "add_cell" (sp_add_cell CC CS) := by
  refine F.cal sc_add_cell (fun vs H Q E h => ?_) (fun f cdv A outer sh H vs Q E hr h => ?_)
  · obtain ⟨B, H0, s, D, kd, fs, fl, rfl, _⟩ := h
    rfl
  · obtain ⟨B, H0, s, D, kd, fs, fl, rfl, R, hfl, g, hm, hok, cont⟩ := h
    refine ⟨_, (pss_cons (ps_set (i := 3) sc_add_cell.nd rfl (Or.inl rfl) (C8.pe_mk c_Cell hr (by decide) rfl (pa_cons (pe_fld (pv 0) rfl) (pa_cons (pv 1) (pa_cons (pv 2) pa_nil))))) (pss_cons (ps_fldaug (pv 0) pe_int in_add) (pss_cons (ps_expr (pe_bm PySem.F.plainAttrs_list PySem.F.slot_list_append PySem.F.type_list_append mt_append (pe_fld (pv 0) rfl) (pa_cons (pv 3) pa_nil))) (pss_one (ps_ret (pv 3)))))), ?_⟩
    obtain ⟨dxs, sw, hsw, hst⟩ := R.store
    -- cell = Cell(store.made, kind, fields)
    refine ⟨_, rfl, B .store, CS, dxs, _, _, rfl, hst, T.cS, T.m_made, sf_made, _, rfl, _, rfl, ?_⟩
    intro x dx nx ndx nex
    refine ⟨x, dx, _, _, _, rfl, upd_same, rfl, ?_⟩
    rw [upd_upd]
    have hn := g.at_made
    have hid : (newC s kd fs).id = s.made := rfl
    have R1 := R.addCell (c := newC s kd fs) (x := x) (dx := dx) hfl nx ndx nex hn (fun h => by have := g.dlt _ h; rw [hid] at this; omega) (fun h => g.lt_held (g.heldVar h) rfl) (fun i d hd h => g.lt_held (g.heldFld (at_in hd) h) rfl) (fun h => g.lt_held (hok _ h) rfl)
      (fun h => by obtain ⟨c, hc, e⟩ := List.mem_map.mp h; have := g.lt c hc; rw [hid] at e; omega) (by
        rw [Bool.eq_false_iff]
        intro h
        obtain ⟨c, hc, e, _⟩ := g.remOk _ (by simpa using h)
        have := g.lt c hc
        rw [hid] at e
        omega)
    obtain ⟨B1, hB1n, hB1, hB1c, R1⟩ : ∃ B1 : Role → Addr, B1 (.cell s.made) = x ∧ (∀ r, (∀ i, r ≠ .cell i) → (∀ i, r ≠ .flds i) → B1 r = B r) ∧ (∀ i, i ≠ s.made → B1 (.cell i) = B (.cell i)) ∧ RepA CC CS B1 H0 (upd (upd H dx (.own x)) x (.ins CC dx (cellF fl false (newC s kd fs)))) { s with cells := s.cells ++ [newC s kd fs] } (idsS s) D :=
      ⟨_, if_pos rfl, fun r h1 h2 => by simp only [if_neg (h1 _), if_neg (h2 _)], fun i hi => by simp only [if_neg (show ¬ Role.cell i = Role.cell (newC s kd fs).id from fun z => hi (by injection z)), if_neg (show ¬ Role.cell i = Role.flds (newC s kd fs).id from fun z => by cases z)], R1⟩
    have hB1s : B1 .store = B .store := hB1 _ (by intro i z; cases z) (by intro i z; cases z)
    obtain ⟨dx1, sw1, hsw1, hst1⟩ := R1.store
    have hst1' := hst1
    rw [hB1s] at hst1'
    -- store.made += 1
    refine ⟨_, rfl, B .store, CS, dx1, _, _, rfl, hst1', T.cS, T.m_made, sf_made, _, _, rfl, rfl, dx1, _, hst1', (by show 6 < 1000; decide), ?_⟩
    rw [pf_made _ (s.made + 1) (by show ((s.made : Int) + 1) = ((s.made + 1 : Nat) : Int); omega)]
    have R2 := R1.setMade (dx := dx1) hsw1 (s.made + 1)
    rw [hB1s] at R2
    obtain ⟨dx2, sw2, hsw2, hst2⟩ := R2.store
    rw [hB1s] at hst2
    have hcount := g.count
    -- store.cells.append(cell)
    refine ⟨_, rfl, B .store, CS, dx2, _, _, rfl, hst2, T.cS, T.m_cells, sf_cells, .inl ⟨rfl, _, SqL.of R2.cells⟩, _, rfl, B1 .cells, _, _, rfl, rfl, R2.cells, ?_, ?_⟩
    · rw [List.length_map, List.length_map]
      exact Nat.lt_of_le_of_lt (Nat.le_trans hcount hm) (by decide)
    have R3 := R2.setCells (idsS s ++ [s.made])
    rw [List.map_append] at R3
    have e1 : ([s.made].map fun i => V.ref (B1 (.cell i))) = [V.ref x] := by
      show [V.ref (B1 (.cell s.made))] = _
      rw [hB1n]
    rw [e1] at R3
    refine ⟨_, rfl, ?_⟩
    have e2 : idsS (addS s kd fs) = idsS s ++ [s.made] := by
      show (s.cells ++ [newC s kd fs]).map _ = _
      rw [List.map_append]
      rfl
    have := cont _ B1 hB1s hB1c (by rw [e2]; exact R3)
    rw [hB1n] at this
    exact this
theorem cal_count_young (F : Def K mg "count_young" s_count_young ["store"]) (T : Txt K mg CC CS) : Cal P w K mg base 1 "count_young" (sp_count_young CC CS) := by
  refine F.cal sc_count_young (fun vs H Q E h => ?_) (fun f cdv A outer sh H vs Q E hr h => ?_)
  · obtain ⟨B, H0, s, D, rfl, _⟩ := h
    rfl
  · obtain ⟨B, H0, s, D, rfl, R, g, hm, cont⟩ := h
    refine ⟨_, (pss_one (ps_ret (pe_callB call_len_seq (by rfl) T.b_len PySem.boot_len (pa_cons (pe_lc (own := [("cell", 1)]) (g := gName 1) (tt := (tB (tFld K (tVar 1) "young"))) (te := (tVar 1)) rfl sc_count_young.nd (pi_list (pe_fld (pv 0) rfl)) (blkOk_by (own := [("cell", 1)]) (N := ["store", "cell"]) (sc := defScope s_count_young) (by decide +kernel)) (fun _ _ _ _ _ => pg_name (i := 1) sc_count_young.nd rfl (Or.inl rfl)) (fun _ _ _ _ _ => pts_one (pt_val (pe_fld (pv 1) rfl))) (fun _ _ _ _ _ => (pv 1))) pa_nil)))), ?_⟩
    obtain ⟨dx, sw, hsw, hst⟩ := R.store
    refine ⟨_, rfl, B .store, CS, dx, _, _, rfl, hst, T.cS, T.m_cells, sf_cells, B .cells, rfl, ⟨_, cells_sq R⟩, fun p hp => ?_⟩
    refine lc_rep s.cells (refC B) R hp (fun o H' R' => cells_sq R') (fun c => !c.old) (refC B) (Nat.lt_of_le_of_lt (Nat.le_trans g.count hm) (by decide)) ?_ ?_
    · intro c hc o H' R' Y N hY hN
      obtain ⟨dc, hcell⟩ := R'.cell (g.atc hc)
      refine ⟨rfl, _, rfl, B (.cell c.id), CC, dc, _, _, rfl, hcell, T.isC.cl, T.n_young, cf_young, _, rfl, ?_⟩
      cases q : (!c.old) with
      | true => exact iteT ⟨_, rfl, hY q⟩
      | false => exact iteF (hN q)
    · intro H1 R1
      refine ⟨p, _, rfl, .inl (SqL.of (R1.same p _ upd_same)), ?_⟩
      rw [List.length_map]
      exact cont H1 (R1.weak (same_upd (R.same.free hp)))
end
end Gc
set_option Elab.async false
set_option maxRecDepth 100000
set_option maxHeartbeats 4000000
namespace Gc
open PySem PySem.Spec PyProof.Rows L2
/-! ### a field written -/
theorem write_at (s : Sta) (c : Cl) (i : Nat) (x : Vl) (m : Nat) : (s.write c i x).at_ m = ((s.put { c with fields := c.fields.set i x }).at_ m).map (shadeF (writeSh s c x)) := by
  rw [write_eq]
  show (s.cells.map (writeF c i x (writeSh s c x))).find? (fun d => d.id == m) = _
  rw [at_map _ (fun d => by
    unfold writeF
    rw [(shadeF_eq _ _).1]
    by_cases e : d.id = c.id
    · rw [if_pos e]; exact e.symm
    · rw [if_neg e]), put_at, Option.map_map]
  rfl
theorem write_ids (s : Sta) (c : Cl) (i : Nat) (x : Vl) : idsS (s.write c i x) = idsS s := by
  rw [write_eq]
  show (s.cells.map (writeF c i x (writeSh s c x))).map (·.id) = _
  rw [List.map_map]
  apply List.map_congr_left
  intro d _
  show (writeF c i x (writeSh s c x) d).id = d.id
  unfold writeF
  rw [(shadeF_eq _ _).1]
  by_cases e : d.id = c.id
  · rw [if_pos e]; exact e.symm
  · rw [if_neg e]
theorem write_vars (s : Sta) (c : Cl) (i : Nat) (x : Vl) : (s.write c i x).vars = s.vars ∧ (s.write c i x).made = s.made ∧ (s.write c i x).phase = s.phase ∧ (s.write c i x).words = s.words ∧ (s.write c i x).remembered = writeRem s c x := by
  rw [write_eq]
  exact ⟨rfl, rfl, rfl, rfl, rfl⟩
theorem shade_skip {j : Nat} {e : Cl} (h : ¬ (e.old = true ∧ e.colour = .white ∧ e.id = j)) : shadeF [j] e = e := by
  unfold shadeF
  rw [if_neg]
  rintro ⟨a, b, d⟩
  exact h ⟨a, b, by simpa using d⟩
theorem shade_hit {j : Nat} {e : Cl} (a : e.old = true) (b : e.colour = .white) (d : e.id = j) : shadeF [j] e = { e with colour := .grey } := by
  unfold shadeF
  rw [if_pos ⟨a, b, by simp [d]⟩]
def sp_write_field (CC CS : Addr) : Sp := fun vs H Q _ => ∃ B H0 s D c, ∃ (i : Nat) (v : Vl), vs = [.ref (B .store), refC B c, .int i, vV (adB B) v] ∧ RepA CC CS B H0 H s (idsS s) D ∧ Good s D ∧ c ∈ s.cells ∧ i < c.fields.length ∧ (∀ j, v = .cell j → (s.at_ j).isSome = true) ∧
  ∀ H', RepA CC CS B H0 H' (s.write c i v) (idsS s) D → Q .non H'
theorem phN_mark (p : Kg93.Phase) : decide (V.int (phN p) = V.int 1) = decide (p = .mark) := by
  cases p <;> rfl
theorem colV_eq (c : Cl) (x : Kg93.Colour) : decide (colV c = V.int (colN x)) = decide (c.old = true ∧ c.colour = x) := by
  unfold colV
  cases h : c.old with
  | false => simp
  | true =>
    simp only [if_true, true_and]
    cases c.colour <;> cases x <;> rfl
section
variable {P : Program} {w : World} {K : PySem.W.Frag} {mg : Str → Option Value} {base : Heap} {CC CS : Addr}
theorem cal_write_field (F : Def K mg "write_field" s_write_field ["store", "cell", "i", "held"]) (T : Txt K mg CC CS) (c_is_cell : Cal P w K mg base 1 "is_cell" (sp_is_cell CC)) (c_is_white : Cal P w K mg base 2 "is_white" (sp_is_white CC)) : Cal P w K mg base 3 "write_field" (sp_write_field CC CS) := by
  refine F.cal sc_write_field (fun vs H Q E h => ?_) (fun f cdv A outer sh H vs Q E hr h => ?_)
  · obtain ⟨B, H0, s, D, c, i, v, rfl, _⟩ := h
    rfl
  · obtain ⟨B, H0, s, D, c, i, v, rfl, R, g, hc, hi, hv, cont⟩ := h
    refine ⟨_, (pss_cons (ps_asg (pv 3) (pg_sub (pe_fld (pv 1) rfl) (pv 2) set_list)) (pss_cons (ps_if (pt_not (pt_val (C8.pe_c c_is_cell hr (by decide) rfl (pa_cons (pv 3) pa_nil)))) (pss_one ps_retN) pss_nil) (pss_cons (ps_if (PW.pt (pw_and (pt_val (pe_fld (pv 3) rfl)) (pw_and1 (pt_not (pt_val (pe_fld (pv 1) rfl)))))) (pss_one (ps_fld (pv 1) pe_bl rfl)) pss_nil) (pss_one (ps_if (PW.pt (pw_and (pt_cmpR op_eq (pe_fld (pv 0) rfl) (C8.pe_gc rfl T.k_MARKS) (nomark _)) (pw_and (pt_cmpR op_eq (pe_fld (pv 1) rfl) (C8.pe_gc rfl T.k_BLACK) (nomark _)) (pw_and1 (pt_val (C8.pe_c c_is_white hr (by decide) rfl (pa_cons (pv 3) pa_nil))))))) (pss_one (ps_fld (pv 3) (C8.pe_gc rfl T.k_GREY) rfl)) pss_nil))))), ?_⟩
    have hat := g.atc hc
    obtain ⟨dc, hcell⟩ := R.cell hat
    -- cell.fields[i] = held
    refine ⟨_, rfl, _, rfl, B (.cell c.id), CC, dc, _, _, rfl, hcell, T.isC.cl, T.n_fields, cf_fields, _, rfl, B (.flds c.id), _, _, i, rfl, rfl, R.flds hat, ?_, ?_⟩
    · unfold ixN
      rw [List.length_map, if_pos (by omega), if_pos (by omega)]
      simp
    have R1 := R.putFlds hat (c.fields.set i v)
    rw [List.map_set] at R1
    have hat1 : (s.put { c with fields := c.fields.set i v }).at_ c.id = some { c with fields := c.fields.set i v } := put_at_same hat rfl
    have hheld : HeldOk (s.put { c with fields := c.fields.set i v }) D v := fun j e => .inl (by rw [put_some]; exact hv j e)
    -- if not is_cell(held): return
    refine ⟨_, rfl, _, _, rfl, R1.isC hheld, _, rfl, ?_⟩
    cases v with
    | none_ =>
      refine iteT ?_
      exact cont _ R1
    | num z =>
      refine iteT ?_
      exact cont _ R1
    | cell j =>
      refine iteF ?_
      obtain ⟨d, hd⟩ := Option.isSome_iff_exists.mp (show ((s.put { c with fields := c.fields.set i (.cell j) }).at_ j).isSome = true by rw [put_some]; exact hv j rfl)
      have hdid := at_id hd
      have hyd : s.isYoung j = !d.old := by
        unfold Kg93.State.isYoung
        by_cases e : j = c.id
        · subst e
          rw [hat1] at hd
          cases hd
          rw [hat]
          rfl
        · have h2 := hd
          rw [put_at_ne (c := { c with fields := c.fields.set i (.cell j) }) e] at h2
          rw [h2]
          rfl
      obtain ⟨dd, hdc⟩ := R1.cell hd
      obtain ⟨dc1, hcell1⟩ := R1.cell hat1
      -- the last part: from any state with the same cells
      have last : ∀ (u : Sta) (H2 : Hp), RepA CC CS B H0 H2 u (idsS s) D → u.vars = s.vars → u.made = s.made → u.phase = s.phase → u.words = s.words → (∀ m, u.at_ m = (s.put { c with fields := c.fields.set i (.cell j) }).at_ m) → (∀ m, u.remembered.contains m = (writeRem s c (.cell j)).contains m) →
          tIfS (tAnd (tTest (tOp rEq (tFld K (tVar 0) "phase") (tC (.int 1)))) (tAnd (tTest (tOp rEq (tFld K (tVar 1) "colour") (tC (.int 2)))) (tB (tCall (sp_is_white CC) [] E0 (tCons (tVar 3) tNil))))) (sFld K (tVar 3) (tC (.int 1)) "colour") tNext
            { nx := fun _ H' => Q .non H', rt := Q } [some (.ref (B .store)), some (refC B c), some (.int i), some (vV (adB B) (.cell j))] H2 := by
        intro u H2 R2 e1 e2 e3 e4 hu hrem
        obtain ⟨dx, sw, hsw, hst⟩ := R2.store
        have huc : u.at_ c.id = some { c with fields := c.fields.set i (.cell j) } := (hu _).trans hat1
        have hud : u.at_ j = some d := (hu _).trans hd
        obtain ⟨dcu, hcu⟩ := R2.cell huc
        obtain ⟨ddu, hdu⟩ := R2.cell hud
        obtain ⟨w1, w2, w3, w4, w5⟩ := write_vars s c i (.cell j)
        have fin : (∀ m, (s.write c i (.cell j)).at_ m = u.at_ m) → Q .non H2 := fun hm => cont H2 (R2.congr (w1.trans e1.symm) (w2.trans e2.symm) (w3.trans e3.symm) (w4.trans e4.symm) hm fun m _ _ => by rw [w5]; exact (hrem m).symm)
        have noshade : writeSh s c (.cell j) = [] → Q .non H2 := fun z => fin fun m => by
          rw [write_at, hu, z]
          cases (s.put { c with fields := c.fields.set i (.cell j) }).at_ m with
          | none => rfl
          | some e => exact congrArg some (shadeF_nil e)
        refine ⟨_, rfl, B .store, CS, dx, _, _, rfl, hst, T.cS, T.m_phase, sf_phase, rfl, _, rfl, ?_⟩
        rw [phN_mark, e3]
        by_cases hp : s.phase = .mark
        · rw [decide_eq_true hp]
          refine iteT ?_
          refine ⟨_, rfl, B (.cell c.id), CC, dcu, _, _, rfl, hcu, T.isC.cl, T.n_colour, cf_colour, scal_col _ _, _, rfl, ?_⟩
          have ecol : decide (colV { c with fields := c.fields.set i (.cell j) } = V.int 2) = decide (c.old = true ∧ c.colour = .black) := colV_eq _ .black
          rw [ecol]
          by_cases hb : c.old = true ∧ c.colour = .black
          · rw [decide_eq_true hb]
            refine iteT ?_
            have hsh : writeSh s c (.cell j) = [j] := by
              unfold writeSh
              simp only
              rw [if_pos ⟨hp, hb.1, hb.2⟩]
            refine ⟨_, rfl, _, decide (d.old = true ∧ d.colour = .white), rfl, .inl ⟨_, ddu, _, _, rfl, hdu, cf_colour, scal_col _ _, (colV_eq _ .white).symm⟩, _, rfl, ?_⟩
            by_cases hw : d.old = true ∧ d.colour = .white
            · rw [decide_eq_true hw]
              refine iteT ?_
              refine ⟨_, rfl, B (.cell j), CC, ddu, _, rfl, hdu, T.isC.cl, T.n_colour, (by show 8 < 1000; decide), ?_⟩
              have epf := pf_colour (fl := B (.flds j)) (rm := u.remembered.contains j) (c := d) .grey hw.1
              have epf' : putF "colour" (.int 1) (cellF (B (.flds j)) (u.remembered.contains j) d) = cellF (B (.flds j)) (u.remembered.contains j) { d with colour := .grey } := epf
              rw [epf']
              have R3 := R2.putCell (dx := ddu) (c' := { d with colour := .grey }) hud hdid rfl (rem := u.remembered) (fun _ _ => rfl)
              refine cont _ (R3.congr (w1.trans e1.symm) (w2.trans e2.symm) (w3.trans e3.symm) (w4.trans e4.symm) (fun m => ?_) fun m _ _ => by rw [w5]; exact (hrem m).symm)
              show (s.write c i (.cell j)).at_ m = (u.put { d with colour := .grey }).at_ m
              rw [write_at, hsh, ← hu]
              by_cases q : m = j
              · subst q
                rw [hud, put_at_same (c := { d with colour := .grey }) hud hdid]
                exact congrArg some (shade_hit hw.1 hw.2 hdid)
              · rw [put_at_ne (c := { d with colour := .grey }) (fun z => q (z.trans hdid))]
                cases em : u.at_ m with
                | none => rfl
                | some e => exact congrArg some (shade_skip fun z => q ((at_id em).symm.trans z.2.2))
            · rw [decide_eq_false hw]
              refine iteF ?_
              refine fin fun m => ?_
              rw [write_at, hsh, ← hu]
              cases em : u.at_ m with
              | none => rfl
              | some e =>
                refine congrArg some (shade_skip fun z => hw ?_)
                have : e = d := by
                  have h1 := at_id em
                  rw [z.2.2] at h1
                  rw [← h1, hud] at em
                  exact (Option.some.inj em).symm
                rw [← this]
                exact ⟨z.1, z.2.1⟩
          · rw [decide_eq_false hb]
            refine iteF (iteF (noshade ?_))
            unfold writeSh
            simp only
            rw [if_neg (fun z => hb z.2)]
        · rw [decide_eq_false hp]
          refine iteF (iteF (noshade ?_))
          unfold writeSh
          simp only
          rw [if_neg (fun z => hp z.1)]
      -- if held.young and not cell.young: cell.remembered = True
      refine ⟨_, rfl, B (.cell j), CC, dd, _, _, rfl, hdc, T.isC.cl, T.n_young, cf_young, _, rfl, ?_⟩
      cases hdo : d.old with
      | true =>
        refine iteF (iteF ?_)
        refine last _ _ R1 rfl rfl rfl rfl (fun m => rfl) fun m => ?_
        unfold writeRem
        simp only
        rw [if_neg]
        · rfl
        · rintro ⟨_, z, _⟩
          rw [hyd, hdo] at z
          cases z
      | false =>
        refine iteT ?_
        refine ⟨_, rfl, B (.cell c.id), CC, dc1, _, _, rfl, hcell1, T.isC.cl, T.n_young, cf_young, _, rfl, ?_⟩
        cases hco : c.old with
        | false =>
          refine iteF ?_
          refine last _ _ R1 rfl rfl rfl rfl (fun m => rfl) fun m => ?_
          unfold writeRem
          simp only
          rw [if_neg]
          · rfl
          · rintro ⟨z, _⟩
            rw [hco] at z
            cases z
        | true =>
          refine iteT ?_
          refine ⟨_, rfl, B (.cell c.id), CC, dc1, _, rfl, hcell1, T.isC.cl, T.n_remembered, (by show 8 < 1000; decide), ?_⟩
          rw [pf_remembered]
          have hyt : s.isYoung j = true := by rw [hyd, hdo]; rfl
          have hin : (writeRem s c (.cell j)).contains c.id = true := by
            unfold writeRem
            simp only
            by_cases z : s.remembered.contains c.id = false
            · rw [if_pos ⟨hco, hyt, z⟩]; simp
            · rw [if_neg (fun y => z y.2.2)]; simpa using z
          have hoth : ∀ m, m ≠ c.id → (writeRem s c (.cell j)).contains m = s.remembered.contains m := by
            intro m hm
            unfold writeRem
            simp only
            split
            · simp [hm]
            · rfl
          have R2 := R1.putCell (dx := dc1) (c' := { c with fields := c.fields.set i (.cell j) }) hat1 rfl rfl (rem := writeRem s c (.cell j)) hoth
          rw [hin] at R2
          refine last _ _ R2 rfl rfl rfl rfl (fun m => ?_) fun m => rfl
          show ((s.put { c with fields := c.fields.set i (.cell j) }).put { c with fields := c.fields.set i (.cell j) }).at_ m = _
          by_cases q : m = c.id
          · subst q
            rw [put_at_same (c := { c with fields := c.fields.set i (.cell j) }) hat1 rfl, hat1]
          · rw [put_at_ne (c := { c with fields := c.fields.set i (.cell j) }) q]
end
end Gc
set_option Elab.async false
set_option maxRecDepth 100000
set_option maxHeartbeats 4000000
namespace Gc
open PySem PySem.Spec PyProof.Rows L2
abbrev s_is_variable : Stmt := top 65
theorem sc_is_variable : FnScope ["number"] ["number"] (defScope s_is_variable) := ⟨rfl, rfl, rfl, by decide +kernel, rfl, by decide +kernel, by decide +kernel⟩
abbrev s_may_be_held : Stmt := top 66
theorem sc_may_be_held : FnScope ["number"] ["number"] (defScope s_may_be_held) := ⟨rfl, rfl, rfl, by decide +kernel, rfl, by decide +kernel, by decide +kernel⟩
abbrev s_is_full : Stmt := top 67
theorem sc_is_full : FnScope ["store"] ["store"] (defScope s_is_full) := ⟨rfl, rfl, rfl, by decide +kernel, rfl, by decide +kernel, by decide +kernel⟩
abbrev s_make_room : Stmt := top 71
theorem sc_make_room : FnScope ["store", "rounds"] ["store"] (defScope s_make_room) := ⟨rfl, rfl, rfl, by decide +kernel, rfl, by decide +kernel, by decide +kernel⟩
abbrev s_make_cell : Stmt := top 72
theorem sc_make_cell : FnScope ["store", "v", "kind", "fields", "rounds"] ["store", "v", "kind", "fields"] (defScope s_make_cell) := ⟨rfl, rfl, rfl, by decide +kernel, rfl, by decide +kernel, by decide +kernel⟩
structure TxtS (K : PySem.W.Frag) (mg : Str → Option Value) (CC CS : Addr) : Prop extends Txt K mg CC CS where
  k_MOST_HELD : KInt mg "MOST_HELD" 1000000000
  k_MOST_FIELDS : KInt mg "MOST_FIELDS" 6
  k_MOST_CELLS : KInt mg "MOST_CELLS" 150
  k_YOUNG_FOR_A_ROUND : KInt mg "YOUNG_FOR_A_ROUND" 20
  k_MOST_ROUNDS : KInt mg "MOST_ROUNDS" 2
  k_NOT_AS_TOLD : KInt mg "NOT_AS_TOLD" (-1)
  k_NO_SUCH_CELL : KInt mg "NO_SUCH_CELL" (-3)
  k_NO_SUCH_FIELD : KInt mg "NO_SUCH_FIELD" (-4)
  k_NO_ROOM : KInt mg "NO_ROOM" (-6)
/-- last words told and cells: no more than were made -/
def Wd (s : Sta) : Prop := s.words.length + s.cells.length ≤ s.made
theorem filter_part {α : Type} (p : α → Bool) (l : List α) : (l.filter p).length + (l.filter fun x => !p x).length = l.length := by
  induction l with
  | nil => rfl
  | cons x l ih =>
    rw [List.filter_cons, List.filter_cons]
    cases p x <;> simp <;> omega
theorem Wd.round {s : Sta} (h : Wd s) : Wd s.round.1 := by
  unfold Wd at h ⊢
  have e1 : s.round.1.words = s.words ++ (s.cells.filter fun c => gone s c.id).filterMap (·.word) := rfl
  have e2 : s.round.1.cells.length = (s.cells.filter fun c => !gone s c.id).length := by rw [round_cells, List.length_map]
  have e3 := filter_part (fun c : Kg93.Cell => gone s c.id) s.cells
  have e4 : ((s.cells.filter fun c => gone s c.id).filterMap (·.word)).length ≤ (s.cells.filter fun c => gone s c.id).length := List.length_filterMap_le _ _
  rw [e1, e2, List.length_append]
  show _ ≤ s.made
  omega
def isVar (z : Int) : Bool := decide (0 ≤ z) && decide (z < 16)
theorem isVar_iff {z : Int} : isVar z = true ↔ 0 ≤ z ∧ z < 16 := by
  unfold isVar
  rw [Bool.and_eq_true, decide_eq_true_eq, decide_eq_true_eq]
theorem var_some {z : Int} (h : isVar z = true) : Kg93.var? z = some z.toNat := by
  have := isVar_iff.mp h
  unfold Kg93.var?
  rw [if_pos ⟨this.1, by omega⟩]
theorem var_none {z : Int} (h : isVar z = false) : Kg93.var? z = none := by
  unfold Kg93.var?
  rw [if_neg]
  intro z
  have : isVar _ = true := isVar_iff.mpr ⟨z.1, by omega⟩
  rw [h] at this
  cases this
def sp_is_variable : Sp := fun vs H Q _ => ∃ z, vs = [.int z] ∧ Q (.bl (isVar z)) H
def sp_may_be_held : Sp := fun vs H Q _ => ∃ z, vs = [.int z] ∧ Q (.bl (Kg93.small z)) H
def sp_is_full (CC CS : Addr) : Sp := fun vs H Q _ => ∃ B H0 s D, vs = [.ref (B .store)] ∧ RepA CC CS B H0 H s (idsS s) D ∧ Q (.bl (decide (150 ≤ s.cells.length))) H
def sp_make_room (CC CS : Addr) : Sp := fun vs H Q _ => ∃ B H0 s D, vs = [.ref (B .store)] ∧ RepA CC CS B H0 H s (idsS s) D ∧ Good s D ∧ Wd s ∧ s.made ≤ 1000 ∧
  ∀ H' B', B' .store = B .store → (∀ i, B' (.cell i) = B (.cell i)) → RepA CC CS B' H0 H' s.room.1 (idsS s.room.1) D → Q (.int (s.room.2 : Nat)) H'
section
variable {P : Program} {w : World} {K : PySem.W.Frag} {mg : Str → Option Value} {base : Heap} {CC CS : Addr}
theorem cal_is_variable (F : Def K mg "is_variable" s_is_variable ["number"]) (T : TxtS K mg CC CS) : Cal P w K mg base 1 "is_variable" sp_is_variable := by
  refine F.cal sc_is_variable (fun vs H Q E h => ?_) (fun f cdv A outer sh H vs Q E hr h => ?_)
  · obtain ⟨z, rfl, _⟩ := h
    rfl
  · obtain ⟨z, rfl, k⟩ := h
    refine ⟨_, (pss_one (ps_ret (pe_chain op_le op_lt pe_int (pv 0) (C8.pe_gc rfl T.k_VARIABLES)))), ?_⟩
    refine ⟨_, rfl, _, _, rfl, rfl, _, rfl, ?_⟩
    unfold isVar at k
    cases q : decide (0 ≤ z) with
    | true =>
      rw [q] at k
      exact iteT ⟨_, _, rfl, rfl, k⟩
    | false =>
      rw [q] at k
      exact iteF k
theorem cal_may_be_held (F : Def K mg "may_be_held" s_may_be_held ["number"]) (T : TxtS K mg CC CS) : Cal P w K mg base 1 "may_be_held" sp_may_be_held := by
  refine F.cal sc_may_be_held (fun vs H Q E h => ?_) (fun f cdv A outer sh H vs Q E hr h => ?_)
  · obtain ⟨z, rfl, _⟩ := h
    rfl
  · obtain ⟨z, rfl, k⟩ := h
    refine ⟨_, (pss_one (ps_ret (pe_chain op_le op_le (pe_un un_neg (C8.pe_gc rfl T.k_MOST_HELD)) (pv 0) (C8.pe_gc rfl T.k_MOST_HELD)))), ?_⟩
    refine ⟨_, rfl, _, rfl, _, _, rfl, rfl, _, rfl, ?_⟩
    unfold Kg93.small at k
    cases q : decide (-1000000000 ≤ z) with
    | true =>
      rw [q] at k
      exact iteT ⟨_, _, rfl, rfl, k⟩
    | false =>
      rw [q] at k
      exact iteF k
theorem cal_is_full (F : Def K mg "is_full" s_is_full ["store"]) (T : TxtS K mg CC CS) : Cal P w K mg base 1 "is_full" (sp_is_full CC CS) := by
  refine F.cal sc_is_full (fun vs H Q E h => ?_) (fun f cdv A outer sh H vs Q E hr h => ?_)
  · obtain ⟨B, H0, s, D, rfl, _⟩ := h
    rfl
  · obtain ⟨B, H0, s, D, rfl, R, k⟩ := h
    refine ⟨_, (pss_one (ps_ret (pe_cmpR op_ge (pe_callB call_len_seq (by rfl) T.b_len PySem.boot_len (pa_cons (pe_fld (pv 0) rfl) pa_nil)) (C8.pe_gc rfl T.k_MOST_CELLS) (nomark _)))), ?_⟩
    obtain ⟨dx, sw, hsw, hst⟩ := R.store
    refine ⟨_, rfl, B .store, CS, dx, _, _, rfl, hst, T.cS, T.m_cells, sf_cells, B .cells, _, rfl, .inl (cells_sq R), _, _, rfl, rfl, ?_⟩
    have e : decide ((150 : Int) ≤ ((s.cells.map (refC B)).length : Nat)) = decide (150 ≤ s.cells.length) := by
      rw [List.length_map]
      exact decide_eq_decide.mpr (by omega)
    show Q (V.bl (decide ((150 : Int) ≤ ((s.cells.map (refC B)).length : Nat)))) H
    rw [e]
    exact k
inductive Rm (s : Sta) : Nat → Sta → Prop where
  | zero : Rm s 0 s
  | one (h : 20 ≤ s.young.length) : Rm s 1 s.round.1
  | two (h : 20 ≤ s.young.length) (h2 : 20 ≤ s.round.1.young.length) : Rm s 2 s.round.1.round.1
theorem Rm.done {s t : Sta} {n : Nat} (r : Rm s n t) (h : n = 2 ∨ t.young.length < 20) : s.room = (t, n) := by
  unfold Kg93.State.room
  cases r with
  | zero =>
    rcases h with h | h
    · cases h
    · rw [if_pos (show s.young.length < Kg93.YOUNG from h)]
  | one h1 =>
    rcases h with h | h
    · cases h
    · rw [if_neg (show ¬ s.young.length < Kg93.YOUNG from Nat.not_lt.mpr h1)]
      show (if s.round.1.young.length < Kg93.YOUNG then _ else _) = _
      rw [if_pos (show s.round.1.young.length < Kg93.YOUNG from h)]
  | two h1 h2 =>
    rw [if_neg (show ¬ s.young.length < Kg93.YOUNG from Nat.not_lt.mpr h1)]
    show (if s.round.1.young.length < Kg93.YOUNG then _ else _) = _
    rw [if_neg (show ¬ s.round.1.young.length < Kg93.YOUNG from Nat.not_lt.mpr h2)]
theorem Rm.next {s t : Sta} {n : Nat} (r : Rm s n t) (hn : n ≠ 2) (h : 20 ≤ t.young.length) : Rm s (n + 1) t.round.1 := by
  cases r with
  | zero => exact .one h
  | one h1 => exact .two h1 h
  | two h1 h2 => exact absurd rfl hn
theorem Rm.le {s t : Sta} {n : Nat} (r : Rm s n t) : n ≤ 2 := by
  cases r <;> omega
theorem cal_make_room (F : Def K mg "make_room" s_make_room ["store"]) (T : TxtS K mg CC CS) (c_count_young : Cal P w K mg base 1 "count_young" (sp_count_young CC CS)) (c_round_of_the_young : Cal P w K mg base 6 "round_of_the_young" (sp_round_of_the_young CC CS)) : Cal P w K mg base 7 "make_room" (sp_make_room CC CS) := by
  refine F.cal sc_make_room (fun vs H Q E h => ?_) (fun f cdv A outer sh H vs Q E hr h => ?_)
  · obtain ⟨B, H0, s, D, rfl, _⟩ := h
    rfl
  · obtain ⟨B, H0, s, D, rfl, R, g, wd, hm, cont⟩ := h
    refine ⟨_, (pss_cons (ps_set (i := 1) sc_make_room.nd rfl (Or.inl rfl) pe_int) (pss_cons (ps_while PassesOwn.never (PW.pt (pw_and (pt_cmpR op_lt (pv 1) (C8.pe_gc rfl T.k_MOST_ROUNDS) (nomark _)) (pw_and1 (pt_cmpR op_ge (C8.pe_c c_count_young hr (by decide) rfl (pa_cons (pv 0) pa_nil)) (C8.pe_gc rfl T.k_YOUNG_FOR_A_ROUND) (nomark _))))) (pss_cons (ps_expr (C8.pe_c c_round_of_the_young hr (by decide) rfl (pa_cons (pv 0) pa_nil))) (pss_one (ps_aug (i := 1) sc_make_room.nd rfl (Or.inl rfl) pe_int ip_add)))) (pss_one (ps_ret (pv 1))))), ?_⟩
    refine ⟨fun m σ H' => ∃ (n : Nat) (t : Sta) (B' : Role → Addr), m = 2 - n ∧ σ = [some (.ref (B .store)), some (.int n)] ∧ B' .store = B .store ∧ (∀ i, B' (.cell i) = B (.cell i)) ∧ Good t D ∧ Wd t ∧ t.made ≤ 1000 ∧ RepA CC CS B' H0 H' t (idsS t) D ∧ Rm s n t,
      ⟨_, 0, s, B, rfl, rfl, rfl, fun _ => rfl, g, wd, hm, R, .zero⟩, ?_⟩
    rintro m σ H' ⟨n, t, B', rfl, rfl, hBs, hBc, gt, wt, hmt, R', rm⟩
    have hle := rm.le
    refine ⟨_, rfl, _, _, rfl, rfl, _, rfl, ?_⟩
    by_cases hn2 : n = 2
    · have e : decide ((n : Int) < 2) = false := decide_eq_false (by omega)
      refine ite2 (fun q => ?_) (fun _ => ?_)
      · rw [e] at q; cases q
      refine iteF ⟨_, rfl, ?_⟩
      have hr := rm.done (.inl hn2)
      have := cont H' B' hBs hBc (by rw [hr]; exact R')
      rw [hr] at this
      exact this
    · have e : decide ((n : Int) < 2) = true := decide_eq_true (by omega)
      refine ite2 (fun _ => ?_) (fun q => absurd e q)
      refine ⟨_, rfl, B', H0, t, D, by rw [hBs]; rfl, R', gt, hmt, fun H2 R2 => ⟨_, _, rfl, rfl, _, rfl, ?_⟩⟩
      by_cases hy : 20 ≤ t.young.length
      · have e2 : decide ((20 : Int) ≤ (t.young.length : Nat)) = true := decide_eq_true (by omega)
        refine ite2 (fun _ => ?_) (fun q => absurd e2 q)
        refine ⟨fun σ' H3 => ∃ (t2 : Sta) (B2 : Role → Addr), σ' = [some (.ref (B .store)), some (.int ((n + 1 : Nat) : Int))] ∧ B2 .store = B .store ∧ (∀ i, B2 (.cell i) = B (.cell i)) ∧ Good t2 D ∧ Wd t2 ∧ t2.made ≤ 1000 ∧ RepA CC CS B2 H0 H3 t2 (idsS t2) D ∧ Rm s (n + 1) t2,
          fun σ' H3 ⟨t2, B2, h2, h3, h4, h5, h6, h7, h8, h9⟩ => ⟨2 - (n + 1), by omega, n + 1, t2, B2, rfl, h2, h3, h4, h5, h6, h7, h8, h9⟩, ?_⟩
        have hwl : t.words.length ≤ 900000 := by unfold Wd at wt; omega
        refine ⟨_, rfl, B', H0, t, D, by rw [hBs]; rfl, R2, gt, hmt, hwl, fun H3 B3 hs3 hc3 R3 => ?_⟩
        refine ⟨_, rfl, _, _, rfl, rfl, ?_⟩
        exact ⟨t.round.1, B3, rfl, hs3.trans hBs, fun i => (hc3 i).trans (hBc i), gt.round, wt.round, hmt, R3, rm.next hn2 hy⟩
      · have e2 : decide ((20 : Int) ≤ (t.young.length : Nat)) = false := decide_eq_false (by omega)
        refine ite2 (fun q => ?_) (fun _ => ?_)
        · have q' : decide ((20 : Int) ≤ (t.young.length : Nat)) = true := q
          rw [e2] at q'; cases q'
        refine ⟨_, rfl, ?_⟩
        have hr := rm.done (.inr (by omega))
        have := cont H2 B' hBs hBc (by rw [hr]; exact R2)
        rw [hr] at this
        exact this
end
end Gc
set_option Elab.async false
set_option maxRecDepth 100000
set_option maxHeartbeats 4000000
namespace Gc
open PySem PySem.Spec PyProof.Rows L2
theorem room_ok {s : Sta} {D : List Nat} (g : Good s D) (w : Wd s) : Good s.room.1 D ∧ Wd s.room.1 ∧ s.room.1.vars = s.vars ∧ s.room.1.made = s.made := by
  by_cases h1 : s.young.length < 20
  · rw [(Rm.zero (s := s)).done (.inr h1)]
    exact ⟨g, w, rfl, rfl⟩
  · by_cases h2 : s.round.1.young.length < 20
    · rw [(Rm.one (s := s) (Nat.not_lt.mp h1)).done (.inr h2)]
      exact ⟨g.round, w.round, rfl, rfl⟩
    · rw [(Rm.two (s := s) (Nat.not_lt.mp h1) (Nat.not_lt.mp h2)).done (.inl rfl)]
      exact ⟨g.round.round, w.round.round, rfl, rfl⟩
theorem Wd.make {s : Sta} (h : Wd s) (v : Nat) (k : Kg93.Kind) (fs : List Vl) : Wd (s.make v k fs) := by
  unfold Wd at h ⊢
  show s.words.length + (s.cells ++ [_]).length ≤ s.made + 1
  rw [List.length_append, List.length_singleton]
  omega
/-- a list of whole numbers as an answer -/
abbrev ansV (a : Kg93.Ans) : List V := (a.value :: a.out).map V.int
def ShapeF (k : Kg93.Kind) (fs : List Vl) : Prop := ∀ n : Nat, Shape ⟨n, k, fs, false, false, .white, none⟩
def sp_make_cell (CC CS : Addr) : Sp := fun vs H Q _ => ∃ (B : Role → Addr) (H0 : Hp) (s : Sta) (D : List Nat) (v : Nat) (kd : Kg93.Kind) (fs : List Vl) (fl : Addr), vs = [.ref (B .store), .int v, .int (kindN kd), .ref fl] ∧ RepA CC CS B (upd H0 fl (.lst (fs.map (vV (adB B))))) H s (idsS s) D ∧ H0 fl = none ∧ Good s D ∧ Wd s ∧ s.made ≤ 900 ∧ v < 16 ∧ (∀ i, Kg93.V.cell i ∈ fs → Kg93.V.cell i ∈ s.vars) ∧ ShapeF kd fs ∧
  ∀ H' B' p, B' .store = B .store → H0 p = none → Good (Kg93.made s v kd fs).1 D → Wd (Kg93.made s v kd fs).1 → RepA CC CS B' (upd H0 p (.lst (ansV (Kg93.made s v kd fs).2))) H' (Kg93.made s v kd fs).1 (idsS (Kg93.made s v kd fs).1) D → Q (.ref p) H'
section
variable {P : Program} {w : World} {K : PySem.W.Frag} {mg : Str → Option Value} {base : Heap} {CC CS : Addr}
theorem ixN_nat {n i : Nat} (h : i < n) : ixN n (i : Int) = some i := by
  unfold ixN
  rw [if_pos (by omega), if_pos (by omega)]
  simp
theorem cal_make_cell (F : Def K mg "make_cell" s_make_cell ["store", "v", "kind", "fields"]) (T : TxtS K mg CC CS) (c_is_full : Cal P w K mg base 1 "is_full" (sp_is_full CC CS)) (c_make_room : Cal P w K mg base 7 "make_room" (sp_make_room CC CS)) (c_add_cell : Cal P w K mg base 3 "add_cell" (sp_add_cell CC CS)) : Cal P w K mg base 8 "make_cell" (sp_make_cell CC CS) := by
  refine F.cal sc_make_cell (fun vs H Q E h => ?_) (fun f cdv A outer sh H vs Q E hr h => ?_)
  · obtain ⟨B, H0, s, D, v, kd, fs, fl, rfl, _⟩ := h
    rfl
  · obtain ⟨B, H0, s, D, v, kd, fs, fl, rfl, R, hfl, g, wd, hm, hv, hfs, hsh, cont⟩ := h
    refine ⟨_, (pss_cons (ps_if (pt_val (C8.pe_c c_is_full hr (by decide) rfl (pa_cons (pv 0) pa_nil))) (pss_one (ps_ret (pe_lst (pa_cons (C8.pe_gc rfl T.k_NO_ROOM) pa_nil)))) pss_nil) (pss_cons (ps_set (i := 4) sc_make_cell.nd rfl (Or.inl rfl) (C8.pe_c c_make_room hr (by decide) rfl (pa_cons (pv 0) pa_nil))) (pss_cons (ps_asg (C8.pe_c c_add_cell hr (by decide) rfl (pa_cons (pv 0) (pa_cons (pv 2) (pa_cons (pv 3) pa_nil)))) (pg_sub (pe_fld (pv 0) rfl) (pv 1) set_list)) (pss_one (ps_ret (pe_lst (pa_cons (pv 4) pa_nil))))))), ?_⟩
    refine ⟨_, rfl, B, _, s, D, rfl, R, _, rfl, ?_⟩
    by_cases hfull : 150 ≤ s.cells.length
    · have em : Kg93.made s v kd fs = (s, Kg93.num (-6)) := by
        unfold Kg93.made
        rw [if_pos (show Kg93.CELLS ≤ s.cells.length from hfull)]
      rw [em] at cont
      refine ite2 (fun _ => ?_) (fun q => absurd (decide_eq_true hfull) q)
      refine ⟨by show 1 ≤ 2 ^ 24; decide, fun p hp => ?_⟩
      have R1 := R.fresh (o := .lst [V.int (-6)]) hp
      have hp0 : H0 p = none := (same_upd hfl).free (R.same.free hp)
      refine cont _ B p rfl hp0 g wd (R1.weak ?_)
      intro b o e
      by_cases z : b = p
      · subst z
        rw [upd_same] at e ⊢
        exact e
      · rw [upd_ne z] at e ⊢
        rw [upd_ne (ne_of_none e hfl)]
        exact e
    · refine ite2 (fun q => absurd (of_decide_eq_true q) hfull) (fun _ => ?_)
      have em : Kg93.made s v kd fs = (s.room.1.make v kd fs, Kg93.num (s.room.2 : Nat)) := by
        unfold Kg93.made
        rw [if_neg (show ¬ Kg93.CELLS ≤ s.cells.length from hfull)]
      rw [em] at cont
      obtain ⟨g1, w1, ev, emade⟩ := room_ok g wd
      -- rounds = make_room(store)
      refine ⟨_, rfl, B, _, s, D, rfl, R, g, wd, by omega, fun H1 B1 hs1 hc1 R1 => ?_⟩
      have ead : adB B1 = adB B := by funext i; exact hc1 i
      rw [← ead] at R1
      have hok1 : ∀ x ∈ fs, HeldOk s.room.1 D x := by
        intro x hx i e
        subst e
        have h2 : Kg93.V.cell i ∈ s.room.1.vars := by rw [ev]; exact hfs i hx
        exact g1.heldVar h2 i rfl
      -- store.variables[v] = add_cell(store, kind, fields)
      refine ⟨_, rfl, _, rfl, _, rfl, B1, H0, s.room.1, D, kd, fs, fl, by rw [hs1]; rfl, R1, hfl, g1, by omega, hok1, fun H2 B2 hs2 hc2 R2 => ?_⟩
      have hs2' : B2 .store = B .store := hs2.trans hs1
      obtain ⟨dx2, sw2, hsw2, hst2⟩ := R2.store
      rw [hs2'] at hst2
      have hlen : (addS s.room.1 kd fs).vars.length = 16 := g1.v16
      refine ⟨_, rfl, B .store, CS, dx2, _, _, rfl, hst2, T.cS, T.m_variables, sf_variables, _, rfl, B2 .vars, _, _, v, rfl, rfl, R2.vars, ixN_nat (by rw [List.length_map, hlen]; exact hv), ?_⟩
      have R3 := R2.setVar v (.cell s.room.1.made)
      rw [List.map_set] at R3
      -- return [rounds]
      refine ⟨_, rfl, by show 1 ≤ 2 ^ 24; decide, fun p hp => ?_⟩
      have hp0 : H0 p = none := R3.same.free hp
      have R4 := R3.fresh (o := .lst [V.int (s.room.2 : Nat)]) hp
      have gm : Good (s.room.1.make v kd fs) D := g1.make (fun i hi => g1.vars i (by rw [ev]; exact hfs i hi)) (hsh _)
      exact cont _ B2 p hs2' hp0 gm (w1.make v kd fs) R4
end
end Gc
set_option Elab.async false
set_option maxRecDepth 100000
set_option maxHeartbeats 4000000
namespace Gc
open PySem PySem.Spec PyProof.Rows L2
abbrev s_is_field_told : Stmt := top 73
theorem sc_is_field_told : FnScope ["way", "number"] ["way", "number"] (defScope s_is_field_told) := ⟨rfl, rfl, rfl, by decide +kernel, rfl, by decide +kernel, by decide +kernel⟩
abbrev s_are_fields_told : Stmt := top 74
theorem sc_are_fields_told : FnScope ["row", "at"] ["row"] (defScope s_are_fields_told) := ⟨rfl, rfl, rfl, by decide +kernel, rfl, by decide +kernel, by decide +kernel⟩
abbrev s_told_field : Stmt := top 75
theorem sc_told_field : FnScope ["store", "way", "number"] ["store", "way", "number"] (defScope s_told_field) := ⟨rfl, rfl, rfl, by decide +kernel, rfl, by decide +kernel, by decide +kernel⟩
abbrev s_told_fields : Stmt := top 76
theorem sc_told_fields : FnScope ["store", "row", "at"] ["store", "row"] (defScope s_told_fields) := ⟨rfl, rfl, rfl, by decide +kernel, rfl, by decide +kernel, by decide +kernel⟩
abbrev s_field_refusal : Stmt := top 77
theorem sc_field_refusal : FnScope ["held", "i"] ["held", "i"] (defScope s_field_refusal) := ⟨rfl, rfl, rfl, by decide +kernel, rfl, by decide +kernel, by decide +kernel⟩
theorem fits {i : Int} (h1 : -10 ≤ i) (h2 : i ≤ 100000) : Builtin.Range.rangeFitsLong i = true := by
  unfold Builtin.Range.rangeFitsLong
  rw [Bool.and_eq_true, decide_eq_true_eq, decide_eq_true_eq]
  exact ⟨Int.le_trans (by decide) h1, Int.lt_of_le_of_lt h2 (by decide)⟩
theorem rg_two {n : Nat} (h : n ≤ 1000) : RgC 0 ((2 * n : Nat) : Int) 2 n := by
  have hs : Builtin.Range.rangeSize 0 ((2 * n : Nat) : Int) 2 = (n : Int) := by
    unfold Builtin.Range.rangeSize
    simp only [show ((2 : Int) > 0) by decide, if_true]
    split <;> omega
  refine ⟨by decide, by decide, ?_, hs⟩
  have hn : (0 : Int) ≤ n ∧ (n : Int) ≤ 1000 := ⟨by omega, by omega⟩
  have hm : ((2 * n : Nat) : Int) = 2 * (n : Int) := by omega
  unfold Builtin.Range.small
  rw [hs, hm, fits (by omega) (by omega), fits (by omega) (by omega), fits (by omega) (by omega), fits (by omega) (by omega), if_pos (by decide), fits (by omega) (by omega)]
  simp
/-! ### fields told in pairs -/
def okPair (s : Int × Int) : Bool := if s.1 = 0 then Kg93.small s.2 else (decide (s.1 = 1) && isVar s.2)
def fieldOf (s : Sta) (p : Int × Int) : Vl := if p.1 = 0 then .num p.2 else s.var p.2.toNat
def flat : List (Int × Int) → List Int
  | [] => []
  | (a, b) :: r => a :: b :: flat r
theorem flat_len : ∀ l : List (Int × Int), (flat l).length = 2 * l.length
  | [] => rfl
  | (a, b) :: r => by
    show (flat r).length + 1 + 1 = 2 * (r.length + 1)
    rw [flat_len r]
    omega
theorem flat_of : ∀ (n : Nat) (l : List Int), l.length = 2 * n → ∃ ps, l = flat ps ∧ ps.length = n
  | 0, [], _ => ⟨[], rfl, rfl⟩
  | 0, _ :: _, h => by simp at h
  | n + 1, [], h => by simp at h
  | n + 1, [_], h => by simp at h; omega
  | n + 1, a :: b :: r, h => by
    obtain ⟨ps, e, hl⟩ := flat_of n r (by simp at h; omega)
    exact ⟨(a, b) :: ps, by rw [e]; rfl, by rw [List.length_cons, hl]⟩
theorem flat_get : ∀ (ps : List (Int × Int)) (i : Nat) (p : Int × Int), ps[i]? = some p → (flat ps)[2 * i]? = some p.1 ∧ (flat ps)[2 * i + 1]? = some p.2
  | [], i, p, h => by simp at h
  | (a, b) :: r, 0, p, h => by
    have : (a, b) = p := Option.some.inj h
    subst this
    exact ⟨rfl, rfl⟩
  | (a, b) :: r, i + 1, p, h => by
    have := flat_get r i p h
    exact this
theorem flat_inj : ∀ {a b : List (Int × Int)}, flat a = flat b → a = b
  | [], [], _ => rfl
  | [], (_, _) :: _, h => by cases h
  | (_, _) :: _, [], h => by cases h
  | (x, y) :: a, (z, u) :: b, h => by
    have h' : x :: y :: flat a = z :: u :: flat b := h
    injection h' with h1 h2
    injection h2 with h2 h3
    rw [h1, h2, flat_inj h3]
theorem fields_flat (s : Sta) : ∀ ps : List (Int × Int), Kg93.fields? s (flat ps) = if ps.all okPair = true then some (ps.map (fieldOf s)) else none
  | [] => rfl
  | (a, b) :: r => by
    have ih := fields_flat s r
    show (if a = 0 ∧ Kg93.small b = true then (Kg93.fields? s (flat r)).map fun l => .num b :: l else if a = 1 then (Kg93.var? b).bind fun u => (Kg93.fields? s (flat r)).map fun l => s.var u :: l else none) = _
    rw [ih, List.all_cons, List.map_cons]
    by_cases h0 : a = 0
    · subst h0
      have e1 : okPair (0, b) = Kg93.small b := rfl
      have e2 : fieldOf s (0, b) = .num b := rfl
      rw [e1, e2]
      cases hb : Kg93.small b with
      | true =>
        rw [if_pos ⟨rfl, rfl⟩, Bool.true_and]
        split <;> rfl
      | false =>
        rw [if_neg (fun z => by cases z.2), if_neg (by decide), Bool.false_and, if_neg Bool.false_ne_true]
    · have e1 : okPair (a, b) = (decide (a = 1) && isVar b) := if_neg h0
      have e2 : fieldOf s (a, b) = s.var b.toNat := if_neg h0
      rw [e1, e2, if_neg (fun z => h0 z.1)]
      by_cases h1 : a = 1
      · rw [if_pos h1, decide_eq_true h1, Bool.true_and]
        cases hb : isVar b with
        | true =>
          rw [var_some hb, Bool.true_and]
          show (if r.all okPair = true then some (r.map (fieldOf s)) else none).map _ = _
          split <;> rfl
        | false =>
          rw [var_none hb, Bool.false_and, if_neg Bool.false_ne_true]
          rfl
      · rw [if_neg h1, decide_eq_false h1, Bool.false_and, Bool.false_and, if_neg Bool.false_ne_true]
theorem fields_odd (s : Sta) : ∀ (n : Nat) (l : List Int), l.length = 2 * n + 1 → Kg93.fields? s l = none
  | 0, [], h => by simp at h
  | 0, [_], _ => rfl
  | 0, _ :: _ :: _, h => by simp at h
  | n + 1, [], h => by simp at h
  | n + 1, [_], h => by simp at h
  | n + 1, a :: b :: r, h => by
    have ih := fields_odd s n r (by simp at h; omega)
    show (if a = 0 ∧ Kg93.small b = true then (Kg93.fields? s r).map fun l => .num b :: l else if a = 1 then (Kg93.var? b).bind fun u => (Kg93.fields? s r).map fun l => s.var u :: l else none) = none
    rw [ih]
    split
    · rfl
    · split
      · cases Kg93.var? b <;> rfl
      · rfl
/-- a comprehension over 0, 2, 4, .. whose turns change nothing -/
theorem lc_two {α : Type} {CC CS : Addr} {B : Role → Addr} {H0 H1 : Hp} {s : Sta} {lst Dd : List Nat} {D : Addr} (ys : List α) {g : TG} {te : TE} {vs : List Nat} {σ : L2.St} {Qd : Hp → Prop}
    (R1 : RepA CC CS B H0 H1 s lst Dd) (hD : H1 D = none) (out : α → V) (hlen : ys.length < sizeLine)
    (turn : ∀ i y, ys[i]? = some y → ∀ o H', RepA CC CS B (upd H0 D o) H' s lst Dd → ∀ (Y : V → Hp → Prop), Y (out y) H' →
      g (.int (0 + (i : Nat) * 2)) (wipe σ vs) H' fun σ2 H2 => wipe σ2 vs = wipe σ vs ∧ te σ2 H2 Y)
    (fin : ∀ H', RepA CC CS B (upd H0 D (.lst (ys.map out))) H' s lst Dd → Qd H')
    (gm : ∀ x σ H Q Q', (∀ σ2 H2, Q σ2 H2 → Q' σ2 H2) → g x σ H Q → g x σ H Q') :
    ∃ W : Nat → Nat → Hp → Prop, (∃ m, W 0 m (upd H1 D (.lst []))) ∧ ∀ i m H, W i m H →
      ((Itc 0 2 ys.length).stop i H ∧ Qd H) ∨ ((Itc 0 2 ys.length).go i H ∧ ∃ Nx : Hp → Prop, (∀ H', Nx H' → ∃ m', m' < m ∧ W (i + 1) m' H') ∧ ∀ x H', (Itc 0 2 ys.length).yld i H x H' → g x (wipe σ vs) H' fun σ2 H2 => wipe σ2 vs = wipe σ vs ∧ tYes σ2 H2 fun b H3 =>
        if b = true then te σ2 H3 fun y H4 => ∃ acc, H4 D = some (.lst acc) ∧ acc.length < sizeLine ∧ Nx (upd H4 D (.lst (acc ++ [y]))) else Nx H3) := by
  refine lc_it walk_rangeC (fun i H' => RepA CC CS B (upd H0 D (.lst ((ys.take i).map out))) H' s lst Dd) ?_ (fun _ _ _ _ => trivial) ?_ ?_
  · exact R1.fresh hD
  · rintro i x H H' hi R ⟨rfl, rfl⟩
    obtain ⟨y, hy⟩ : ∃ y, ys[i]? = some y := ⟨ys[i], List.getElem?_eq_getElem hi⟩
    have e : (ys.take (i + 1)).map out = (ys.take i).map out ++ [out y] := by
      rw [take_more hy, List.map_append]
      rfl
    refine gm _ _ _ _ _ (fun σ2 H2 h => ⟨h.1, by unfold tYes; simp only [if_true]; exact h.2⟩) (turn i y hy _ H' R _ ?_)
    refine ⟨_, R.same D _ upd_same, ?_, ?_⟩
    · rw [List.length_map, List.length_take]
      omega
    · rw [e]
      have := R.tmp (o := .lst ((ys.take i).map out ++ [out y])) (p := D) upd_same
      rw [upd_upd] at this
      exact this
  · intro H' R
    rw [List.take_length] at R
    exact fin H' R
theorem gName_mono {i : Nat} : ∀ x σ H (Q Q' : L2.St → Hp → Prop), (∀ σ2 H2, Q σ2 H2 → Q' σ2 H2) → gName i x σ H Q → gName i x σ H Q' := fun _ _ _ _ _ h q => h _ _ q
def sp_is_field_told : Sp := fun vs H Q _ => ∃ a b, vs = [.int a, .int b] ∧ Q (.bl (okPair (a, b))) H
/-- whether a row may be a cell's fields -/
def okRow (row : List Int) : Bool := decide (row.length % 2 = 0) && (decide (row.length ≤ 12) && (match Kg93.fields? Kg93.init row with | some _ => true | none => false))
def sp_are_fields_told (CC CS : Addr) : Sp := fun vs H Q _ => ∃ B H0 s lst D rl, ∃ row : List Int, vs = [.ref rl] ∧ H0 rl = some (.lst (row.map V.int)) ∧ row.length ≤ 100 ∧ RepA CC CS B H0 H s lst D ∧
  ((¬ ∃ ps, row = flat ps ∧ ps.length ≤ 6 ∧ ps.all okPair = true) → ∀ H', RepA CC CS B H0 H' s lst D → Q (.bl false) H') ∧
  (∀ ps, row = flat ps → ps.length ≤ 6 → ps.all okPair = true → ∀ H', RepA CC CS B H0 H' s lst D → Q (.bl true) H')
section
variable {P : Program} {w : World} {K : PySem.W.Frag} {mg : Str → Option Value} {base : Heap} {CC CS : Addr}
theorem cal_is_field_told (F : Def K mg "is_field_told" s_is_field_told ["way", "number"]) (T : TxtS K mg CC CS) (c_may_be_held : Cal P w K mg base 1 "may_be_held" sp_may_be_held) (c_is_variable : Cal P w K mg base 1 "is_variable" sp_is_variable) : Cal P w K mg base 2 "is_field_told" sp_is_field_told := by
  refine F.cal sc_is_field_told (fun vs H Q E h => ?_) (fun f cdv A outer sh H vs Q E hr h => ?_)
  · obtain ⟨a, b, rfl, _⟩ := h
    rfl
  · obtain ⟨a, b, rfl, k⟩ := h
    refine ⟨_, (pss_cons (ps_if (pt_cmpR op_eq (pv 0) pe_int (nomark _)) (pss_one (ps_ret (C8.pe_c c_may_be_held hr (by decide) rfl (pa_cons (pv 1) pa_nil)))) pss_nil) (pss_one (ps_ret (pe_and (pe_cmpR op_eq (pv 0) pe_int (nomark _)) (pe_one (C8.pe_c c_is_variable hr (by decide) rfl (pa_cons (pv 1) pa_nil))))))), ?_⟩
    unfold okPair at k
    refine ⟨_, rfl, rfl, _, rfl, ?_⟩
    refine ite2 (fun q => ?_) (fun q => ?_)
    · have e : a = 0 := by have := of_decide_eq_true q; injection this
      rw [if_pos e] at k
      exact ⟨_, rfl, _, rfl, k⟩
    · have e : a ≠ 0 := fun z => q (decide_eq_true (by rw [z]))
      rw [if_neg e] at k
      refine ⟨_, rfl, rfl, _, rfl, ?_⟩
      have ed : decide (V.int a = V.int 1) = decide (a = 1) := by simp
      rw [ed]
      cases hd : decide (a = 1) with
      | true =>
        have k' : Q (.bl (decide (a = 1) && isVar b)) H := k
        rw [hd] at k'
        exact iteT ⟨_, rfl, _, rfl, k'⟩
      | false =>
        have k' : Q (.bl (decide (a = 1) && isVar b)) H := k
        rw [hd] at k'
        exact iteF k'
theorem cal_are_fields_told (F : Def K mg "are_fields_told" s_are_fields_told ["row"]) (T : TxtS K mg CC CS) (c_is_field_told : Cal P w K mg base 2 "is_field_told" sp_is_field_told) : Cal P w K mg base 3 "are_fields_told" (sp_are_fields_told CC CS) := by
  refine F.cal sc_are_fields_told (fun vs H Q E h => ?_) (fun f cdv A outer sh H vs Q E hr h => ?_)
  · obtain ⟨B, H0, s, lst, D, rl, row, rfl, _⟩ := h
    rfl
  · obtain ⟨B, H0, s, lst, D, rl, row, rfl, hrl, hlen, R, kF, kT⟩ := h
    refine ⟨_, (pss_cons (ps_if (PW.pt (pw_or (pt_cmpR op_ne (pe_op op_mod (pe_callB call_len_seq (by rfl) T.b_len PySem.boot_len (pa_cons (pv 0) pa_nil)) pe_int) pe_int (nomark _)) (pw_or1 (pt_cmpR op_gt (pe_callB call_len_seq (by rfl) T.b_len PySem.boot_len (pa_cons (pv 0) pa_nil)) (pe_op op_mul pe_int (C8.pe_gc rfl T.k_MOST_FIELDS)) (nomark _))))) (pss_one (ps_ret pe_bl)) pss_nil) (pss_one (ps_ret (pe_callB (cr_all rfl) (by rfl) T.b_all (by decide +kernel) (pa_cons (pe_lc (own := [("at", 1)]) (g := gName 1) (tt := tYes) (te := (tCall _ [] E0 (tCons (tOp (rIxL K) (tVar 0) (tVar 1)) (tCons (tOp (rIxL K) (tVar 0) (tOp _ (tVar 1) (tC _))) tNil)))) rfl sc_are_fields_told.nd (pi_range3 (by rfl) T.b_range (pa_cons pe_int (pa_cons (pe_callB call_len_seq (by rfl) T.b_len PySem.boot_len (pa_cons (pv 0) pa_nil)) (pa_cons pe_int pa_nil)))) (blkOk_by (own := [("at", 1)]) (N := ["row", "at"]) (sc := defScope s_are_fields_told) (by decide +kernel)) (fun _ _ _ _ _ => pg_name (i := 1) sc_are_fields_told.nd rfl (Or.inl rfl)) (fun _ _ _ _ _ => pts_nil) (fun _ _ _ _ _ => (C8.pe_c c_is_field_told hr (by decide) rfl (pa_cons (pe_ix ix_list (pv 0) (pv 1) (fun _ _ => rfl)) (pa_cons (pe_ix ix_list (pv 0) (pe_op op_add (pv 1) pe_int) (fun _ _ => rfl)) pa_nil))))) pa_nil))))), ?_⟩
    have hrlH : H rl = some (.lst (row.map V.int)) := R.same rl _ hrl
    refine ⟨_, rfl, rl, _, rfl, .inl (SqL.of hrlH), _, _, rfl, rfl, (by show (0 : Int) < 2; decide), rfl, _, rfl, ?_⟩
    by_cases hev : row.length % 2 = 0
    · have e1 : (!decide (V.int ((((row.map V.int).length : Nat) : Int) % 2) = V.int 0)) = false := by
        rw [decide_eq_true]
        · rfl
        · rw [List.length_map]
          congr 1
          omega
      refine ite2 (fun q => ?_) (fun _ => ?_)
      · have q' : (!decide (V.int ((((row.map V.int).length : Nat) : Int) % 2) = V.int 0)) = true := q
        rw [e1] at q'; cases q'
      refine ⟨_, rfl, rl, _, rfl, .inl (SqL.of hrlH), _, _, rfl, rfl, .inl ⟨by decide, by decide⟩, _, _, rfl, rfl, _, rfl, ?_⟩
      by_cases h12 : 12 < row.length
      · refine ite2 (fun _ => ?_) (fun q => absurd (decide_eq_true (by rw [List.length_map]; show (2 : Int) * 6 < _; omega)) q)
        refine kF ?_ H R
        rintro ⟨ps, e, hl, _⟩
        rw [e, flat_len] at h12
        omega
      · refine ite2 (fun q => absurd (of_decide_eq_true q) (by rw [List.length_map]; show ¬ (2 : Int) * 6 < _; omega)) (fun _ => ?_)
        obtain ⟨ps, e, hn⟩ := flat_of (row.length / 2) row (by omega)
        have hl2 : row.length = 2 * ps.length := by rw [e, flat_len]
        -- all([..])
        refine ⟨_, rfl, rl, _, rfl, .inl (SqL.of hrlH), 0, _, 2, ps.length, rfl, ?_, fun p hp => ?_⟩
        · have := rg_two (n := ps.length) (by omega)
          rw [← hl2] at this
          rw [List.length_map]
          exact this
        refine lc_two ps R hp (fun q => .bl (okPair q)) (Nat.lt_of_le_of_lt (by omega : ps.length ≤ 1000) (by decide)) ?_ ?_ gName_mono
        · intro i y hy o H' R' Y hY
          obtain ⟨g1, g2⟩ := flat_get ps i y hy
          have hrl' : H' rl = some (.lst (row.map V.int)) := R'.same rl _ (by rw [upd_ne (ne_of_none hrlH hp)]; exact hrl)
          have a1 : atI (row.map V.int) (0 + ((i : Nat) : Int) * 2) = some (.int y.1) := at_of (j := 2 * i) (by omega) (by rw [List.getElem?_map, e, g1]; rfl)
          have a2 : atI (row.map V.int) (0 + ((i : Nat) : Int) * 2 + 1) = some (.int y.2) := at_of (j := 2 * i + 1) (by omega) (by rw [List.getElem?_map, e, g2]; rfl)
          refine ⟨rfl, _, rfl, _, rfl, rl, _, _, _, rfl, rfl, SqL.of hrl', a1, _, rfl, _, rfl, _, _, rfl, rfl, rl, _, _, _, rfl, rfl, SqL.of hrl', a2, y.1, y.2, rfl, hY⟩
        · intro H1 R1
          refine ⟨p, ps.map okPair, rfl, SqL.of (by rw [List.map_map]; exact R1.same p _ upd_same), ?_⟩
          have ea : (ps.map okPair).all id = ps.all okPair := by
            rw [List.all_map]
            rfl
          have R2 := R1.weak (same_upd (R.same.free hp))
          rw [ea]
          cases hq : ps.all okPair with
          | true => exact kT ps e (by omega) hq H1 R2
          | false =>
            refine kF ?_ H1 R2
            rintro ⟨ps', e', _, h⟩
            have : ps' = ps := flat_inj (e'.symm.trans e)
            rw [this, hq] at h
            cases h
    · have e1 : (!decide (V.int ((((row.map V.int).length : Nat) : Int) % 2) = V.int 0)) = true := by
        rw [decide_eq_false]
        · rfl
        · rw [List.length_map]
          intro z
          injection z with z
          omega
      refine ite2 (fun _ => ?_) (fun q => absurd e1 q)
      refine iteT ?_
      refine kF ?_ H R
      rintro ⟨ps, e, _, _⟩
      rw [e, flat_len] at hev
      omega
end
end Gc
set_option Elab.async false
set_option maxRecDepth 100000
set_option maxHeartbeats 4000000
namespace Gc
open PySem PySem.Spec PyProof.Rows L2
def cellV (s : Sta) : Vl → Option Cl
  | .cell j => s.at_ j
  | _ => none
theorem of_eq (s : Sta) (u : Nat) : s.of u = cellV s (s.var u) := by
  unfold Kg93.State.of cellV
  cases s.var u <;> rfl
def refN (s : Sta) (v : Vl) (i : Int) : Int := match cellV s v with
  | none => -3
  | some c => if c.kind = .plain then (if 0 ≤ i ∧ i < c.fields.length then 0 else -4) else -3
theorem RepA.isKV {CC CS : Addr} {B : Role → Addr} {H0 H : Hp} {s : Sta} {lst : List Nat} {D : List Nat} (R : RepA CC CS B H0 H s lst D) {v : Vl} (kd : Kg93.Kind) (h : AliveV s v) : IsK CC H (kindN kd) (vV (adB B) v) ((cellV s v).any fun c => decide (c.kind = kd)) := by
  cases v with
  | none_ => exact .inr ⟨rfl, noCell_of rfl⟩
  | num z => exact .inr ⟨rfl, noCell_of rfl⟩
  | cell i =>
    left
    obtain ⟨c, e⟩ := Option.isSome_iff_exists.mp (h i rfl)
    obtain ⟨dx, e2⟩ := R.cell e
    refine ⟨_, dx, _, _, rfl, e2, cf_kind, ?_⟩
    show (s.at_ i).any _ = _
    rw [e]
    exact decide_eq_decide.mpr kind_eq.symm
def sp_told_field (CC CS : Addr) : Sp := fun vs H Q _ => ∃ B H0 s lst D a b, vs = [.ref (B .store), .int a, .int b] ∧ RepA CC CS B H0 H s lst D ∧ s.vars.length = 16 ∧ okPair (a, b) = true ∧ Q (vV (adB B) (fieldOf s (a, b))) H
def sp_told_fields (CC CS : Addr) : Sp := fun vs H Q _ => ∃ B H0 s lst D rl ps, vs = [.ref (B .store), .ref rl] ∧ H0 rl = some (.lst ((flat ps).map V.int)) ∧ RepA CC CS B H0 H s lst D ∧ s.vars.length = 16 ∧ ps.length ≤ 6 ∧ ps.all okPair = true ∧
  ∀ H' p, H0 p = none → RepA CC CS B (upd H0 p (.lst ((ps.map (fieldOf s)).map (vV (adB B))))) H' s lst D → Q (.ref p) H'
def sp_field_refusal (CC CS : Addr) : Sp := fun vs H Q _ => ∃ B H0 s lst D v i, vs = [vV (adB B) v, .int i] ∧ RepA CC CS B H0 H s lst D ∧ AliveV s v ∧ (∀ c, cellV s v = some c → c.fields.length ≤ 6) ∧ Q (.int (refN s v i)) H
section
variable {P : Program} {w : World} {K : PySem.W.Frag} {mg : Str → Option Value} {base : Heap} {CC CS : Addr}
theorem var_get {s : Sta} {ad : Nat → Addr} (h16 : s.vars.length = 16) {z : Int} (h : isVar z = true) : atI (s.vars.map (vV ad)) z = some (vV ad (s.var z.toNat)) := by
  obtain ⟨h0, h1⟩ := isVar_iff.mp h
  refine at_of (j := z.toNat) (by omega) ?_
  rw [List.getElem?_map]
  have hlt : z.toNat < s.vars.length := by omega
  rw [List.getElem?_eq_getElem hlt]
  unfold Kg93.State.var
  rw [List.getD_eq_getElem?_getD, List.getElem?_eq_getElem hlt]
  rfl
theorem cal_told_field (F : Def K mg "told_field" s_told_field ["store", "way", "number"]) (T : TxtS K mg CC CS) : Cal P w K mg base 1 "told_field" (sp_told_field CC CS) := by
  refine F.cal sc_told_field (fun vs H Q E h => ?_) (fun f cdv A outer sh H vs Q E hr h => ?_)
  · obtain ⟨B, H0, s, lst, D, a, b, rfl, _⟩ := h
    rfl
  · obtain ⟨B, H0, s, lst, D, a, b, rfl, R, h16, hok, k⟩ := h
    refine ⟨_, (pss_one (ps_ret (pe_ifExp (pt_cmpR op_eq (pv 1) pe_int (nomark _)) (pv 2) (pe_ix ix_list (pe_fld (pv 0) rfl) (pv 2) (fun _ _ => rfl))))), ?_⟩
    obtain ⟨dx, sw, hsw, hst⟩ := R.store
    refine ⟨_, rfl, rfl, _, rfl, ?_⟩
    refine ite2 (fun q => ?_) (fun q => ?_)
    · have e : a = 0 := by have := of_decide_eq_true q; injection this
      have ef : fieldOf s (a, b) = .num b := if_pos e
      rw [ef] at k
      exact ⟨_, rfl, k⟩
    · have e : a ≠ 0 := fun z => q (decide_eq_true (by rw [z]))
      have ef : fieldOf s (a, b) = s.var b.toNat := if_neg e
      have hv : isVar b = true := by
        have h2 : okPair (a, b) = (decide (a = 1) && isVar b) := if_neg e
        rw [h2, Bool.and_eq_true] at hok
        exact hok.2
      rw [ef] at k
      exact ⟨_, rfl, B .store, CS, dx, _, _, rfl, hst, T.cS, T.m_variables, sf_variables, _, rfl, B .vars, _, _, _, rfl, rfl, SqL.of R.vars, var_get h16 hv, k⟩
theorem cal_told_fields (F : Def K mg "told_fields" s_told_fields ["store", "row"]) (T : TxtS K mg CC CS) (c_told_field : Cal P w K mg base 1 "told_field" (sp_told_field CC CS)) : Cal P w K mg base 2 "told_fields" (sp_told_fields CC CS) := by
  refine F.cal sc_told_fields (fun vs H Q E h => ?_) (fun f cdv A outer sh H vs Q E hr h => ?_)
  · obtain ⟨B, H0, s, lst, D, rl, ps, rfl, _⟩ := h
    rfl
  · obtain ⟨B, H0, s, lst, D, rl, ps, rfl, hrl, R, h16, h6, hall, cont⟩ := h
    refine ⟨_, (pss_one (ps_ret (pe_lc (own := [("at", 2)]) (g := gName 2) (tt := tYes) (te := (tCall _ [] E0 (tCons (tVar 0) (tCons (tOp (rIxL K) (tVar 1) (tVar 2)) (tCons (tOp (rIxL K) (tVar 1) (tOp _ (tVar 2) (tC _))) tNil))))) rfl sc_told_fields.nd (pi_range3 (by rfl) T.b_range (pa_cons pe_int (pa_cons (pe_callB call_len_seq (by rfl) T.b_len PySem.boot_len (pa_cons (pv 1) pa_nil)) (pa_cons pe_int pa_nil)))) (blkOk_by (own := [("at", 2)]) (N := ["store", "row", "at"]) (sc := defScope s_told_fields) (by decide +kernel)) (fun _ _ _ _ _ => pg_name (i := 2) sc_told_fields.nd rfl (Or.inl rfl)) (fun _ _ _ _ _ => pts_nil) (fun _ _ _ _ _ => (C8.pe_c c_told_field hr (by decide) rfl (pa_cons (pv 0) (pa_cons (pe_ix ix_list (pv 1) (pv 2) (fun _ _ => rfl)) (pa_cons (pe_ix ix_list (pv 1) (pe_op op_add (pv 2) pe_int) (fun _ _ => rfl)) pa_nil)))))))), ?_⟩
    have hrlH : H rl = some (.lst ((flat ps).map V.int)) := R.same rl _ hrl
    refine ⟨_, rfl, rl, _, rfl, .inl (SqL.of hrlH), 0, _, 2, ps.length, rfl, ?_, fun p hp => ?_⟩
    · have := rg_two (n := ps.length) (by omega)
      rw [List.length_map, flat_len]
      exact this
    refine lc_two ps R hp (fun q => vV (adB B) (fieldOf s q)) (Nat.lt_of_le_of_lt (by omega : ps.length ≤ 1000) (by decide)) ?_ ?_ gName_mono
    · intro i y hy o H' R' Y hY
      obtain ⟨g1, g2⟩ := flat_get ps i y hy
      have hrl' : H' rl = some (.lst ((flat ps).map V.int)) := R'.same rl _ (by rw [upd_ne (ne_of_none hrlH hp)]; exact hrl)
      have a1 : atI ((flat ps).map V.int) (0 + ((i : Nat) : Int) * 2) = some (.int y.1) := at_of (j := 2 * i) (by omega) (by rw [List.getElem?_map, g1]; rfl)
      have a2 : atI ((flat ps).map V.int) (0 + ((i : Nat) : Int) * 2 + 1) = some (.int y.2) := at_of (j := 2 * i + 1) (by omega) (by rw [List.getElem?_map, g2]; rfl)
      have hyo : okPair y = true := List.all_eq_true.mp hall y (List.mem_of_getElem? hy)
      exact ⟨rfl, _, rfl, _, rfl, _, rfl, rl, _, _, _, rfl, rfl, SqL.of hrl', a1, _, rfl, _, rfl, _, _, rfl, rfl, rl, _, _, _, rfl, rfl, SqL.of hrl', a2, B, _, s, lst, D, y.1, y.2, rfl, R', h16, hyo, hY⟩
    · intro H1 R1
      refine cont H1 p (R.same.free hp) ?_
      rw [List.map_map]
      exact R1
theorem cal_field_refusal (F : Def K mg "field_refusal" s_field_refusal ["held", "i"]) (T : TxtS K mg CC CS) (c_is_cell_of : Cal P w K mg base 2 "is_cell_of" (sp_is_cell_of CC)) : Cal P w K mg base 3 "field_refusal" (sp_field_refusal CC CS) := by
  refine F.cal sc_field_refusal (fun vs H Q E h => ?_) (fun f cdv A outer sh H vs Q E hr h => ?_)
  · obtain ⟨B, H0, s, lst, D, v, i, rfl, _⟩ := h
    rfl
  · obtain ⟨B, H0, s, lst, D, v, i, rfl, R, hal, h6, k⟩ := h
    refine ⟨_, (pss_cons (ps_if (pt_not (pt_val (C8.pe_c c_is_cell_of hr (by decide) rfl (pa_cons (C8.pe_gc rfl T.k_PLAIN) (pa_cons (pv 0) pa_nil))))) (pss_one (ps_ret (C8.pe_gc rfl T.k_NO_SUCH_CELL))) pss_nil) (pss_cons (ps_if (pt_not (pt_chain op_le op_lt pe_int (pv 1) (pe_callB call_len_seq (by rfl) T.b_len PySem.boot_len (pa_cons (pe_fld (pv 0) rfl) pa_nil)))) (pss_one (ps_ret (C8.pe_gc rfl T.k_NO_SUCH_FIELD))) pss_nil) (pss_one (ps_ret pe_int)))), ?_⟩
    have hk := R.isKV .plain hal
    unfold refN at k
    refine ⟨_, rfl, 0, _, _, rfl, hk, _, rfl, ?_⟩
    cases hc : cellV s v with
    | none =>
      rw [hc] at k
      exact iteT k
    | some c =>
      rw [hc] at k
      have k1 : Q (.int (if c.kind = .plain then (if 0 ≤ i ∧ i < c.fields.length then 0 else -4) else -3)) H := k
      by_cases hp : c.kind = .plain
      · rw [if_pos hp] at k1
        refine ite2 (fun q => ?_) (fun _ => ?_)
        · have q' : (!(decide (c.kind = .plain))) = true := q
          rw [decide_eq_true hp] at q'; cases q'
        obtain ⟨j, rfl⟩ : ∃ j, v = .cell j := by
          cases v with
          | none_ => cases hc
          | num z => cases hc
          | cell j => exact ⟨j, rfl⟩
        have hat : s.at_ j = some c := hc
        obtain ⟨dc, hcell⟩ := R.cell hat
        refine ⟨_, rfl, _, _, rfl, rfl, _, rfl, ?_⟩
        by_cases h0 : 0 ≤ i
        · refine ite2 (fun _ => ?_) (fun q => absurd (decide_eq_true h0) q)
          refine ⟨_, rfl, B (.cell j), CC, dc, _, _, rfl, hcell, T.isC.cl, T.n_fields, cf_fields, B (.flds j), _, rfl, .inl (SqL.of (R.flds hat)), _, _, rfl, rfl, _, rfl, ?_⟩
          by_cases h1 : i < c.fields.length
          · rw [if_pos ⟨h0, h1⟩] at k1
            refine ite2 (fun q => ?_) (fun _ => ?_)
            · have q' : (!decide (i < (((c.fields.map (vV (adB B))).length : Nat) : Int))) = true := q
              rw [List.length_map, decide_eq_true h1] at q'; cases q'
            · exact k1
          · rw [if_neg (fun z => h1 z.2)] at k1
            refine ite2 (fun _ => k1) (fun q => ?_)
            exfalso
            apply q
            show (!decide (i < (((c.fields.map (vV (adB B))).length : Nat) : Int))) = true
            rw [List.length_map, decide_eq_false h1]
            rfl
        · rw [if_neg (fun z => h0 z.1)] at k1
          refine ite2 (fun q => absurd (of_decide_eq_true q) h0) (fun _ => ?_)
          exact ⟨_, rfl, iteT k1⟩
      · rw [if_neg hp] at k1
        refine ite2 (fun _ => k1) (fun q => ?_)
        exfalso
        apply q
        show (!(decide (c.kind = .plain))) = true
        rw [decide_eq_false hp]
        rfl
end
end Gc
set_option Elab.async false
set_option maxRecDepth 100000
set_option maxHeartbeats 4000000
namespace Gc
open PySem PySem.Spec PyProof.Rows L2
abbrev s_call_cell : Stmt := top 78
theorem sc_call_cell : FnScope ["store", "numbers", "row"] ["store", "numbers"] (defScope s_call_cell) := ⟨rfl, rfl, rfl, by decide +kernel, rfl, by decide +kernel, by decide +kernel⟩
abbrev s_call_num : Stmt := top 79
theorem sc_call_num : FnScope ["store", "numbers"] ["store", "numbers"] (defScope s_call_num) := ⟨rfl, rfl, rfl, by decide +kernel, rfl, by decide +kernel, by decide +kernel⟩
abbrev s_call_move : Stmt := top 80
theorem sc_call_move : FnScope ["store", "numbers"] ["store", "numbers"] (defScope s_call_move) := ⟨rfl, rfl, rfl, by decide +kernel, rfl, by decide +kernel, by decide +kernel⟩
abbrev s_call_clear : Stmt := top 81
theorem sc_call_clear : FnScope ["store", "numbers"] ["store", "numbers"] (defScope s_call_clear) := ⟨rfl, rfl, rfl, by decide +kernel, rfl, by decide +kernel, by decide +kernel⟩
abbrev s_call_get : Stmt := top 82
theorem sc_call_get : FnScope ["store", "numbers", "cell", "i", "refusal", "held"] ["store", "numbers"] (defScope s_call_get) := ⟨rfl, rfl, rfl, by decide +kernel, rfl, by decide +kernel, by decide +kernel⟩
abbrev s_call_set : Stmt := top 83
theorem sc_call_set : FnScope ["store", "numbers", "cell", "i", "refusal"] ["store", "numbers"] (defScope s_call_set) := ⟨rfl, rfl, rfl, by decide +kernel, rfl, by decide +kernel, by decide +kernel⟩
abbrev s_call_weak : Stmt := top 84
theorem sc_call_weak : FnScope ["store", "numbers", "target"] ["store", "numbers"] (defScope s_call_weak) := ⟨rfl, rfl, rfl, by decide +kernel, rfl, by decide +kernel, by decide +kernel⟩
abbrev s_call_held : Stmt := top 85
theorem sc_call_held : FnScope ["store", "numbers", "cell", "target"] ["store", "numbers"] (defScope s_call_held) := ⟨rfl, rfl, rfl, by decide +kernel, rfl, by decide +kernel, by decide +kernel⟩
abbrev s_call_keyed : Stmt := top 86
theorem sc_call_keyed : FnScope ["store", "numbers", "key"] ["store", "numbers"] (defScope s_call_keyed) := ⟨rfl, rfl, rfl, by decide +kernel, rfl, by decide +kernel, by decide +kernel⟩
/-! ### a call: its numbers, the specification's call, what is given back -/
def Ret (CC CS : Addr) (B : Role → Addr) (H0 : Hp) (Q : VK) (r : Sta × Kg93.Ans) : Prop :=
  ∀ H' B' D' p, B' .store = B .store → H0 p = none → Good r.1 D' → Wd r.1 → RepA CC CS B' (upd H0 p (.lst (ansV r.2))) H' r.1 (idsS r.1) D' → Q (.ref p) H'
def spC (CC CS : Addr) (cr : List Int → Kg93.Call → Prop) : Sp := fun vs H Q _ => ∃ (B : Role → Addr) (H0 : Hp) (s : Sta) (D : List Nat) (nl : Addr) (ns : List Int) (c : Kg93.Call), vs = [.ref (B .store), .ref nl] ∧ H0 nl = some (.lst (ns.map V.int)) ∧ RepA CC CS B H0 H s (idsS s) D ∧ Good s D ∧ Wd s ∧ s.made ≤ 900 ∧ cr ns c ∧ Ret CC CS B H0 Q (Kg93.spec s c)
def cNum (ns : List Int) (c : Kg93.Call) : Prop := ∃ v z, ns = [v, z] ∧ isVar v = true ∧ c = .num v z
def cMove (ns : List Int) (c : Kg93.Call) : Prop := ∃ v u, ns = [v, u] ∧ isVar v = true ∧ isVar u = true ∧ c = .move v u
def cClear (ns : List Int) (c : Kg93.Call) : Prop := ∃ v, ns = [v] ∧ isVar v = true ∧ c = .clear v
def cGet (ns : List Int) (c : Kg93.Call) : Prop := ∃ v u i, ns = [v, u, i] ∧ isVar v = true ∧ isVar u = true ∧ c = .get v u i
def cSet (ns : List Int) (c : Kg93.Call) : Prop := ∃ u i v, ns = [u, i, v] ∧ isVar u = true ∧ isVar v = true ∧ c = .set u i v
def cWeak (ns : List Int) (c : Kg93.Call) : Prop := ∃ v u, ns = [v, u] ∧ isVar v = true ∧ isVar u = true ∧ c = .weak v u
def cHeld (ns : List Int) (c : Kg93.Call) : Prop := ∃ v u, ns = [v, u] ∧ isVar v = true ∧ isVar u = true ∧ c = .held v u
def cKeyed (ns : List Int) (c : Kg93.Call) : Prop := ∃ v k x, ns = [v, k, x] ∧ isVar v = true ∧ isVar k = true ∧ isVar x = true ∧ c = .keyed v k x
def cCell (ns : List Int) (c : Kg93.Call) : Prop := ∃ v n row, ns = v :: n :: row ∧ isVar v = true ∧ row.length ≤ 100 ∧ c = .cell v row
theorem spC_len {CC CS : Addr} {cr : List Int → Kg93.Call → Prop} {vs : List V} {H : Hp} {Q : VK} {E : XK} (h : spC CC CS cr vs H Q E) : vs.length = 2 := by
  obtain ⟨B, H0, s, D, nl, ns, c, rfl, _⟩ := h
  rfl
section
variable {CC CS : Addr} {B : Role → Addr} {H0 H : Hp} {s : Sta} {D : List Nat} {Q : VK} {p : Addr}
/-- a list is given back, the state as it is now -/
theorem Ret.now {r : Sta × Kg93.Ans} (k : Ret CC CS B H0 Q r) {B' : Role → Addr} {D' : List Nat} (hs : B' .store = B .store) (R : RepA CC CS B' H0 H r.1 (idsS r.1) D') (g : Good r.1 D') (w : Wd r.1) (hp : H p = none) {l : List V} (hl : l = ansV r.2) : Q (.ref p) (upd H p (.lst l)) := by
  subst hl
  exact k _ B' D' p hs (R.same.free hp) g w (R.fresh hp)
theorem Good.aliveVar (g : Good s D) (u : Nat) : AliveV s (s.var u) := fun j e => by
  obtain ⟨c, a, b, _⟩ := g.var_safe e
  rw [← b, g.atc a]
  rfl
theorem var_mem {u i : Nat} (h : s.var u = .cell i) : Kg93.V.cell i ∈ s.vars := by
  unfold Kg93.State.var at h
  rw [List.getD_eq_getElem?_getD] at h
  cases e : s.vars[u]? with
  | none => rw [e] at h; cases h
  | some x =>
    rw [e] at h
    have h' : x = .cell i := h
    subst h'
    exact List.mem_of_getElem? e
theorem set_var_list {ad : Nat → Addr} (h16 : s.vars.length = 16) {z : Int} (h : isVar z = true) (x : Vl) : ixN (s.vars.map (vV ad)).length z = some z.toNat ∧ (s.vars.map (vV ad)).set z.toNat (vV ad x) = (s.vars.set z.toNat x).map (vV ad) := by
  obtain ⟨h0, h1⟩ := isVar_iff.mp h
  refine ⟨?_, List.map_set.symm⟩
  unfold ixN
  rw [List.length_map, if_pos h0, if_pos (by omega)]
end
section
variable {P : Program} {w : World} {K : PySem.W.Frag} {mg : Str → Option Value} {base : Heap} {CC CS : Addr}
theorem cal_call_num (F : Def K mg "call_num" s_call_num ["store", "numbers"]) (T : TxtS K mg CC CS) (c_may_be_held : Cal P w K mg base 1 "may_be_held" sp_may_be_held) : Cal P w K mg base 2 "call_num" (spC CC CS cNum) := by
  refine F.cal sc_call_num (fun vs H Q E h => spC_len h) (fun f cdv A outer sh H vs Q E hr h => ?_)
  obtain ⟨B, H0, s, D, nl, ns, c, rfl, hnl, R, g, wd, hm, ⟨v, z, rfl, hv, rfl⟩, ret⟩ := h
  refine ⟨_, (pss_cons (ps_if (pt_not (pt_val (C8.pe_c c_may_be_held hr (by decide) rfl (pa_cons (pe_ix ix_list (pv 1) pe_int (fun _ _ => rfl)) pa_nil)))) (pss_one (ps_ret (pe_lst (pa_cons (C8.pe_gc rfl T.k_NOT_AS_TOLD) pa_nil)))) pss_nil) (pss_cons (ps_asg (pe_ix ix_list (pv 1) pe_int (fun _ _ => rfl)) (pg_sub (pe_fld (pv 0) rfl) (pe_ix ix_list (pv 1) pe_int (fun _ _ => rfl)) set_list)) (pss_one (ps_ret (pe_lst (pa_cons pe_int pa_nil)))))), ?_⟩
  have hnlH : H nl = some (.lst ([v, z].map V.int)) := R.same nl _ hnl
  refine ⟨_, rfl, nl, _, _, _, rfl, rfl, SqL.of hnlH, rfl, z, rfl, _, rfl, ?_⟩
  have es : Kg93.spec s (.num v z) = if Kg93.small z = false then (s, Kg93.num (-1)) else (s.setVar v.toNat (.num z), Kg93.num 0) := by
    show (match Kg93.var? v with | some v => if Kg93.small z = false then (s, Kg93.num (-1)) else (s.setVar v (.num z), Kg93.num 0) | none => (s, Kg93.num (-1))) = _
    rw [var_some hv]
  rw [es] at ret
  cases hz : Kg93.small z with
  | false =>
    rw [hz, if_pos rfl] at ret
    refine iteT ⟨by show 1 ≤ 2 ^ 24; decide, fun p hp => ?_⟩
    exact ret.now rfl R g wd hp rfl
  | true =>
    rw [hz, if_neg (by simp)] at ret
    refine iteF ?_
    obtain ⟨dx, sw, hsw, hst⟩ := R.store
    obtain ⟨h1, h2⟩ := set_var_list (ad := adB B) g.v16 hv (.num z)
    refine ⟨_, rfl, nl, _, _, _, rfl, rfl, SqL.of hnlH, rfl, _, rfl, B .store, CS, dx, _, _, rfl, hst, T.cS, T.m_variables, sf_variables, _, rfl, nl, _, _, _, rfl, rfl, SqL.of hnlH, rfl, B .vars, _, _, v.toNat, rfl, rfl, R.vars, h1, ?_⟩
    have R1 := R.setVar v.toNat (.num z)
    rw [← h2] at R1
    refine ⟨by show 1 ≤ 2 ^ 24; decide, fun p hp => ?_⟩
    exact ret.now rfl R1 (g.setVar (fun i e => by cases e)) wd hp rfl
theorem cal_call_move (F : Def K mg "call_move" s_call_move ["store", "numbers"]) (T : TxtS K mg CC CS) : Cal P w K mg base 1 "call_move" (spC CC CS cMove) := by
  refine F.cal sc_call_move (fun vs H Q E h => spC_len h) (fun f cdv A outer sh H vs Q E hr h => ?_)
  obtain ⟨B, H0, s, D, nl, ns, c, rfl, hnl, R, g, wd, hm, ⟨v, u, rfl, hv, hu, rfl⟩, ret⟩ := h
  refine ⟨_, (pss_cons (ps_asg (pe_ix ix_list (pe_fld (pv 0) rfl) (pe_ix ix_list (pv 1) pe_int (fun _ _ => rfl)) (fun _ _ => rfl)) (pg_sub (pe_fld (pv 0) rfl) (pe_ix ix_list (pv 1) pe_int (fun _ _ => rfl)) set_list)) (pss_one (ps_ret (pe_lst (pa_cons pe_int pa_nil))))), ?_⟩
  have hnlH : H nl = some (.lst ([v, u].map V.int)) := R.same nl _ hnl
  have es : Kg93.spec s (.move v u) = (s.setVar v.toNat (s.var u.toNat), Kg93.num 0) := by
    show (match Kg93.var? v, Kg93.var? u with | some v, some u => (s.setVar v (s.var u), Kg93.num 0) | _, _ => (s, Kg93.num (-1))) = _
    rw [var_some hv, var_some hu]
  rw [es] at ret
  obtain ⟨dx, sw, hsw, hst⟩ := R.store
  obtain ⟨h1, h2⟩ := set_var_list (ad := adB B) g.v16 hv (s.var u.toNat)
  refine ⟨_, rfl, B .store, CS, dx, _, _, rfl, hst, T.cS, T.m_variables, sf_variables, _, rfl, nl, _, _, _, rfl, rfl, SqL.of hnlH, rfl, B .vars, _, _, _, rfl, rfl, SqL.of R.vars, var_get g.v16 hu, ?_⟩
  refine ⟨_, rfl, B .store, CS, dx, _, _, rfl, hst, T.cS, T.m_variables, sf_variables, _, rfl, nl, _, _, _, rfl, rfl, SqL.of hnlH, rfl, B .vars, _, _, v.toNat, rfl, rfl, R.vars, h1, ?_⟩
  have R1 := R.setVar v.toNat (s.var u.toNat)
  rw [← h2] at R1
  refine ⟨by show 1 ≤ 2 ^ 24; decide, fun p hp => ?_⟩
  exact ret.now rfl R1 (g.setVar (fun i e => g.var_safe e)) wd hp rfl
theorem cal_call_clear (F : Def K mg "call_clear" s_call_clear ["store", "numbers"]) (T : TxtS K mg CC CS) : Cal P w K mg base 1 "call_clear" (spC CC CS cClear) := by
  refine F.cal sc_call_clear (fun vs H Q E h => spC_len h) (fun f cdv A outer sh H vs Q E hr h => ?_)
  obtain ⟨B, H0, s, D, nl, ns, c, rfl, hnl, R, g, wd, hm, ⟨v, rfl, hv, rfl⟩, ret⟩ := h
  refine ⟨_, (pss_cons (ps_asg pe_non (pg_sub (pe_fld (pv 0) rfl) (pe_ix ix_list (pv 1) pe_int (fun _ _ => rfl)) set_list)) (pss_one (ps_ret (pe_lst (pa_cons pe_int pa_nil))))), ?_⟩
  have hnlH : H nl = some (.lst ([v].map V.int)) := R.same nl _ hnl
  have es : Kg93.spec s (.clear v) = (s.setVar v.toNat .none_, Kg93.num 0) := by
    show (match Kg93.var? v with | some v => (s.setVar v .none_, Kg93.num 0) | none => (s, Kg93.num (-1))) = _
    rw [var_some hv]
  rw [es] at ret
  obtain ⟨dx, sw, hsw, hst⟩ := R.store
  obtain ⟨h1, h2⟩ := set_var_list (ad := adB B) g.v16 hv .none_
  refine ⟨_, rfl, B .store, CS, dx, _, _, rfl, hst, T.cS, T.m_variables, sf_variables, _, rfl, nl, _, _, _, rfl, rfl, SqL.of hnlH, rfl, B .vars, _, _, v.toNat, rfl, rfl, R.vars, h1, ?_⟩
  have R1 := R.setVar v.toNat .none_
  rw [← h2] at R1
  refine ⟨by show 1 ≤ 2 ^ 24; decide, fun p hp => ?_⟩
  exact ret.now rfl R1 (g.setVar (fun i e => by cases e)) wd hp rfl
end
end Gc
set_option Elab.async false
set_option maxRecDepth 100000
set_option maxHeartbeats 4000000
namespace Gc
open PySem PySem.Spec PyProof.Rows L2
theorem Wd.write {s : Sta} (h : Wd s) (c : Cl) (i : Nat) (x : Vl) : Wd (s.write c i x) := by
  unfold Wd at h ⊢
  rw [write_eq]
  show s.words.length + (s.cells.map _).length ≤ s.made
  rw [List.length_map]
  exact h
def getAns : Vl → Kg93.Ans
  | .num z => ⟨0, [z]⟩
  | .cell _ => Kg93.num 1
  | .none_ => Kg93.num 2
section
variable {P : Program} {w : World} {K : PySem.W.Frag} {mg : Str → Option Value} {base : Heap} {CC CS : Addr}
theorem cal_call_get (F : Def K mg "call_get" s_call_get ["store", "numbers"]) (T : TxtS K mg CC CS) (c_field_refusal : Cal P w K mg base 3 "field_refusal" (sp_field_refusal CC CS)) (c_is_cell : Cal P w K mg base 1 "is_cell" (sp_is_cell CC)) : Cal P w K mg base 4 "call_get" (spC CC CS cGet) := by
  refine F.cal sc_call_get (fun vs H Q E h => spC_len h) (fun f cdv A outer sh H vs Q E hr h => ?_)
  obtain ⟨B, H0, s, D, nl, ns, c, rfl, hnl, R, g, wd, hm, ⟨v, u, i, rfl, hv, hu, rfl⟩, ret⟩ := h
  refine ⟨_, (pss_cons (ps_set (i := 2) sc_call_get.nd rfl (Or.inl rfl) (pe_ix ix_list (pe_fld (pv 0) rfl) (pe_ix ix_list (pv 1) pe_int (fun _ _ => rfl)) (fun _ _ => rfl))) (pss_cons (ps_set (i := 3) sc_call_get.nd rfl (Or.inl rfl) (pe_ix ix_list (pv 1) pe_int (fun _ _ => rfl))) (pss_cons (ps_set (i := 4) sc_call_get.nd rfl (Or.inl rfl) (C8.pe_c c_field_refusal hr (by decide) rfl (pa_cons (pv 2) (pa_cons (pv 3) pa_nil)))) (pss_cons (ps_if (pt_cmpR op_lt (pv 4) pe_int (nomark _)) (pss_one (ps_ret (pe_lst (pa_cons (pv 4) pa_nil)))) pss_nil) (pss_cons (ps_set (i := 5) sc_call_get.nd rfl (Or.inl rfl) (pe_ix ix_list (pe_fld (pv 2) rfl) (pv 3) (fun _ _ => rfl))) (pss_cons (ps_asg (pv 5) (pg_sub (pe_fld (pv 0) rfl) (pe_ix ix_list (pv 1) pe_int (fun _ _ => rfl)) set_list)) (pss_cons (ps_if (pt_cmpR op_isN (pv 5) pe_non (nomark _)) (pss_one (ps_ret (pe_lst (pa_cons pe_int pa_nil)))) pss_nil) (pss_one (ps_ret (pe_ifExp (pt_val (C8.pe_c c_is_cell hr (by decide) rfl (pa_cons (pv 5) pa_nil))) (pe_lst (pa_cons pe_int pa_nil)) (pe_lst (pa_cons pe_int (pa_cons (pv 5) pa_nil))))))))))))), ?_⟩
  have hnlH : H nl = some (.lst ([v, u, i].map V.int)) := R.same nl _ hnl
  obtain ⟨dx, sw, hsw, hst⟩ := R.store
  have hal := g.aliveVar u.toNat
  have h6 : ∀ c, cellV s (s.var u.toNat) = some c → c.fields.length ≤ 6 := by
    intro c hc
    rw [← of_eq] at hc
    exact g.six (g.of_some hc).1
  -- cell = store.variables[numbers[1]]; i = numbers[2]; refusal = field_refusal(cell, i)
  refine ⟨_, rfl, B .store, CS, dx, _, _, rfl, hst, T.cS, T.m_variables, sf_variables, _, rfl, nl, _, _, _, rfl, rfl, SqL.of hnlH, rfl, B .vars, _, _, _, rfl, rfl, SqL.of R.vars, var_get g.v16 hu, ?_⟩
  refine ⟨_, rfl, nl, _, _, _, rfl, rfl, SqL.of hnlH, rfl, ?_⟩
  refine ⟨_, rfl, _, rfl, B, H0, s, _, D, s.var u.toNat, i, rfl, R, hal, h6, ?_⟩
  refine ⟨_, rfl, _, _, rfl, rfl, _, rfl, ?_⟩
  have es : Kg93.spec s (.get v u i) = (match cellV s (s.var u.toNat) with
      | some c => if c.kind ≠ .plain then (s, Kg93.num (-3)) else if i < 0 then (s, Kg93.num (-4)) else match c.fields[i.toNat]? with
        | none => (s, Kg93.num (-4))
        | some x => (s.setVar v.toNat x, getAns x)
      | none => (s, Kg93.num (-3))) := by
    rw [← of_eq]
    show (match Kg93.var? v, Kg93.var? u with | some v, some u => _ | _, _ => _) = _
    rw [var_some hv, var_some hu]
    rfl
  rw [es] at ret
  unfold refN
  cases hc : cellV s (s.var u.toNat) with
  | none =>
    rw [hc] at ret
    refine ite2 (fun _ => ?_) (fun q => absurd (decide_eq_true (show (-3 : Int) < 0 by decide)) q)
    exact ⟨_, rfl, by show 1 ≤ 2 ^ 24; decide, fun p hp => ret.now rfl R g wd hp rfl⟩
  | some c =>
    rw [hc] at ret
    obtain ⟨hcm, hsafe, hvar⟩ := g.of_some ((of_eq s u.toNat).trans hc)
    have ret1 : Ret CC CS B H0 Q (if c.kind ≠ .plain then (s, Kg93.num (-3)) else if i < 0 then (s, Kg93.num (-4)) else match c.fields[i.toNat]? with
        | none => (s, Kg93.num (-4))
        | some x => (s.setVar v.toNat x, getAns x)) := ret
    by_cases hp : c.kind = .plain
    · rw [if_neg (by simp [hp])] at ret1
      by_cases hi : 0 ≤ i ∧ i < c.fields.length
      · rw [if_neg (by omega)] at ret1
        have hlt : i.toNat < c.fields.length := by omega
        obtain ⟨x, hx⟩ : ∃ x, c.fields[i.toNat]? = some x := ⟨_, List.getElem?_eq_getElem hlt⟩
        rw [hx] at ret1
        have hxm : x ∈ c.fields := List.mem_of_getElem? hx
        have ret2 : Ret CC CS B H0 Q (s.setVar v.toNat x, getAns x) := ret1
        refine ite2 (fun q => ?_) (fun _ => ?_)
        · have q' : decide ((if c.kind = .plain then (if 0 ≤ i ∧ i < c.fields.length then (0 : Int) else -4) else -3) < 0) = true := q
          rw [if_pos hp, if_pos hi] at q'
          exact absurd (of_decide_eq_true q') (by decide)
        have hat : s.at_ c.id = some c := g.atc hcm
        obtain ⟨dc, hcell⟩ := R.cell hat
        have ex : atI (c.fields.map (vV (adB B))) i = some (vV (adB B) x) := at_of (j := i.toNat) (by omega) (by rw [List.getElem?_map, hx]; rfl)
        obtain ⟨h1, h2⟩ := set_var_list (ad := adB B) g.v16 hv x
        -- held = cell.fields[i]
        have eslot : (vV (adB B) (s.var u.toNat)) = V.ref (B (.cell c.id)) := by rw [hvar]; rfl
        refine ⟨_, rfl, B (.cell c.id), CC, dc, _, _, eslot, hcell, T.isC.cl, T.n_fields, cf_fields, _, rfl, B (.flds c.id), _, _, _, rfl, rfl, SqL.of (R.flds hat), ex, ?_⟩
        -- store.variables[numbers[0]] = held
        refine ⟨_, rfl, _, rfl, B .store, CS, dx, _, _, rfl, hst, T.cS, T.m_variables, sf_variables, _, rfl, nl, _, _, _, rfl, rfl, SqL.of hnlH, rfl, B .vars, _, _, v.toNat, rfl, rfl, R.vars, h1, ?_⟩
        have R1 := R.setVar v.toNat x
        rw [← h2] at R1
        have hsx : ∀ j, x = .cell j → SafeId s j := fun j e => g.flds c hcm hsafe j (e ▸ hxm)
        have g1 : Good (s.setVar v.toNat x) D := g.setVar hsx
        -- if held is None: return [2]
        refine ⟨_, rfl, rfl, _, rfl, ?_⟩
        cases x with
        | none_ => exact iteT ⟨by show 1 ≤ 2 ^ 24; decide, fun p hp => ret2.now rfl R1 g1 wd hp rfl⟩
        | num z =>
          refine iteF ?_
          refine ⟨_, rfl, _, _, rfl, R1.isC (v := .num z) (fun j e => by cases e), _, rfl, ?_⟩
          refine iteF ⟨_, rfl, by show 2 ≤ 2 ^ 24; decide, fun p hp => ret2.now rfl R1 g1 wd hp rfl⟩
        | cell j =>
          refine iteF ?_
          have hok : HeldOk (s.setVar v.toNat (.cell j)) D (.cell j) := g.heldFld hcm hxm
          refine ⟨_, rfl, _, _, rfl, R1.isC hok, _, rfl, ?_⟩
          exact iteT ⟨by show 1 ≤ 2 ^ 24; decide, fun p hp => ret2.now rfl R1 g1 wd hp rfl⟩
      · have e4 : Ret CC CS B H0 Q (s, Kg93.num (-4)) := by
          by_cases h0 : i < 0
          · rw [if_pos h0] at ret1; exact ret1
          · rw [if_neg h0, List.getElem?_eq_none_iff.mpr (by omega)] at ret1; exact ret1
        have en : (if c.kind = .plain then (if 0 ≤ i ∧ i < c.fields.length then (0 : Int) else -4) else -3) = -4 := by rw [if_pos hp, if_neg hi]
        refine ite2 (fun _ => ?_) (fun q => ?_)
        · refine ⟨_, rfl, by show 1 ≤ 2 ^ 24; decide, fun p hp => e4.now rfl R g wd hp ?_⟩
          show [V.int (if c.kind = .plain then (if 0 ≤ i ∧ i < c.fields.length then (0 : Int) else -4) else -3)] = _
          rw [en]
          rfl
        · exfalso
          apply q
          show decide ((if c.kind = .plain then (if 0 ≤ i ∧ i < c.fields.length then (0 : Int) else -4) else -3) < 0) = true
          rw [en]
          decide
    · rw [if_pos hp] at ret1
      have en : (if c.kind = .plain then (if 0 ≤ i ∧ i < c.fields.length then (0 : Int) else -4) else -3) = -3 := if_neg hp
      refine ite2 (fun _ => ?_) (fun q => ?_)
      · refine ⟨_, rfl, by show 1 ≤ 2 ^ 24; decide, fun p hp => ret1.now rfl R g wd hp ?_⟩
        show [V.int (if c.kind = .plain then (if 0 ≤ i ∧ i < c.fields.length then (0 : Int) else -4) else -3)] = _
        rw [en]
        rfl
      · exfalso
        apply q
        show decide ((if c.kind = .plain then (if 0 ≤ i ∧ i < c.fields.length then (0 : Int) else -4) else -3) < 0) = true
        rw [en]
        decide
theorem cal_call_set (F : Def K mg "call_set" s_call_set ["store", "numbers"]) (T : TxtS K mg CC CS) (c_field_refusal : Cal P w K mg base 3 "field_refusal" (sp_field_refusal CC CS)) (c_write_field : Cal P w K mg base 3 "write_field" (sp_write_field CC CS)) : Cal P w K mg base 4 "call_set" (spC CC CS cSet) := by
  refine F.cal sc_call_set (fun vs H Q E h => spC_len h) (fun f cdv A outer sh H vs Q E hr h => ?_)
  obtain ⟨B, H0, s, D, nl, ns, c, rfl, hnl, R, g, wd, hm, ⟨u, i, v, rfl, hu, hv, rfl⟩, ret⟩ := h
  refine ⟨_, (pss_cons (ps_set (i := 2) sc_call_set.nd rfl (Or.inl rfl) (pe_ix ix_list (pe_fld (pv 0) rfl) (pe_ix ix_list (pv 1) pe_int (fun _ _ => rfl)) (fun _ _ => rfl))) (pss_cons (ps_set (i := 3) sc_call_set.nd rfl (Or.inl rfl) (pe_ix ix_list (pv 1) pe_int (fun _ _ => rfl))) (pss_cons (ps_set (i := 4) sc_call_set.nd rfl (Or.inl rfl) (C8.pe_c c_field_refusal hr (by decide) rfl (pa_cons (pv 2) (pa_cons (pv 3) pa_nil)))) (pss_cons (ps_if (pt_cmpR op_lt (pv 4) pe_int (nomark _)) (pss_one (ps_ret (pe_lst (pa_cons (pv 4) pa_nil)))) pss_nil) (pss_cons (ps_expr (C8.pe_c c_write_field hr (by decide) rfl (pa_cons (pv 0) (pa_cons (pv 2) (pa_cons (pv 3) (pa_cons (pe_ix ix_list (pe_fld (pv 0) rfl) (pe_ix ix_list (pv 1) pe_int (fun _ _ => rfl)) (fun _ _ => rfl)) pa_nil)))))) (pss_one (ps_ret (pe_lst (pa_cons pe_int pa_nil))))))))), ?_⟩
  have hnlH : H nl = some (.lst ([u, i, v].map V.int)) := R.same nl _ hnl
  obtain ⟨dx, sw, hsw, hst⟩ := R.store
  have hal := g.aliveVar u.toNat
  have h6 : ∀ c, cellV s (s.var u.toNat) = some c → c.fields.length ≤ 6 := by
    intro c hc
    rw [← of_eq] at hc
    exact g.six (g.of_some hc).1
  refine ⟨_, rfl, B .store, CS, dx, _, _, rfl, hst, T.cS, T.m_variables, sf_variables, _, rfl, nl, _, _, _, rfl, rfl, SqL.of hnlH, rfl, B .vars, _, _, _, rfl, rfl, SqL.of R.vars, var_get g.v16 hu, ?_⟩
  refine ⟨_, rfl, nl, _, _, _, rfl, rfl, SqL.of hnlH, rfl, ?_⟩
  refine ⟨_, rfl, _, rfl, B, H0, s, _, D, s.var u.toNat, i, rfl, R, hal, h6, ?_⟩
  refine ⟨_, rfl, _, _, rfl, rfl, _, rfl, ?_⟩
  have es : Kg93.spec s (.set u i v) = (match cellV s (s.var u.toNat) with
      | some c => if c.kind ≠ .plain then (s, Kg93.num (-3)) else if i < 0 ∨ (c.fields.length : Int) ≤ i then (s, Kg93.num (-4)) else (s.write c i.toNat (s.var v.toNat), Kg93.num 0)
      | none => (s, Kg93.num (-3))) := by
    rw [← of_eq]
    show (match Kg93.var? u, Kg93.var? v with | some u, some v => _ | _, _ => _) = _
    rw [var_some hv, var_some hu]
    rfl
  rw [es] at ret
  unfold refN
  cases hc : cellV s (s.var u.toNat) with
  | none =>
    rw [hc] at ret
    refine ite2 (fun _ => ?_) (fun q => absurd (decide_eq_true (show (-3 : Int) < 0 by decide)) q)
    exact ⟨_, rfl, by show 1 ≤ 2 ^ 24; decide, fun p hp => ret.now rfl R g wd hp rfl⟩
  | some c =>
    rw [hc] at ret
    obtain ⟨hcm, hsafe, hvar⟩ := g.of_some ((of_eq s u.toNat).trans hc)
    have ret1 : Ret CC CS B H0 Q (if c.kind ≠ .plain then (s, Kg93.num (-3)) else if i < 0 ∨ (c.fields.length : Int) ≤ i then (s, Kg93.num (-4)) else (s.write c i.toNat (s.var v.toNat), Kg93.num 0)) := ret
    by_cases hp : c.kind = .plain
    · rw [if_neg (by simp [hp])] at ret1
      by_cases hi : 0 ≤ i ∧ i < c.fields.length
      · rw [if_neg (by omega)] at ret1
        have hlt : i.toNat < c.fields.length := by omega
        refine ite2 (fun q => ?_) (fun _ => ?_)
        · have q' : decide ((if c.kind = .plain then (if 0 ≤ i ∧ i < c.fields.length then (0 : Int) else -4) else -3) < 0) = true := q
          rw [if_pos hp, if_pos hi] at q'
          exact absurd (of_decide_eq_true q') (by decide)
        have hei : i = (i.toNat : Int) := by omega
        refine ⟨_, rfl, _, rfl, _, rfl, _, rfl, B .store, CS, dx, _, _, rfl, hst, T.cS, T.m_variables, sf_variables, _, rfl, nl, _, _, _, rfl, rfl, SqL.of hnlH, rfl, B .vars, _, _, _, rfl, rfl, SqL.of R.vars, var_get g.v16 hv, ?_⟩
        refine ⟨B, H0, s, D, c, i.toNat, s.var v.toNat, ?_, R, g, hcm, hlt, g.aliveVar v.toNat, fun H1 R1 => ?_⟩
        · show [V.ref (B .store), vV (adB B) (s.var u.toNat), V.int i, vV (adB B) (s.var v.toNat)] = _
          rw [hvar, ← hei]
          rfl
        · refine ⟨by show 1 ≤ 2 ^ 24; decide, fun p hp2 => ret1.now rfl ?_ (g.write hcm hsafe hp (fun j e => g.var_safe e)) (wd.write c i.toNat _) hp2 rfl⟩
          show RepA CC CS B H0 H1 (s.write c i.toNat (s.var v.toNat)) (idsS (s.write c i.toNat (s.var v.toNat))) D
          rw [write_ids]
          exact R1
      · rw [if_pos (by omega)] at ret1
        have en : (if c.kind = .plain then (if 0 ≤ i ∧ i < c.fields.length then (0 : Int) else -4) else -3) = -4 := by rw [if_pos hp, if_neg hi]
        refine ite2 (fun _ => ?_) (fun q => ?_)
        · refine ⟨_, rfl, by show 1 ≤ 2 ^ 24; decide, fun p hp => ret1.now rfl R g wd hp ?_⟩
          show [V.int (if c.kind = .plain then (if 0 ≤ i ∧ i < c.fields.length then (0 : Int) else -4) else -3)] = _
          rw [en]
          rfl
        · exfalso
          apply q
          show decide ((if c.kind = .plain then (if 0 ≤ i ∧ i < c.fields.length then (0 : Int) else -4) else -3) < 0) = true
          rw [en]
          decide
    · rw [if_pos hp] at ret1
      have en : (if c.kind = .plain then (if 0 ≤ i ∧ i < c.fields.length then (0 : Int) else -4) else -3) = -3 := if_neg hp
      refine ite2 (fun _ => ?_) (fun q => ?_)
      · refine ⟨_, rfl, by show 1 ≤ 2 ^ 24; decide, fun p hp => ret1.now rfl R g wd hp ?_⟩
        show [V.int (if c.kind = .plain then (if 0 ≤ i ∧ i < c.fields.length then (0 : Int) else -4) else -3)] = _
        rw [en]
        rfl
      · exfalso
        apply q
        show decide ((if c.kind = .plain then (if 0 ≤ i ∧ i < c.fields.length then (0 : Int) else -4) else -3) < 0) = true
        rw [en]
        decide
end
end Gc
set_option Elab.async false
set_option maxRecDepth 100000
set_option maxHeartbeats 4000000
namespace Gc
open PySem PySem.Spec PyProof.Rows L2
theorem isNone_eq {s : Sta} {D : List Nat} (g : Good s D) (u : Nat) : (s.of u).isNone = !isCellB (s.var u) := by
  rw [of_eq]
  cases e : s.var u with
  | none_ => rfl
  | num z => rfl
  | cell j =>
    obtain ⟨c, hc⟩ := Option.isSome_iff_exists.mp (g.aliveVar u j e)
    show (s.at_ j).isNone = false
    rw [hc]
    rfl
theorem isCell_some {s : Sta} {D : List Nat} (g : Good s D) {u : Nat} (h : isCellB (s.var u) = true) : ∃ j, s.var u = .cell j := by
  cases e : s.var u with
  | none_ => rw [e] at h; cases h
  | num z => rw [e] at h; cases h
  | cell j => exact ⟨j, rfl⟩
theorem toNat_isVar {z : Int} (h : isVar z = true) : z = (z.toNat : Int) ∧ z.toNat < 16 := by
  obtain ⟨h0, h1⟩ := isVar_iff.mp h
  omega
/-- weaker outside: the list of the fields is the store's own now, the list of numbers stays -/
theorem Ret.pass {CC CS : Addr} {B : Role → Addr} {H0 : Hp} {Q : VK} {r : Sta × Kg93.Ans} (k : Ret CC CS B H0 Q r) {H1 : Hp} (hs : Same H0 H1) : ∀ H' B' p D', B' .store = B .store → H1 p = none → Good r.1 D' → Wd r.1 → RepA CC CS B' (upd H1 p (.lst (ansV r.2))) H' r.1 (idsS r.1) D' → Q (.ref p) H' := by
  intro H' B' p D' h1 h2 h3 h4 h5
  refine k H' B' D' p h1 (hs.free h2) h3 h4 (h5.weak ?_)
  intro b o e
  by_cases z : b = p
  · subst z
    rw [upd_same] at e ⊢
    exact e
  · rw [upd_ne z] at e ⊢
    exact hs b o e
section
variable {P : Program} {w : World} {K : PySem.W.Frag} {mg : Str → Option Value} {base : Heap} {CC CS : Addr}
theorem cal_call_weak (F : Def K mg "call_weak" s_call_weak ["store", "numbers"]) (T : TxtS K mg CC CS) (c_is_cell : Cal P w K mg base 1 "is_cell" (sp_is_cell CC)) (c_make_cell : Cal P w K mg base 8 "make_cell" (sp_make_cell CC CS)) : Cal P w K mg base 9 "call_weak" (spC CC CS cWeak) := by
  refine F.cal sc_call_weak (fun vs H Q E h => spC_len h) (fun f cdv A outer sh H vs Q E hr h => ?_)
  obtain ⟨B, H0, s, D, nl, ns, c, rfl, hnl, R, g, wd, hm, ⟨v, u, rfl, hv, hu, rfl⟩, ret⟩ := h
  refine ⟨_, (pss_cons (ps_set (i := 2) sc_call_weak.nd rfl (Or.inl rfl) (pe_ix ix_list (pe_fld (pv 0) rfl) (pe_ix ix_list (pv 1) pe_int (fun _ _ => rfl)) (fun _ _ => rfl))) (pss_cons (ps_if (pt_not (pt_val (C8.pe_c c_is_cell hr (by decide) rfl (pa_cons (pv 2) pa_nil)))) (pss_one (ps_ret (pe_lst (pa_cons (C8.pe_gc rfl T.k_NO_SUCH_CELL) pa_nil)))) pss_nil) (pss_one (ps_ret (C8.pe_c c_make_cell hr (by decide) rfl (pa_cons (pv 0) (pa_cons (pe_ix ix_list (pv 1) pe_int (fun _ _ => rfl)) (pa_cons (C8.pe_gc rfl T.k_WEAK) (pa_cons (pe_lst (pa_cons (pv 2) pa_nil)) pa_nil))))))))), ?_⟩
  have hnlH : H nl = some (.lst ([v, u].map V.int)) := R.same nl _ hnl
  obtain ⟨dx, sw, hsw, hst⟩ := R.store
  have es : Kg93.spec s (.weak v u) = if (s.of u.toNat).isNone = true then (s, Kg93.num (-3)) else Kg93.made s v.toNat .weak [s.var u.toNat] := by
    show (match Kg93.var? v, Kg93.var? u with | some v, some u => _ | _, _ => _) = _
    rw [var_some hv, var_some hu]
  rw [es, isNone_eq g] at ret
  refine ⟨_, rfl, B .store, CS, dx, _, _, rfl, hst, T.cS, T.m_variables, sf_variables, _, rfl, nl, _, _, _, rfl, rfl, SqL.of hnlH, rfl, B .vars, _, _, _, rfl, rfl, SqL.of R.vars, var_get g.v16 hu, ?_⟩
  refine ⟨_, rfl, _, _, rfl, R.isC ((g.aliveVar u.toNat).held D), _, rfl, ?_⟩
  cases hc : isCellB (s.var u.toNat) with
  | false =>
    rw [hc, if_pos (show (!false) = true from rfl)] at ret
    exact iteT ⟨by show 1 ≤ 2 ^ 24; decide, fun p hp => ret.now rfl R g wd hp rfl⟩
  | true =>
    rw [hc, if_neg (by simp)] at ret
    refine iteF ?_
    obtain ⟨j, hj⟩ := isCell_some g hc
    obtain ⟨ev, hv16⟩ := toNat_isVar hv
    refine ⟨_, rfl, _, rfl, nl, _, _, _, rfl, rfl, SqL.of hnlH, rfl, _, rfl, by show 1 ≤ 2 ^ 24; decide, fun fl hfl => ?_⟩
    have R1 : RepA CC CS B (upd H0 fl (.lst ([s.var u.toNat].map (vV (adB B))))) _ s (idsS s) D := R.fresh hfl
    refine ⟨B, H0, s, D, v.toNat, .weak, [s.var u.toNat], fl, ?_, R1, R.same.free hfl, g, wd, hm, hv16, ?_, ?_, fun H' B' p h1 h2 h3 h4 h5 => ret H' B' D p h1 h2 h3 h4 h5⟩
    · rw [← ev]
      rfl
    · intro i hi
      rw [List.mem_singleton] at hi
      exact var_mem hi.symm
    · intro n
      unfold Shape
      exact .inr ⟨j, by rw [hj]⟩
theorem cal_call_keyed (F : Def K mg "call_keyed" s_call_keyed ["store", "numbers"]) (T : TxtS K mg CC CS) (c_is_cell : Cal P w K mg base 1 "is_cell" (sp_is_cell CC)) (c_make_cell : Cal P w K mg base 8 "make_cell" (sp_make_cell CC CS)) : Cal P w K mg base 9 "call_keyed" (spC CC CS cKeyed) := by
  refine F.cal sc_call_keyed (fun vs H Q E h => spC_len h) (fun f cdv A outer sh H vs Q E hr h => ?_)
  obtain ⟨B, H0, s, D, nl, ns, c, rfl, hnl, R, g, wd, hm, ⟨v, u, x, rfl, hv, hu, hx, rfl⟩, ret⟩ := h
  refine ⟨_, (pss_cons (ps_set (i := 2) sc_call_keyed.nd rfl (Or.inl rfl) (pe_ix ix_list (pe_fld (pv 0) rfl) (pe_ix ix_list (pv 1) pe_int (fun _ _ => rfl)) (fun _ _ => rfl))) (pss_cons (ps_if (pt_not (pt_val (C8.pe_c c_is_cell hr (by decide) rfl (pa_cons (pv 2) pa_nil)))) (pss_one (ps_ret (pe_lst (pa_cons (C8.pe_gc rfl T.k_NO_SUCH_CELL) pa_nil)))) pss_nil) (pss_one (ps_ret (C8.pe_c c_make_cell hr (by decide) rfl (pa_cons (pv 0) (pa_cons (pe_ix ix_list (pv 1) pe_int (fun _ _ => rfl)) (pa_cons (C8.pe_gc rfl T.k_KEYED) (pa_cons (pe_lst (pa_cons (pv 2) (pa_cons (pe_ix ix_list (pe_fld (pv 0) rfl) (pe_ix ix_list (pv 1) pe_int (fun _ _ => rfl)) (fun _ _ => rfl)) pa_nil))) pa_nil))))))))), ?_⟩
  have hnlH : H nl = some (.lst ([v, u, x].map V.int)) := R.same nl _ hnl
  obtain ⟨dx, sw, hsw, hst⟩ := R.store
  have es : Kg93.spec s (.keyed v u x) = if (s.of u.toNat).isNone = true then (s, Kg93.num (-3)) else Kg93.made s v.toNat .keyed [s.var u.toNat, s.var x.toNat] := by
    show (match Kg93.var? v, Kg93.var? u, Kg93.var? x with | some v, some k, some x => _ | _, _, _ => _) = _
    rw [var_some hv, var_some hu, var_some hx]
  rw [es, isNone_eq g] at ret
  refine ⟨_, rfl, B .store, CS, dx, _, _, rfl, hst, T.cS, T.m_variables, sf_variables, _, rfl, nl, _, _, _, rfl, rfl, SqL.of hnlH, rfl, B .vars, _, _, _, rfl, rfl, SqL.of R.vars, var_get g.v16 hu, ?_⟩
  refine ⟨_, rfl, _, _, rfl, R.isC ((g.aliveVar u.toNat).held D), _, rfl, ?_⟩
  cases hc : isCellB (s.var u.toNat) with
  | false =>
    rw [hc, if_pos (show (!false) = true from rfl)] at ret
    exact iteT ⟨by show 1 ≤ 2 ^ 24; decide, fun p hp => ret.now rfl R g wd hp rfl⟩
  | true =>
    rw [hc, if_neg (by simp)] at ret
    refine iteF ?_
    obtain ⟨j, hj⟩ := isCell_some g hc
    obtain ⟨ev, hv16⟩ := toNat_isVar hv
    refine ⟨_, rfl, _, rfl, nl, _, _, _, rfl, rfl, SqL.of hnlH, rfl, _, rfl, _, rfl, B .store, CS, dx, _, _, rfl, hst, T.cS, T.m_variables, sf_variables, _, rfl, nl, _, _, _, rfl, rfl, SqL.of hnlH, rfl, B .vars, _, _, _, rfl, rfl, SqL.of R.vars, var_get g.v16 hx, by show 2 ≤ 2 ^ 24; decide, fun fl hfl => ?_⟩
    have R1 : RepA CC CS B (upd H0 fl (.lst ([s.var u.toNat, s.var x.toNat].map (vV (adB B))))) _ s (idsS s) D := R.fresh hfl
    refine ⟨B, H0, s, D, v.toNat, .keyed, [s.var u.toNat, s.var x.toNat], fl, ?_, R1, R.same.free hfl, g, wd, hm, hv16, ?_, ?_, fun H' B' p h1 h2 h3 h4 h5 => ret H' B' D p h1 h2 h3 h4 h5⟩
    · rw [← ev]
      rfl
    · intro i hi
      rcases List.mem_cons.mp hi with hi | hi
      · exact var_mem hi.symm
      · rw [List.mem_singleton] at hi
        exact var_mem hi.symm
    · intro n
      unfold Shape
      exact .inr ⟨j, s.var x.toNat, by rw [hj]⟩
theorem cal_call_held (F : Def K mg "call_held" s_call_held ["store", "numbers"]) (T : TxtS K mg CC CS) (c_is_cell_of : Cal P w K mg base 2 "is_cell_of" (sp_is_cell_of CC)) : Cal P w K mg base 3 "call_held" (spC CC CS cHeld) := by
  refine F.cal sc_call_held (fun vs H Q E h => spC_len h) (fun f cdv A outer sh H vs Q E hr h => ?_)
  obtain ⟨B, H0, s, D, nl, ns, c, rfl, hnl, R, g, wd, hm, ⟨v, u, rfl, hv, hu, rfl⟩, ret⟩ := h
  refine ⟨_, (pss_cons (ps_set (i := 2) sc_call_held.nd rfl (Or.inl rfl) (pe_ix ix_list (pe_fld (pv 0) rfl) (pe_ix ix_list (pv 1) pe_int (fun _ _ => rfl)) (fun _ _ => rfl))) (pss_cons (ps_if (pt_not (pt_val (C8.pe_c c_is_cell_of hr (by decide) rfl (pa_cons (C8.pe_gc rfl T.k_WEAK) (pa_cons (pv 2) pa_nil))))) (pss_one (ps_ret (pe_lst (pa_cons (C8.pe_gc rfl T.k_NO_SUCH_CELL) pa_nil)))) pss_nil) (pss_cons (ps_set (i := 3) sc_call_held.nd rfl (Or.inl rfl) (pe_ix ix_list (pe_fld (pv 2) rfl) pe_int (fun _ _ => rfl))) (pss_cons (ps_asg (pv 3) (pg_sub (pe_fld (pv 0) rfl) (pe_ix ix_list (pv 1) pe_int (fun _ _ => rfl)) set_list)) (pss_one (ps_ret (pe_ifExp (pt_cmpR op_isN (pv 3) pe_non (nomark _)) (pe_lst (pa_cons pe_int pa_nil)) (pe_lst (pa_cons pe_int pa_nil))))))))), ?_⟩
  have hnlH : H nl = some (.lst ([v, u].map V.int)) := R.same nl _ hnl
  obtain ⟨dx, sw, hsw, hst⟩ := R.store
  have es : Kg93.spec s (.held v u) = (match cellV s (s.var u.toNat) with
      | some c => if c.kind ≠ .weak then (s, Kg93.num (-3)) else match c.fields with
        | [.cell i] => (s.setVar v.toNat (.cell i), Kg93.num 1)
        | _ => (s.setVar v.toNat .none_, Kg93.num 0)
      | none => (s, Kg93.num (-3))) := by
    rw [← of_eq]
    show (match Kg93.var? v, Kg93.var? u with | some v, some u => _ | _, _ => _) = _
    rw [var_some hv, var_some hu]
    rfl
  rw [es] at ret
  refine ⟨_, rfl, B .store, CS, dx, _, _, rfl, hst, T.cS, T.m_variables, sf_variables, _, rfl, nl, _, _, _, rfl, rfl, SqL.of hnlH, rfl, B .vars, _, _, _, rfl, rfl, SqL.of R.vars, var_get g.v16 hu, ?_⟩
  refine ⟨_, rfl, 1, _, _, rfl, R.isKV .weak (g.aliveVar u.toNat), _, rfl, ?_⟩
  cases hc : cellV s (s.var u.toNat) with
  | none =>
    rw [hc] at ret
    exact iteT ⟨by show 1 ≤ 2 ^ 24; decide, fun p hp => ret.now rfl R g wd hp rfl⟩
  | some c =>
    rw [hc] at ret
    obtain ⟨hcm, hsafe, hvar⟩ := g.of_some ((of_eq s u.toNat).trans hc)
    have ret1 : Ret CC CS B H0 Q (if c.kind ≠ .weak then (s, Kg93.num (-3)) else match c.fields with
        | [.cell i] => (s.setVar v.toNat (.cell i), Kg93.num 1)
        | _ => (s.setVar v.toNat .none_, Kg93.num 0)) := ret
    by_cases hk : c.kind = .weak
    · rw [if_neg (by simp [hk])] at ret1
      refine ite2 (fun q => ?_) (fun _ => ?_)
      · have q' : (!(decide (c.kind = .weak))) = true := q
        rw [decide_eq_true hk] at q'; cases q'
      have hat : s.at_ c.id = some c := g.atc hcm
      obtain ⟨dc, hcell⟩ := R.cell hat
      have eslot : (vV (adB B) (s.var u.toNat)) = V.ref (B (.cell c.id)) := by rw [hvar]; rfl
      have hsh := g.shape c hcm
      unfold Shape at hsh
      rw [hk] at hsh
      have hfl := R.flds hat
      rcases hsh with hf | ⟨t, hf⟩
      · rw [hf] at ret1 hfl
        obtain ⟨h1, h2⟩ := set_var_list (ad := adB B) g.v16 hv .none_
        refine ⟨_, rfl, B (.cell c.id), CC, dc, _, _, eslot, hcell, T.isC.cl, T.n_fields, cf_fields, B (.flds c.id), _, _, _, rfl, rfl, SqL.of hfl, rfl, ?_⟩
        refine ⟨_, rfl, _, rfl, B .store, CS, dx, _, _, rfl, hst, T.cS, T.m_variables, sf_variables, _, rfl, nl, _, _, _, rfl, rfl, SqL.of hnlH, rfl, B .vars, _, _, v.toNat, rfl, rfl, R.vars, h1, ?_⟩
        have R1 := R.setVar v.toNat .none_
        rw [← h2] at R1
        refine ⟨_, rfl, rfl, _, rfl, ?_⟩
        exact iteT ⟨by show 1 ≤ 2 ^ 24; decide, fun p hp => ret1.now rfl R1 (g.setVar (fun i e => by cases e)) wd hp rfl⟩
      · rw [hf] at ret1 hfl
        obtain ⟨h1, h2⟩ := set_var_list (ad := adB B) g.v16 hv (.cell t)
        refine ⟨_, rfl, B (.cell c.id), CC, dc, _, _, eslot, hcell, T.isC.cl, T.n_fields, cf_fields, B (.flds c.id), _, _, _, rfl, rfl, SqL.of hfl, rfl, ?_⟩
        refine ⟨_, rfl, _, rfl, B .store, CS, dx, _, _, rfl, hst, T.cS, T.m_variables, sf_variables, _, rfl, nl, _, _, _, rfl, rfl, SqL.of hnlH, rfl, B .vars, _, _, v.toNat, rfl, rfl, R.vars, h1, ?_⟩
        have R1 := R.setVar v.toNat (.cell t)
        rw [← h2] at R1
        have hst2 : SafeId s t := g.flds c hcm hsafe t (by rw [hf]; exact List.mem_cons_self ..)
        refine ⟨_, rfl, rfl, _, rfl, ?_⟩
        exact iteF ⟨by show 1 ≤ 2 ^ 24; decide, fun p hp => ret1.now rfl R1 (g.setVar (fun i e => by cases e; exact hst2)) wd hp rfl⟩
    · rw [if_pos hk] at ret1
      refine ite2 (fun _ => ?_) (fun q => ?_)
      · exact ⟨by show 1 ≤ 2 ^ 24; decide, fun p hp => ret1.now rfl R g wd hp rfl⟩
      · exfalso
        apply q
        show (!(decide (c.kind = .weak))) = true
        rw [decide_eq_false hk]
        rfl
theorem cal_call_cell (F : Def K mg "call_cell" s_call_cell ["store", "numbers"]) (T : TxtS K mg CC CS) (c_are_fields_told : Cal P w K mg base 3 "are_fields_told" (sp_are_fields_told CC CS)) (c_told_fields : Cal P w K mg base 2 "told_fields" (sp_told_fields CC CS)) (c_make_cell : Cal P w K mg base 8 "make_cell" (sp_make_cell CC CS)) : Cal P w K mg base 9 "call_cell" (spC CC CS cCell) := by
  refine F.cal sc_call_cell (fun vs H Q E h => spC_len h) (fun f cdv A outer sh H vs Q E hr h => ?_)
  obtain ⟨B, H0, s, D, nl, ns, c, rfl, hnl, R, g, wd, hm, ⟨v, n, row, rfl, hv, hrow, rfl⟩, ret⟩ := h
  refine ⟨_, (pss_cons (ps_set (i := 2) sc_call_cell.nd rfl (Or.inl rfl) (pe_slice sl_list (pv 1) (po_some pe_int) po_none)) (pss_cons (ps_if (pt_not (pt_val (C8.pe_c c_are_fields_told hr (by decide) rfl (pa_cons (pv 2) pa_nil)))) (pss_one (ps_ret (pe_lst (pa_cons (C8.pe_gc rfl T.k_NOT_AS_TOLD) pa_nil)))) pss_nil) (pss_one (ps_ret (C8.pe_c c_make_cell hr (by decide) rfl (pa_cons (pv 0) (pa_cons (pe_ix ix_list (pv 1) pe_int (fun _ _ => rfl)) (pa_cons (C8.pe_gc rfl T.k_PLAIN) (pa_cons (C8.pe_c c_told_fields hr (by decide) rfl (pa_cons (pv 0) (pa_cons (pv 2) pa_nil))) pa_nil))))))))), ?_⟩
  have hnlH : H nl = some (.lst ((v :: n :: row).map V.int)) := R.same nl _ hnl
  -- row = numbers[2:]
  refine ⟨_, rfl, 2, rfl, nl, _, rfl, SqL.of hnlH, fun rl hrl => ?_⟩
  have ecut : cutV ((v :: n :: row).map V.int) (some 2) none = row.map V.int := by
    have e2 : HT.sIx ((v :: n :: row).map V.int).length 0 (some 2) = 2 := by
      have := HT.sIx_nat ((v :: n :: row).map V.int).length 0 2
      rw [show ((2 : Nat) : Int) = 2 from rfl] at this
      rw [this, List.length_map, List.length_cons, List.length_cons]
      omega
    unfold cutV
    rw [e2, HT.sIx_none]
    show (row.map V.int).take (((v :: n :: row).map V.int).length - 2) = row.map V.int
    rw [List.take_of_length_le]
    rw [List.length_map, List.length_map, List.length_cons, List.length_cons]
    omega
  rw [ecut]
  have hrl0 : H0 rl = none := R.same.free hrl
  have R1 : RepA CC CS B (upd H0 rl (.lst (row.map V.int))) _ s (idsS s) D := R.fresh hrl
  have nnr : nl ≠ rl := ne_of_none hnlH hrl
  have es : Kg93.spec s (.cell v row) = (match Kg93.fields? s row with
      | some fs => if 6 < fs.length then (s, Kg93.num (-1)) else Kg93.made s v.toNat .plain fs
      | none => (s, Kg93.num (-1))) := by
    show (match Kg93.var? v, Kg93.fields? s row with | some v, some fs => if 6 < fs.length then (s, Kg93.num (-1)) else Kg93.made s v .plain fs | _, _ => (s, Kg93.num (-1))) = _
    rw [var_some hv]
    cases Kg93.fields? s row <;> rfl
  rw [es] at ret
  refine ⟨_, rfl, B, _, s, _, D, rl, row, rfl, upd_same, hrow, R1, fun hno H2 R2 => ?_, fun ps eps h6 hall H2 R2 => ?_⟩
  · -- the row isn't as told
    have ret1 : Ret CC CS B H0 Q (s, Kg93.num (-1)) := by
      by_cases hev : row.length % 2 = 0
      · obtain ⟨ps, eps, hn⟩ := flat_of (row.length / 2) row (by omega)
        rw [eps, fields_flat] at ret
        by_cases hall : ps.all okPair = true
        · rw [if_pos hall] at ret
          have : 6 < (ps.map (fieldOf s)).length := by
            rw [List.length_map]
            apply Classical.byContradiction
            intro z
            exact hno ⟨ps, eps, by omega, hall⟩
          have ret2 : Ret CC CS B H0 Q (if 6 < (ps.map (fieldOf s)).length then (s, Kg93.num (-1)) else Kg93.made s v.toNat .plain (ps.map (fieldOf s))) := ret
          rw [if_pos this] at ret2
          exact ret2
        · rw [if_neg hall] at ret
          exact ret
      · rw [fields_odd s (row.length / 2) row (by omega)] at ret
        exact ret
    refine ⟨_, rfl, iteT ⟨by show 1 ≤ 2 ^ 24; decide, fun p hp => ?_⟩⟩
    have R3 := R2.weak (same_upd hrl0)
    exact ret1.now rfl R3 g wd hp rfl
  · refine ⟨_, rfl, iteF ?_⟩
    rw [eps, fields_flat, if_pos hall] at ret
    have ret1 : Ret CC CS B H0 Q (if 6 < (ps.map (fieldOf s)).length then (s, Kg93.num (-1)) else Kg93.made s v.toNat .plain (ps.map (fieldOf s))) := ret
    rw [if_neg (by rw [List.length_map]; omega)] at ret1
    obtain ⟨ev, hv16⟩ := toNat_isVar hv
    have hnl2 : H2 nl = some (.lst ((v :: n :: row).map V.int)) := R2.same nl _ (by rw [upd_ne nnr]; exact hnl)
    refine ⟨_, rfl, _, rfl, nl, _, _, _, rfl, rfl, SqL.of hnl2, at0 (v := V.int v) rfl, _, rfl, _, rfl, B, _, s, _, D, rl, ps, rfl, by rw [← eps]; exact upd_same, R2, g.v16, h6, hall, fun H3 fl hfl R3 => ?_⟩
    refine ⟨B, _, s, D, v.toNat, .plain, ps.map (fieldOf s), fl, ?_, R3, hfl, g, wd, hm, hv16, ?_, ?_, fun H' B' p h1 h2 h3 h4 h5 => ret1.pass (same_upd hrl0) H' B' p D h1 h2 h3 h4 h5⟩
    · rw [← ev]
      rfl
    · intro i hi
      obtain ⟨q, hq, e⟩ := List.mem_map.mp hi
      unfold fieldOf at e
      split at e
      · cases e
      · exact var_mem e
    · intro m
      unfold Shape
      show (ps.map (fieldOf s)).length ≤ 6
      rw [List.length_map]
      exact h6
end
end Gc
set_option Elab.async false
set_option maxRecDepth 100000
set_option maxHeartbeats 4000000
namespace Gc
open PySem PySem.Spec PyProof.Rows L2
/-! ### a dict of the top, its keys whole numbers -/
def wdB (es : Array DictEntry) (kvs : List (Int × V)) : Bool := (es.toList.all fun e => match e.key with | .int i _ => decide (e.hash = hashInt i) | _ => false) &&
  kvs.all fun p => match findBy keyIs es (.inl p.1) with | some u => He.relB p.2 u | none => false
structure WD (K : PySem.W.Frag) (d : Addr) (kvs : List (Int × V)) : Prop where
  ex : ∃ es n, K.lookup d = some ⟨.type "dict", none, .dict es n, #[]⟩ ∧ wdB es kvs = true
theorem lookup_mem {i : Int} {v : V} : ∀ {kvs : List (Int × V)}, kvs.lookup i = some v → (i, v) ∈ kvs
  | (j, u) :: r, h => by
    rw [List.lookup_cons] at h
    by_cases e : (i == j) = true
    · rw [e] at h
      have h' : u = v := Option.some.inj h
      have e' : i = j := by simpa using e
      rw [e', h']
      exact List.mem_cons_self ..
    · rw [Bool.not_eq_true] at e
      rw [e] at h
      exact List.mem_cons_of_mem _ (lookup_mem h)
theorem ix_wd {X : Cx} {d : Addr} {kvs : List (Int × V)} (D : WD X.K d kvs) : IxR X (fun x y H Q => ∃ i v, x = .ref d ∧ y = .int i ∧ kvs.lookup i = some v ∧ Q v H) := by
  intro value slice pins s σ H x y v u Q I rx ry h hs
  obtain ⟨i, r, rfl, rfl, e, q⟩ := h
  obtain rfl : v = Value.ref d := rx
  obtain ⟨t, rfl⟩ := (show ∃ t, u = Value.int i t from ry)
  obtain ⟨es, n, hl, hb⟩ := D.ex
  unfold wdB at hb
  rw [Bool.and_eq_true] at hb
  have hk : PySem.KeysOf (mixKind X.prog X.w) es := by
    intro e he
    have h1 := List.all_eq_true.mp hb.1 e (Array.mem_toList_iff.mpr he)
    split at h1
    · next j u hj => exact ⟨.inl j, by rw [hj]; exact mixKind_int X.prog X.w j u, of_decide_eq_true h1⟩
    · cases h1
  have hm : s.heap.MapOf (mixKind X.prog X.w) d (fun k => findBy keyIs es k) := ⟨_, es, n, I.kIn _ _ hl, ⟨rfl, rfl, rfl⟩, rfl, hk, fun _ => rfl⟩
  have h2 := List.all_eq_true.mp hb.2 _ (lookup_mem e)
  simp only at h2
  split at h2
  · next w hw => exact tail_any hm.typeIs slot_dict_getitem.lookup (wpAny_getItem_of (mixKind_int X.prog X.w i t) hm hw ⟨r, H, I.tok _, He.relB_ok h2, q⟩) hs
  · cases h2
abbrev s_end_of_call : Stmt := top 99
theorem sc_end_of_call : FnScope ["calls", "at", "end"] ["calls", "at"] (defScope s_end_of_call) := ⟨rfl, rfl, rfl, by decide +kernel, rfl, by decide +kernel, by decide +kernel⟩
structure TxtD (K : PySem.W.Frag) (mg : Str → Option Value) (CC CS dN : Addr) (nums : List (Int × V)) : Prop extends TxtS K mg CC CS where
  k_CALL_WITH_ROW : KInt mg "CALL_WITH_ROW" 1
  w_NUMBERS : mg "NUMBERS" = some (.ref dN)
  d_NUMBERS : WD K dN nums
def sp_end_of_call (K : PySem.W.Frag) (nums : List (Int × V)) : Sp := fun vs H Q _ => ∃ (a : Addr) (ns : List Int) (i : Nat) (p m e : Int), vs = [.ref a, .int i] ∧ SqL K H a (ns.map V.int) ∧ ns[i]? = some p ∧ nums.lookup p = some (.int m) ∧
  ((p ≠ 1 ∧ e = i + 1 + m) ∨ (p = 1 ∧ ∃ r, ns[i + 2]? = some r ∧ e = i + 1 + m + r)) ∧ Q (.int e) H
section
variable {P : Program} {w : World} {K : PySem.W.Frag} {mg : Str → Option Value} {base : Heap} {CC CS dN : Addr} {nums : List (Int × V)}
theorem cal_end_of_call (F : Def K mg "end_of_call" s_end_of_call ["calls", "at"]) (T : TxtD K mg CC CS dN nums) : Cal P w K mg base 1 "end_of_call" (sp_end_of_call K nums) := by
  refine F.cal sc_end_of_call (fun vs H Q E h => ?_) (fun f cdv A outer sh H vs Q E hr h => ?_)
  · obtain ⟨a, ns, i, p, m, e, rfl, _⟩ := h
    rfl
  · obtain ⟨a, ns, i, p, m, e, rfl, hS, hp, hm, hQ, q⟩ := h
    refine ⟨_, (pss_cons (ps_set (i := 2) sc_end_of_call.nd rfl (Or.inl rfl) (pe_op op_add (pe_op op_add (pv 1) pe_int) (pe_ix (ix_wd T.d_NUMBERS) (pe_glob (v := .ref _) rfl T.w_NUMBERS rfl) (pe_ix ix_list (pv 0) (pv 1) (fun _ _ => rfl)) (fun _ _ => rfl)))) (pss_cons (ps_if (pt_cmpR op_eq (pe_ix ix_list (pv 0) (pv 1) (fun _ _ => rfl)) (C8.pe_gc rfl T.k_CALL_WITH_ROW) (nomark _)) (pss_one (ps_aug (i := 2) sc_end_of_call.nd rfl (Or.inl rfl) (pe_ix ix_list (pv 0) (pe_op op_add (pv 1) pe_int) (fun _ _ => rfl)) ip_add)) pss_nil) (pss_one (ps_ret (pv 2))))), ?_⟩
    have ap : atI (ns.map V.int) (i : Int) = some (.int p) := atI_nat (by rw [List.getElem?_map, hp]; rfl)
    refine ⟨_, rfl, _, _, rfl, rfl, _, rfl, _, rfl, a, _, _, _, rfl, rfl, hS, ap, _, _, rfl, rfl, hm, _, _, rfl, rfl, ?_⟩
    refine ⟨_, rfl, _, rfl, a, _, _, _, rfl, rfl, hS, ap, rfl, _, rfl, ?_⟩
    rcases hQ with ⟨hne, rfl⟩ | ⟨rfl, r, hr2, rfl⟩
    · refine ite2 (fun z => ?_) (fun _ => ?_)
      · exact absurd (by have := of_decide_eq_true z; injection this) hne
      · exact ⟨_, rfl, q⟩
    · refine iteT ?_
      have ar : atI (ns.map V.int) ((i : Int) + 2) = some (.int r) := at_of (j := i + 2) (by omega) (by rw [List.getElem?_map, hr2]; rfl)
      refine ⟨_, rfl, _, rfl, _, rfl, _, _, rfl, rfl, a, _, _, _, rfl, rfl, hS, ar, _, _, rfl, rfl, ?_⟩
      exact ⟨_, rfl, q⟩
end
end Gc
set_option Elab.async false
set_option maxRecDepth 100000
set_option maxHeartbeats 4000000
namespace Gc
open PySem PySem.Spec PyProof.Rows L2
theorem def_mk {K : PySem.W.Frag} {h : Heap} {mg : Str → Option Value} {x : Str} {st : Stmt} {ps : List Str} {f : Addr} {oc : Value} {od an : Option Addr} {osl : Array (Option Value)} {kV doc pm cdv ct : Value} (X : K.In h) (G : h.Ns mainGlobals mg)
    (a : PySem.W.nsIn K mainGlobals x = some (some (.ref f))) (l : K.lookup f = some ⟨oc, od, .func (PySem.W.fnOf x x (defArgs st) (defBody st) (defScope st) .none kV doc pm an cdv ct), osl⟩) (c : PySem.W.codeIn K cdv x = true) (k : PySem.W.keepIn K (.ref f) = true)
    (hb : ∀ (kV doc pm : Value) (an : Option Addr) (cdv ct : Value) (us : List Value), us.length = ps.length → bindArgs (PySem.W.fnOf x x (defArgs st) (defBody st) (defScope st) .none kV doc pm an cdv ct) ⟨us, []⟩ = pure (ps.zip us)) : Def K mg x st ps :=
  ⟨f, _, fun_mk l c k, PySem.W.mg_of X G a, (fun_mk l c k).binds hb⟩
theorem def_mk0 {K : PySem.W.Frag} {h : Heap} {mg : Str → Option Value} {x : Str} {st : Stmt} {f : Addr} {oc : Value} {od an : Option Addr} {osl : Array (Option Value)} {kV doc pm cdv ct : Value} (X : K.In h) (G : h.Ns mainGlobals mg)
    (a : PySem.W.nsIn K mainGlobals x = some (some (.ref f))) (l : K.lookup f = some ⟨oc, od, .func (PySem.W.fnOf x x (defArgs st) (defBody st) (defScope st) .none kV doc pm an cdv ct), osl⟩) (c : PySem.W.codeIn K cdv x = true) (k : PySem.W.keepIn K (.ref f) = true) :
    Fun K x x st f (PySem.W.fnOf x x (defArgs st) (defBody st) (defScope st) .none kV doc pm an cdv ct) ∧ mg x = some (.ref f) := ⟨fun_mk l c k, PySem.W.mg_of X G a⟩
theorem mdef_mk {K : PySem.W.Frag} {h : Heap} {mg : Str → Option Value} {x qual : Str} {C : Addr} {st : Stmt} {ps : List Str} {f : Addr} {oc : Value} {od an : Option Addr} {osl : Array (Option Value)} {kV doc pm cdv ct : Value} (X : K.In h) (G : h.Ns mainGlobals mg)
    (aC : PySem.W.nsIn K mainGlobals x = some (some (.ref C))) (mk : PySem.W.makesIn K C = true) (a : PySem.W.findIn K (.ref C) "__init__" = some (some (.ref f))) (i : PySem.W.isFn K (.ref f) = true) (kc : PySem.W.keepIn K (.ref C) = true)
    (l : K.lookup f = some ⟨oc, od, .func (PySem.W.fnOf "__init__" qual (defArgs st) (defBody st) (defScope st) .none kV doc pm an cdv ct), osl⟩) (c : PySem.W.codeIn K cdv qual = true) (k : PySem.W.keepIn K (.ref f) = true)
    (hb : ∀ (kV doc pm : Value) (an : Option Addr) (cdv ct : Value) (us : List Value), us.length = ps.length → bindArgs (PySem.W.fnOf "__init__" qual (defArgs st) (defBody st) (defScope st) .none kV doc pm an cdv ct) ⟨us, []⟩ = pure (ps.zip us)) : MDef K mg x qual C st ps :=
  ⟨f, _, ⟨mk, a, i, kc⟩, fun_mk l c k, PySem.W.mg_of X G aC, (fun_mk l c k).binds hb⟩
theorem kint_mk {K : PySem.W.Frag} {h : Heap} {mg : Str → Option Value} {x : Str} {n : Int} {t : Tok} (X : K.In h) (G : h.Ns mainGlobals mg) (a : PySem.W.nsIn K mainGlobals x = some (some (.int n t))) : KInt mg x n := ⟨_, PySem.W.mg_of X G a, _, rfl⟩
theorem with_def {K : PySem.W.Frag} {h : Heap} {mg : Str → Option Value} {x : Str} {st : Stmt} {ps : List Str} {f : Addr} {oc : Value} {od an : Option Addr} {osl : Array (Option Value)} {kV doc pm cdv ct : Value} {Goal : Prop} (X : K.In h) (G : h.Ns mainGlobals mg)
    (a : PySem.W.nsIn K mainGlobals x = some (some (.ref f))) (l : K.lookup f = some ⟨oc, od, .func (PySem.W.fnOf x x (defArgs st) (defBody st) (defScope st) .none kV doc pm an cdv ct), osl⟩) (c : PySem.W.codeIn K cdv x = true) (k : PySem.W.keepIn K (.ref f) = true)
    (hb : ∀ (kV doc pm : Value) (an : Option Addr) (cdv ct : Value) (us : List Value), us.length = ps.length → bindArgs (PySem.W.fnOf x x (defArgs st) (defBody st) (defScope st) .none kV doc pm an cdv ct) ⟨us, []⟩ = pure (ps.zip us)) (next : Def K mg x st ps → Goal) : Goal := next (def_mk X G a l c k hb)
end Gc
set_option Elab.async false
set_option maxRecDepth 100000
set_option maxHeartbeats 4000000
namespace Gc
open PySem PySem.Spec PyProof.Rows L2
/-! ### which numbers of a call are variables -/
def poss (p : Int) : List Nat :=
  if p = 1 then [0] else if p = 2 then [0] else if p = 3 then [0, 1] else if p = 4 then [0] else if p = 5 then [0, 1] else if p = 6 then [0, 2] else if p = 7 then [0, 1] else if p = 8 then [0, 1] else if p = 9 then [0, 1, 2] else
  if p = 10 then [0, 1, 2] else if p = 11 then [0] else if p = 16 then [0] else if p = 17 then [0, 1] else []
def varsOk (p : Int) (ns : List Int) : Bool := (poss p).all fun j => isVar (ns.getD j 0)
theorem and2 {a b : Bool} (h : (a && (b && true)) = false) : a = false ∨ (a = true ∧ b = false) := by
  cases a <;> cases b <;> simp_all
theorem and3 {a b c : Bool} (h : (a && (b && (c && true))) = false) : a = false ∨ (a = true ∧ b = false) ∨ (a = true ∧ b = true ∧ c = false) := by
  cases a <;> cases b <;> cases c <;> simp_all
theorem and1 {a : Bool} (h : (a && true) = false) : a = false := by
  cases a <;> simp_all
/-- a variable that isn't one: the call is refused -/
theorem spec_refused {p : Int} {ns : List Int} {k : Kg93.Call} (s : Sta) (h : KCall p ns k) (hv : varsOk p ns = false) : Kg93.spec s k = (s, Kg93.num (-1)) := by
  cases h with
  | cell v row =>
    have h1 := and1 (a := isVar v) hv
    show (match Kg93.var? v, Kg93.fields? s row with | some v, some fs => if 6 < fs.length then (s, Kg93.num (-1)) else Kg93.made s v .plain fs | _, _ => (s, Kg93.num (-1))) = _
    rw [var_none h1]
  | num v z =>
    have h1 := and1 (a := isVar v) hv
    show (match Kg93.var? v with | some v => _ | none => _) = _
    rw [var_none h1]
  | move v u =>
    show (match Kg93.var? v, Kg93.var? u with | some v, some u => _ | _, _ => _) = _
    rcases and2 (a := isVar v) (b := isVar u) hv with h1 | ⟨h1, h2⟩
    · rw [var_none h1]
    · rw [var_some h1, var_none h2]
  | clear v =>
    have h1 := and1 (a := isVar v) hv
    show (match Kg93.var? v with | some v => _ | none => _) = _
    rw [var_none h1]
  | get v u i =>
    show (match Kg93.var? v, Kg93.var? u with | some v, some u => _ | _, _ => _) = _
    rcases and2 (a := isVar v) (b := isVar u) hv with h1 | ⟨h1, h2⟩
    · rw [var_none h1]
    · rw [var_some h1, var_none h2]
  | set u i v =>
    show (match Kg93.var? u, Kg93.var? v with | some v, some u => _ | _, _ => _) = _
    rcases and2 (a := isVar u) (b := isVar v) hv with h1 | ⟨h1, h2⟩
    · rw [var_none h1]
    · rw [var_some h1, var_none h2]
  | weak v u =>
    show (match Kg93.var? v, Kg93.var? u with | some v, some u => _ | _, _ => _) = _
    rcases and2 (a := isVar v) (b := isVar u) hv with h1 | ⟨h1, h2⟩
    · rw [var_none h1]
    · rw [var_some h1, var_none h2]
  | held v u =>
    show (match Kg93.var? v, Kg93.var? u with | some v, some u => _ | _, _ => _) = _
    rcases and2 (a := isVar v) (b := isVar u) hv with h1 | ⟨h1, h2⟩
    · rw [var_none h1]
    · rw [var_some h1, var_none h2]
  | keyed v a x =>
    show (match Kg93.var? v, Kg93.var? a, Kg93.var? x with | some v, some u, some x => _ | _, _, _ => _) = _
    rcases and3 (a := isVar v) (b := isVar a) (c := isVar x) hv with h1 | ⟨h1, h2⟩ | ⟨h1, h2, h3⟩
    · rw [var_none h1]
    · rw [var_some h1, var_none h2]
    · rw [var_some h1, var_some h2, var_none h3]
  | found v u a =>
    show (match Kg93.var? v, Kg93.var? u, Kg93.var? a with | some v, some u, some x => _ | _, _, _ => _) = _
    rcases and3 (a := isVar v) (b := isVar u) (c := isVar a) hv with h1 | ⟨h1, h2⟩ | ⟨h1, h2, h3⟩
    · rw [var_none h1]
    · rw [var_some h1, var_none h2]
    · rw [var_some h1, var_some h2, var_none h3]
  | last u z =>
    have h1 := and1 (a := isVar u) hv
    show (match Kg93.var? u with | some v => _ | none => _) = _
    rw [var_none h1]
  | words => cases hv
  | young => cases hv
  | slice n => cases hv
  | counts => cases hv
  | shape u =>
    have h1 := and1 (a := isVar u) hv
    show (match Kg93.var? u with | some v => _ | none => _) = _
    rw [var_none h1]
  | same u v =>
    show (match Kg93.var? u, Kg93.var? v with | some v, some u => _ | _, _ => _) = _
    rcases and2 (a := isVar u) (b := isVar v) hv with h1 | ⟨h1, h2⟩
    · rw [var_none h1]
    · rw [var_some h1, var_none h2]
end Gc
set_option Elab.async false
set_option maxRecDepth 100000
set_option maxHeartbeats 4000000
namespace Gc
open PySem PySem.Spec PyProof.Rows L2
abbrev s_answer_call : Stmt := top 100
theorem sc_answer_call : FnScope ["store", "call", "numbers", "act", "at"] ["store", "call"] (defScope s_answer_call) := ⟨rfl, rfl, rfl, by decide +kernel, rfl, by decide +kernel, by decide +kernel⟩
/-! ### a call of a def that a name holds -/
def tCallH (P : Program) (w : World) (K : PySem.W.Frag) (mg : Str → Option Value) (base : Heap) (k i : Nat) (t : TA) : TE := fun σ H Q => ∃ f sp, σ[i]? = some (some (.ref f)) ∧ Held P w K mg base k f sp ∧ t σ H fun vs H1 => sp vs H1 Q (fun _ _ _ => False)
theorem pe_callH {X : Cx} {k i : Nat} {x : Str} {p pos : Pos} {e : Expr} {es : List Expr} {t : TA} (hr : Room k X.A) (hN : X.N[i]? = some x) (hv : Vis X.env.scope x) (ha : PA X (e :: es) t)
    (hdb : (x == ("__debug__" : Str)) = false := by decide) (hcd : (x == ("__classdict__" : Str)) = false := by decide)
    (he : starEach (e :: es) X.env = (false, eval e X.env) :: starEach es X.env := by rfl) (hpl : (backTo pos (starEach es X.env)).any (·.1) = false := by rfl) : PE X (.Call (.Name x p) (e :: es) [] pos) (tCallH X.prog X.w X.K X.mg X.base k i t) := by
  refine ⟨fun pins s σ H Q I h => ?_⟩
  obtain ⟨f, sp, hs, hH, ht⟩ := h
  refine (pe_callA (i := i) (S := fun g => if g = f then some sp else none) (fun g sp' hg => ?_) hr hN hv ha hdb hcd he hpl).run pins s σ H Q I ⟨f, sp, hs, if_pos rfl, ht⟩
  by_cases q : g = f
  · simp only [if_pos q] at hg
    cases hg
    rw [q]
    exact hH
  · simp only [if_neg q] at hg
    cases hg
/-- a comprehension over a tuple, whose turns change nothing -/
theorem lc_repT {α : Type} {K : PySem.W.Frag} {CC CS : Addr} {B : Role → Addr} {H0 H1 : Hp} {s : Sta} {lst Dd : List Nat} {a D : Addr} (ys : List α) (φ : α → V) {g : TG} {te : TE} {vs : List Nat} {σ : L2.St} {Qd : Hp → Prop}
    (R1 : RepA CC CS B H0 H1 s lst Dd) (hD : H1 D = none) (hx : ∀ H', SqT K H' a (ys.map φ)) (out : α → V) (hlen : ys.length < sizeLine)
    (turn : ∀ y ∈ ys, ∀ o H', RepA CC CS B (upd H0 D o) H' s lst Dd → ∀ (Y : V → Hp → Prop), Y (out y) H' →
      g (φ y) (wipe σ vs) H' fun σ2 H2 => wipe σ2 vs = wipe σ vs ∧ te σ2 H2 Y)
    (fin : ∀ H', RepA CC CS B (upd H0 D (.lst (ys.map out))) H' s lst Dd → Qd H')
    (gm : ∀ x σ H Q Q', (∀ σ2 H2, Q σ2 H2 → Q' σ2 H2) → g x σ H Q → g x σ H Q') :
    ∃ W : Nat → Nat → Hp → Prop, (∃ m, W 0 m (upd H1 D (.lst []))) ∧ ∀ i m H, W i m H →
      ((Itt K a).stop i H ∧ Qd H) ∨ ((Itt K a).go i H ∧ ∃ Nx : Hp → Prop, (∀ H', Nx H' → ∃ m', m' < m ∧ W (i + 1) m' H') ∧ ∀ x H', (Itt K a).yld i H x H' → g x (wipe σ vs) H' fun σ2 H2 => wipe σ2 vs = wipe σ vs ∧ tYes σ2 H2 fun b H3 =>
        if b = true then te σ2 H3 fun y H4 => ∃ acc, H4 D = some (.lst acc) ∧ acc.length < sizeLine ∧ Nx (upd H4 D (.lst (acc ++ [y]))) else Nx H3) := by
  refine lc_tup (K := K) (a := a) (xs := ys.map φ) (fun i H' => RepA CC CS B (upd H0 D (.lst ((ys.take i).map out))) H' s lst Dd) ?_ (fun i H' _ R => hx _) ?_ ?_
  · exact R1.fresh hD
  · intro i x H' hi R
    rw [List.getElem?_map] at hi
    obtain ⟨y, hy, rfl⟩ := Option.map_eq_some_iff.mp hi
    have e : (ys.take (i + 1)).map out = (ys.take i).map out ++ [out y] := by
      rw [take_more hy, List.map_append]
      rfl
    refine gm _ _ _ _ _ (fun σ2 H2 h => ⟨h.1, by unfold tYes; simp only [if_true]; exact h.2⟩) (turn y (List.mem_of_getElem? hy) _ H' R _ ?_)
    refine ⟨_, R.same D _ upd_same, ?_, ?_⟩
    · rw [List.length_map, List.length_take]
      omega
    · rw [e]
      have := R.tmp (o := .lst ((ys.take i).map out ++ [out y])) (p := D) upd_same
      rw [upd_upd] at this
      exact this
  · intro H' R
    rw [List.length_map, List.take_length] at R
    exact fin H' R
/-! ### which call -/
def cr (p : Int) (ns : List Int) (k : Kg93.Call) : Prop := KCall p ns k ∧ varsOk p ns = true ∧ ns.length ≤ 102
theorem poss_len {p : Int} {ns : List Int} {k : Kg93.Call} (h : KCall p ns k) : (poss p).length ≤ 3 := by
  cases h <;> decide
theorem poss_lt {p : Int} {ns : List Int} {k : Kg93.Call} (h : KCall p ns k) : ∀ j ∈ poss p, j < ns.length := by
  have e : ∀ n, (∀ j ∈ poss p, j < n) → n ≤ ns.length → ∀ j ∈ poss p, j < ns.length := fun n h1 h2 j hj => Nat.lt_of_lt_of_le (h1 j hj) h2
  cases h with
  | cell v row => exact e 1 (by decide) (by simp only [List.length_cons]; omega)
  | num v z => exact e 2 (by decide) (Nat.le_refl 2)
  | move v u => exact e 2 (by decide) (Nat.le_refl 2)
  | clear v => exact e 1 (by decide) (Nat.le_refl 1)
  | get v u i => exact e 3 (by decide) (Nat.le_refl 3)
  | set u i v => exact e 3 (by decide) (Nat.le_refl 3)
  | weak v u => exact e 2 (by decide) (Nat.le_refl 2)
  | held v u => exact e 2 (by decide) (Nat.le_refl 2)
  | keyed v k x => exact e 3 (by decide) (Nat.le_refl 3)
  | found v u k => exact e 3 (by decide) (Nat.le_refl 3)
  | last u z => exact e 2 (by decide) (Nat.le_refl 2)
  | words => exact e 0 (by decide) (Nat.le_refl 0)
  | young => exact e 0 (by decide) (Nat.le_refl 0)
  | slice n => exact e 1 (by decide) (Nat.le_refl 1)
  | counts => exact e 0 (by decide) (Nat.le_refl 0)
  | shape u => exact e 1 (by decide) (Nat.le_refl 1)
  | same u v => exact e 2 (by decide) (Nat.le_refl 2)
/-- what the top has written of the calls -/
structure Tab (P : Program) (w : World) (K : PySem.W.Frag) (mg : Str → Option Value) (base : Heap) (CC CS dV dC : Addr) (vars calls : List (Int × V)) (lv : Nat) (Dom : Int → Prop) : Prop where
  w_VARIABLES_AT : mg "VARIABLES_AT" = some (.ref dV)
  d_VARIABLES_AT : WD K dV vars
  w_CALLS : mg "CALLS" = some (.ref dC)
  d_CALLS : WD K dC calls
  at_ : ∀ p, Dom p → ∃ t, vars.lookup p = some (.ref t) ∧ ∀ H, SqT K H t ((poss p).map fun j => V.int (j : Nat))
  call : ∀ p, Dom p → ∃ f, calls.lookup p = some (.ref f) ∧ Held P w K mg base lv f (spC CC CS (cr p))
structure TxtC (P : Program) (w : World) (K : PySem.W.Frag) (mg : Str → Option Value) (base : Heap) (CC CS dV dC : Addr) (vars calls : List (Int × V)) (lv : Nat) (Dom : Int → Prop) : Prop extends TxtS K mg CC CS, Tab P w K mg base CC CS dV dC vars calls lv Dom
def sp_answer_call (CC CS : Addr) (Dom : Int → Prop) : Sp := fun vs H Q _ => ∃ (B : Role → Addr) (H0 : Hp) (s : Sta) (D : List Nat) (cl : Addr) (p : Int) (ns : List Int) (k : Kg93.Call), vs = [.ref (B .store), .ref cl] ∧ H0 cl = some (.lst ((p :: ns).map V.int)) ∧ RepA CC CS B H0 H s (idsS s) D ∧ Good s D ∧ Wd s ∧ s.made ≤ 900 ∧ KCall p ns k ∧ ns.length ≤ 102 ∧ Dom p ∧ Ret CC CS B H0 Q (Kg93.spec s k)
section
variable {P : Program} {w : World} {K : PySem.W.Frag} {mg : Str → Option Value} {base : Heap} {CC CS dV dC : Addr} {vars calls : List (Int × V)} {Dom : Int → Prop}
theorem cut1 (p : Int) (ns : List Int) : cutV ((p :: ns).map V.int) (some 1) none = ns.map V.int := by
  have e2 : HT.sIx ((p :: ns).map V.int).length 0 (some 1) = 1 := by
    have := HT.sIx_nat ((p :: ns).map V.int).length 0 1
    rw [show ((1 : Nat) : Int) = 1 from rfl] at this
    rw [this, List.length_map, List.length_cons]
    omega
  unfold cutV
  rw [e2, HT.sIx_none]
  show (ns.map V.int).take (((p :: ns).map V.int).length - 1) = ns.map V.int
  rw [List.take_of_length_le]
  rw [List.length_map, List.length_map, List.length_cons]
  omega
abbrev lvC : Nat := 9
theorem cal_answer_call (F : Def K mg "answer_call" s_answer_call ["store", "call"]) (T : TxtC P w K mg base CC CS dV dC vars calls lvC Dom) (c_is_variable : Cal P w K mg base 1 "is_variable" sp_is_variable) : Cal P w K mg base (lvC + 1) "answer_call" (sp_answer_call CC CS Dom) := by
  refine F.cal sc_answer_call (fun vs H Q E h => ?_) (fun f cdv A outer sh H vs Q E hr h => ?_)
  · obtain ⟨B, H0, s, D, cl, p, ns, k, rfl, _⟩ := h
    rfl
  · obtain ⟨B, H0, s, D, cl, p, ns, k, rfl, hcl, R, g, wd, hm, hk, hlen, hdom, ret⟩ := h
    refine ⟨_, (pss_cons (ps_set (i := 2) sc_answer_call.nd rfl (Or.inr rfl) (pe_slice sl_list (pv 1) (po_some pe_int) po_none)) (pss_cons (ps_if (pt_not (pt_val (pe_callB (cr_all rfl) (by rfl) T.b_all (by decide +kernel) (pa_cons (pe_lc (own := [("at", 4)]) (g := gName 4) (tt := tYes) (te := (tCall _ [] E0 (tCons (tOp (rIxL K) (tVar 2) (tVar 4)) tNil))) rfl sc_answer_call.nd (pi_tup (pe_ix (ix_wd T.d_VARIABLES_AT) (pe_glob (v := .ref _) rfl T.w_VARIABLES_AT rfl) (pe_ix ix_list (pv 1) pe_int (fun _ _ => rfl)) (fun _ _ => rfl))) (blkOk_by (own := [("at", 4)]) (N := ["store", "call", "numbers", "act", "at"]) (sc := defScope s_answer_call) (by decide +kernel)) (fun _ _ _ _ _ => pg_name (i := 4) sc_answer_call.nd rfl (Or.inl rfl)) (fun _ _ _ _ _ => pts_nil) (fun _ _ _ _ _ => (C8.pe_c c_is_variable hr (by decide) rfl (pa_cons (pe_ix ix_list (pv 2) (pv 4) (fun _ _ => rfl)) pa_nil)))) pa_nil)))) (pss_one (ps_ret (pe_lst (pa_cons (C8.pe_gc rfl T.k_NOT_AS_TOLD) pa_nil)))) pss_nil) (pss_cons (ps_set (i := 3) sc_answer_call.nd rfl (Or.inl rfl) (pe_ix (ix_wd T.d_CALLS) (pe_glob (v := .ref _) rfl T.w_CALLS rfl) (pe_ix ix_list (pv 1) pe_int (fun _ _ => rfl)) (fun _ _ => rfl))) (pss_one (ps_ret (pe_callH (i := 3) (k := lvC) (hr.mono (by decide)) rfl (Or.inl rfl) (pa_cons (pv 0) (pa_cons (pv 2) pa_nil)))))))), ?_⟩
    have hclH : H cl = some (.lst ((p :: ns).map V.int)) := R.same cl _ hcl
    have a0 : atI ((p :: ns).map V.int) 0 = some (.int p) := at0 rfl
    -- numbers = call[1:]
    refine ⟨_, rfl, 1, rfl, cl, _, rfl, SqL.of hclH, fun nl hnl => ?_⟩
    rw [cut1]
    have R1 := R.fresh (o := .lst (ns.map V.int)) hnl
    have hnl0 : H0 nl = none := R.same.free hnl
    have nc : cl ≠ nl := ne_of_none hclH hnl
    have hcl1 : (upd H nl (.lst (ns.map V.int))) cl = some (.lst ((p :: ns).map V.int)) := by rw [upd_ne nc]; exact hclH
    obtain ⟨t, ht, hsq⟩ := T.at_ p hdom
    -- if not all([..]): return [NOT_AS_TOLD]
    refine ⟨_, rfl, cl, _, _, _, rfl, rfl, SqL.of hcl1, a0, _, _, rfl, rfl, ht, t, rfl, ⟨_, hsq _⟩, fun p1 hp1 => ?_⟩
    refine lc_repT (poss p) (fun j => V.int (j : Nat)) R1 hp1 hsq (fun j => .bl (isVar (ns.getD j 0))) ?_ ?_ ?_ gName_mono
    · exact Nat.lt_of_le_of_lt (poss_len hk) (by decide)
    · intro j hj o H' R' Y hY
      have hjl := poss_lt hk j hj
      have hnl1 : H' nl = some (.lst (ns.map V.int)) := R'.same nl _ (by rw [upd_ne (ne_of_none (H := upd H nl (.lst (ns.map V.int))) upd_same hp1)]; exact upd_same)
      have aj : atI (ns.map V.int) ((j : Nat) : Int) = some (.int (ns.getD j 0)) := atI_nat (by
        rw [List.getElem?_map, List.getElem?_eq_getElem hjl, List.getD_eq_getElem?_getD, List.getElem?_eq_getElem hjl]
        rfl)
      exact ⟨rfl, _, rfl, _, rfl, nl, _, _, _, rfl, rfl, SqL.of hnl1, aj, _, rfl, hY⟩
    · intro H2 R2
      have ea : ((poss p).map fun j => isVar (ns.getD j 0)).all id = varsOk p ns := by
        unfold varsOk
        rw [List.all_map]
        rfl
      refine ⟨p1, (poss p).map (fun j => isVar (ns.getD j 0)), rfl, SqL.of (by rw [List.map_map]; exact R2.same p1 _ upd_same), _, rfl, ?_⟩
      rw [ea]
      have hp10 : (upd H0 nl (.lst (ns.map V.int))) p1 = none := R1.same.free hp1
      have R3 := R2.weak (same_upd hp10)
      cases hv : varsOk p ns with
      | false =>
        rw [spec_refused s hk hv] at ret
        exact iteT ⟨by show 1 ≤ 2 ^ 24; decide, fun q hq => ret.now rfl (R3.weak (same_upd hnl0)) g wd hq rfl⟩
      | true =>
        refine iteF ?_
        obtain ⟨fc, hfc, hheld⟩ := T.call p hdom
        have hcl2 : H2 cl = some (.lst ((p :: ns).map V.int)) := R3.same cl _ (by rw [upd_ne nc]; exact hcl)
        refine ⟨_, rfl, cl, _, _, _, rfl, rfl, SqL.of hcl2, a0, _, _, rfl, rfl, hfc, ?_⟩
        refine ⟨fc, _, rfl, hheld, _, rfl, _, rfl, B, _, s, D, nl, ns, k, rfl, upd_same, R3, g, wd, hm, ⟨hk, hv, hlen⟩, ?_⟩
        intro H' B' D' q h1 h2 h3 h4 h5
        exact ret.pass (same_upd hnl0) H' B' q D' h1 h2 h3 h4 h5
end
end Gc
set_option Elab.async false
set_option maxRecDepth 100000
set_option maxHeartbeats 4000000
namespace Gc
open PySem PySem.Spec PyProof.Rows L2
abbrev s_answers : Stmt := top 101
theorem sc_answers : FnScope ["calls", "store", "given", "at", "end", "answer"] ["calls"] (defScope s_answers) := ⟨rfl, rfl, rfl, by decide +kernel, rfl, by decide +kernel, by decide +kernel⟩
/-- how many numbers stand behind a call's own, by the program's table -/
def numOf (p : Int) (ns : List Int) : Int := if p = 1 then 2 else ns.length
structure TxtA (P : Program) (w : World) (K : PySem.W.Frag) (mg : Str → Option Value) (base : Heap) (CC CS : Addr) (nums : List (Int × V)) (Dom : Int → Prop) : Prop extends TxtS K mg CC CS where
  num : ∀ p ns k, KCall p ns k → Dom p ∧ nums.lookup p = some (.int (numOf p ns))
def sp_answers (K : PySem.W.Frag) : Sp := fun vs H Q _ => ∃ (a : Addr) (ns : List Int) (cs : List (List (List Int))), vs = [.ref a] ∧ SqL K H a (ns.map V.int) ∧ PyFlat.calls PyKg93.shape ns.length ns = some cs ∧ cs.length ≤ 100 ∧ (∀ c ∈ cs, Kg93Neutral.asked1 (PyKg93.whole c) = true) ∧ (due Kg93.init cs).length ≤ 10000000 ∧
  ∀ H' p, H' p = some (.lst ((due Kg93.init cs).map V.int)) → Q (.ref p) H'
/-- the roles of a new store -/
def B0 (x vl cl tl : Addr) : Role → Addr
  | .store => x
  | .vars => vl
  | .cells => cl
  | .told => tl
  | .cell _ => 0
  | .flds _ => 0
theorem rep_init {CC CS : Addr} {H H' : Hp} {x vl cl tl dx : Addr} (hs : Same H H') (hx : H x = none) (hvl : H vl = none) (hcl : H cl = none) (htl : H tl = none) (n1 : vl ≠ cl) (n2 : vl ≠ tl) (n3 : cl ≠ tl) (n4 : vl ≠ x) (n5 : cl ≠ x) (n6 : tl ≠ x)
    (h1 : H' x = some (.ins CS dx (storeF vl cl tl 0 0 (-1)))) (h2 : H' vl = some (.lst (List.replicate 16 .non))) (h3 : H' cl = some (.lst [])) (h4 : H' tl = some (.lst [])) : RepA CC CS (B0 x vl cl tl) H H' Kg93.init (idsS Kg93.init) [] := by
  have own : ∀ r, Own Kg93.init [] r → r = .store ∨ r = .vars ∨ r = .cells ∨ r = .told := by
    intro r h
    rcases h with h | ⟨i, hi, _⟩
    · cases r with
      | store => exact .inl rfl
      | vars => exact .inr (.inl rfl)
      | cells => exact .inr (.inr (.inl rfl))
      | told => exact .inr (.inr (.inr rfl))
      | cell i => cases h
      | flds i => cases h
    · cases hi
  constructor
  · exact hs
  · intro r h
    rcases own r (.inl h) with rfl | rfl | rfl | rfl
    · exact ⟨_, h1, dx, -1, (fun n e => by cases e), rfl⟩
    · exact ⟨_, h2, by show _ = HO.lst ((List.replicate 16 Kg93.V.none_).map _); rw [List.map_replicate]; rfl⟩
    · exact ⟨_, h3, rfl⟩
    · exact ⟨_, h4, rfl⟩
  · intro i hi
    cases hi
  · intro i hi
    cases hi
  · intro r h
    rcases own r h with rfl | rfl | rfl | rfl
    · exact hx
    · exact hvl
    · exact hcl
    · exact htl
  · intro r1 r2 h1 h2 e
    rcases own r1 h1 with rfl | rfl | rfl | rfl <;> rcases own r2 h2 with rfl | rfl | rfl | rfl <;> first | rfl | (exfalso; first | exact n1 e | exact n2 e | exact n3 e | exact n4 e | exact n5 e | exact n6 e | exact n1 e.symm | exact n2 e.symm | exact n3 e.symm | exact n4 e.symm | exact n5 e.symm | exact n6 e.symm)
theorem cut_mid {ns : List Int} {i : Nat} {p : Int} {q t : List Int} (h : ns.drop i = p :: (q ++ t)) (hi : i < ns.length) : cutV (ns.map V.int) (some (i : Int)) (some ((i + 1 + q.length : Nat) : Int)) = (p :: q).map V.int ∧ ns.drop (i + 1 + q.length) = t ∧ i + 1 + q.length ≤ ns.length := by
  have hl := congrArg List.length h
  rw [List.length_drop, List.length_cons, List.length_append] at hl
  have hle : i + 1 + q.length ≤ ns.length := by omega
  refine ⟨?_, ?_, hle⟩
  · unfold cutV
    rw [HT.sIx_nat, HT.sIx_nat, List.length_map, Nat.min_eq_left hle, Nat.min_eq_left (Nat.le_of_lt hi), ← List.map_drop, ← List.map_take, h]
    have e : i + 1 + q.length - i = q.length + 1 := by omega
    rw [e, List.take_succ_cons, List.take_left']
    rfl
  · have : ns.drop (i + 1 + q.length) = (ns.drop i).drop (q.length + 1) := by
      rw [List.drop_drop]
      congr 1
      omega
    rw [this, h, List.drop_succ_cons, List.drop_left']
    rfl
theorem end_or {p : Int} {q t ns : List Int} {k : Kg93.Call} {i : Nat} (hk : KCall p q k) (edrop : ns.drop i = p :: (q ++ t)) :
    (p ≠ 1 ∧ ((i + 1 + q.length : Nat) : Int) = i + 1 + numOf p q) ∨ (p = 1 ∧ ∃ r, ns[i + 2]? = some r ∧ ((i + 1 + q.length : Nat) : Int) = i + 1 + numOf p q + r) := by
  by_cases z : p = 1
  · right
    refine ⟨z, ?_⟩
    subst z
    cases hk with
    | cell v row =>
      refine ⟨row.length, ?_, ?_⟩
      · have := List.getElem?_drop (xs := ns) (i := i) (j := 2)
        rw [edrop] at this
        exact this.symm
      · unfold numOf
        rw [if_pos rfl]
        simp only [List.length_cons]
        omega
  · left
    refine ⟨z, ?_⟩
    unfold numOf
    rw [if_neg z]
    omega
theorem kcall_len {p : Int} {ns : List Int} {k : Kg93.Call} (h : KCall p ns k) (hr : ∀ v row, k = .cell v row → row.length ≤ 40) : ns.length ≤ 102 := by
  cases h with
  | cell v row =>
    have := hr v row rfl
    simp only [List.length_cons]
    omega
  | _ => simp
section
variable {P : Program} {w : World} {K : PySem.W.Frag} {mg : Str → Option Value} {base : Heap} {CC CS : Addr} {nums : List (Int × V)} {Dom : Int → Prop}
theorem fn_answers {fa : Addr} {fd : FuncData} (F : Fun K "answers" "answers" s_answers fa fd) (T : TxtA P w K mg base CC CS nums Dom) (c_Store : Mak P w K mg base 1 "Store" CS (sp_Store_init CS)) (c_end_of_call : Cal P w K mg base 1 "end_of_call" (sp_end_of_call K nums)) (c_answer_call : Cal P w K mg base (lvC + 1) "answer_call" (sp_answer_call CC CS Dom)) :
    FnOk P w K mg base CX0 (lvC + 2) fa fd ["calls"] (sp_answers K) := by
  refine F.ok sc_answers (fun vs H Q E h => ?_) (fun cdv A outer sh H vs Q E hr h => ?_)
  · obtain ⟨a, ns, cs, rfl, _⟩ := h
    rfl
  · obtain ⟨a, ns, cs, rfl, hS, hcs, h100, hask, hbig, cont⟩ := h
    refine ⟨_, (pss_cons (ps_set (i := 1) sc_answers.nd rfl (Or.inl rfl) (pe_mk0 c_Store hr (by decide) rfl)) (pss_cons (ps_set (i := 2) sc_answers.nd rfl (Or.inl rfl) (pe_lst pa_nil)) (pss_cons (ps_set (i := 3) sc_answers.nd rfl (Or.inl rfl) pe_int) (pss_cons (ps_while PassesOwn.never (pt_cmpR op_lt (pv 3) (pe_callB call_len_seq (by rfl) T.b_len PySem.boot_len (pa_cons (pv 0) pa_nil)) (nomark _)) (pss_cons (ps_set (i := 4) sc_answers.nd rfl (Or.inl rfl) (C8.pe_c c_end_of_call hr (by decide) rfl (pa_cons (pv 0) (pa_cons (pv 3) pa_nil)))) (pss_cons (ps_set (i := 5) sc_answers.nd rfl (Or.inl rfl) (C8.pe_c c_answer_call hr (by decide) rfl (pa_cons (pv 1) (pa_cons (pe_slice sl_list (pv 0) (po_some (pv 3)) (po_some (pv 4))) pa_nil)))) (pss_cons (ps_expr (pe_bm PySem.F.plainAttrs_list PySem.F.slot_list_append PySem.F.type_list_append mt_append (pv 2) (pa_cons (pe_callB call_len_seq (by rfl) T.b_len PySem.boot_len (pa_cons (pv 5) pa_nil)) pa_nil))) (pss_cons (ps_expr (pe_bm PySem.F.plainAttrs_list PySem.F.slot_list_extend PySem.F.type_list_extend mt_extend (pv 2) (pa_cons (pv 5) pa_nil))) (pss_one (ps_set (i := 3) sc_answers.nd rfl (Or.inl rfl) (pv 4)))))))) (pss_one (ps_ret (pv 2))))))), ?_⟩
    -- store = Store()
    intro x dx nx ndx nex
    refine ⟨x, dx, rfl, upd_same, fun H1 vl cl tl hs hvl hcl htl n1 n2 n3 n4 n5 n6 h1 h2 h3 h4 => ⟨rfl, ?_⟩⟩
    have free : ∀ q, q ≠ x → (upd (upd H dx (.own x)) x (.ins CS dx [])) q = none → H q = none := by
      intro q hq e
      rw [upd_ne hq] at e
      by_cases z : q = dx
      · rw [z, upd_same] at e; cases e
      · rw [upd_ne z] at e; exact e
    have hsame : Same H H1 := by
      intro b o e
      refine hs b o ?_
      show (if b = x then none else _) = some o
      rw [if_neg (ne_of_none e nx), upd_ne (ne_of_none e nx), upd_ne (ne_of_none e ndx)]
      exact e
    have R0 : RepA CC CS (B0 x vl cl tl) H H1 Kg93.init (idsS Kg93.init) [] := rep_init hsame nx (free _ n4 hvl) (free _ n5 hcl) (free _ n6 htl) n1 n2 n3 n4 n5 n6 h1 h2 h3 h4
    -- given = []
    refine ⟨Nat.zero_le _, fun gv hgv => ?_⟩
    have hgv0 : H gv = none := hsame.free hgv
    have R1 := R0.fresh (o := .lst []) hgv
    -- the loop
    refine ⟨fun m σ H' => ∃ (i f : Nat) (s : Sta) (D : List Nat) (B : Role → Addr) (cs' : List (List (List Int))) (done : List Int) (v5 v6 : Option V), m = ns.length - i ∧ i ≤ ns.length ∧ σ = [some (.ref a), some (.ref x), some (.ref gv), some (.int i), v5, v6] ∧ B .store = x ∧ Good s D ∧ Wd s ∧ s.made + cs'.length ≤ 100 ∧ PyFlat.calls PyKg93.shape f (ns.drop i) = some cs' ∧ (∀ c ∈ cs', Kg93Neutral.asked1 (PyKg93.whole c) = true) ∧ due Kg93.init cs = done ++ due s cs' ∧ RepA CC CS B (upd H gv (.lst (done.map V.int))) H' s (idsS s) D,
      ⟨_, 0, ns.length, Kg93.init, [], B0 x vl cl tl, cs, [], none, none, rfl, Nat.zero_le _, rfl, rfl, init_good, Nat.le_refl _, by show 0 + cs.length ≤ 100; omega, hcs, hask, rfl, R1⟩, ?_⟩
    rintro m σ H' ⟨i, ff, s, D, B, cs', done, v5, v6, rfl, hi, rfl, hB, g, wd, hmade, hcalls, hask', hdue, R⟩
    have hS' : SqL K H' a (ns.map V.int) := ((same_upd hgv0).trans R.same).seq hS
    refine ⟨_, rfl, _, rfl, a, _, rfl, .inl hS', _, _, rfl, rfl, _, rfl, ?_⟩
    by_cases hlt : i < ns.length
    · refine ite2 (fun _ => ?_) (fun q => absurd (decide_eq_true (by rw [List.length_map]; omega)) q)
      -- the next call
      obtain ⟨p0, r0, e0⟩ : ∃ p r, ns.drop i = p :: r := by
        cases e : ns.drop i with
        | nil =>
          have := congrArg List.length e
          rw [List.length_drop, List.length_nil] at this
          omega
        | cons p r => exact ⟨p, r, rfl⟩
      rw [e0] at hcalls
      obtain ⟨f', c, t, cs2, hcall, hcs2, rfl⟩ := calls_cons hcalls
      obtain ⟨p, q, k, e1, hk, hof, hrow⟩ := call_cut hcall
      have edrop : ns.drop i = p :: (q ++ t) := e0.trans e1
      obtain ⟨ecut, erest, hle⟩ := cut_mid edrop hlt
      obtain ⟨hdom, hnum⟩ := T.num p q k hk
      have hqlen := kcall_len hk (hrow (hask' c (List.mem_cons_self ..)))
      have hp : ns[i]? = some p := by
        have := List.getElem?_drop (xs := ns) (i := i) (j := 0)
        rw [edrop] at this
        exact this.symm
      have hdc := due_cons (s := s) cs2 hof
      refine ⟨fun σ' H2 => ∃ (s2 : Sta) (D2 : List Nat) (B2 : Role → Addr) (done2 : List Int) (v5 v6 : Option V), σ' = [some (.ref a), some (.ref x), some (.ref gv), some (.int ((i + 1 + q.length : Nat) : Int)), v5, v6] ∧ B2 .store = x ∧ Good s2 D2 ∧ Wd s2 ∧ s2.made + cs2.length ≤ 100 ∧ due Kg93.init cs = done2 ++ due s2 cs2 ∧ RepA CC CS B2 (upd H gv (.lst (done2.map V.int))) H2 s2 (idsS s2) D2,
        fun σ' H2 ⟨s2, D2, B2, done2, v5, v6, z1, z2, z3, z4, z5, z6, z7⟩ => ⟨ns.length - (i + 1 + q.length), by omega, i + 1 + q.length, f', s2, D2, B2, cs2, done2, v5, v6, rfl, hle, z1, z2, z3, z4, z5, by rw [erest]; exact hcs2, fun c' hc' => hask' c' (List.mem_cons_of_mem _ hc'), z6, z7⟩, ?_⟩
      -- end = end_of_call(calls, at)
      refine ⟨_, rfl, _, rfl, a, ns, i, p, numOf p q, ((i + 1 + q.length : Nat) : Int), rfl, hS', hp, hnum, end_or hk edrop, ?_⟩
      -- answer = answer_call(store, calls[at:end])
      refine ⟨_, rfl, _, rfl, _, rfl, _, rfl, _, rfl, _, rfl, a, _, rfl, hS', fun cl2 hcl2 => ?_⟩
      rw [ecut]
      have R2 := R.fresh (o := .lst ((p :: q).map V.int)) hcl2
      have hgvH : H' gv = some (.lst (done.map V.int)) := R.same gv _ upd_same
      have ngc : gv ≠ cl2 := ne_of_none hgvH hcl2
      have hcl20 : (upd H gv (.lst (done.map V.int))) cl2 = none := R.same.free hcl2
      refine ⟨B, _, s, D, cl2, p, q, k, by rw [hB]; rfl, upd_same, R2, g, wd, by omega, hk, hqlen, hdom, fun H3 B3 D3 an hB3 han g3 w3 R3 => ?_⟩
      have hgv3 : H3 gv = some (.lst (done.map V.int)) := R3.same gv _ (by
        have : gv ≠ an := fun z => by rw [← z, upd_ne ngc, upd_same] at han; cases han
        rw [upd_ne this, upd_ne ngc]
        exact upd_same)
      have nga : gv ≠ an := fun z => by rw [← z, upd_ne ngc, upd_same] at han; cases han
      have nca : cl2 ≠ an := fun z => by rw [← z, upd_same] at han; cases han
      have han3 : H3 an = some (.lst (ansV (Kg93.spec s k).2)) := R3.same an _ upd_same
      -- sizes
      have hsz : done.length + ((Kg93.spec s k).2.value :: (Kg93.spec s k).2.out).length + 1 ≤ 10000000 := by
        have h9 := congrArg List.length hdue
        rw [hdc, List.length_append, List.length_append, List.length_cons] at h9
        omega
      -- given.append(len(answer))
      refine ⟨_, rfl, .inl ⟨rfl, _, SqL.of hgv3⟩, _, rfl, an, _, rfl, .inl (SqL.of han3), gv, _, _, rfl, rfl, hgv3, ?_, ?_⟩
      · rw [List.length_map]
        exact Nat.lt_of_le_of_lt (by omega : done.length ≤ 10000000) (by decide)
      have hgv4 : (upd H3 gv (.lst (done.map V.int ++ [V.int ((ansV (Kg93.spec s k).2).length : Nat)]))) gv = some (.lst (done.map V.int ++ [V.int ((ansV (Kg93.spec s k).2).length : Nat)])) := upd_same
      have han4 : (upd H3 gv (.lst (done.map V.int ++ [V.int ((ansV (Kg93.spec s k).2).length : Nat)]))) an = some (.lst (ansV (Kg93.spec s k).2)) := by rw [upd_ne nga.symm]; exact han3
      -- given.extend(answer)
      refine ⟨_, rfl, .inl ⟨rfl, _, SqL.of hgv4⟩, _, rfl, gv, an, _, _, rfl, rfl, hgv4, han4, ?_, ?_⟩
      · rw [List.length_append, List.length_map, List.length_singleton, List.length_map]
        exact Nat.le_trans (by omega : _ ≤ 10000000) (by decide)
      rw [upd_upd]
      refine ⟨_, rfl, ?_⟩
      refine ⟨(Kg93.spec s k).1, D3, B3, done ++ ((((Kg93.spec s k).2.value :: (Kg93.spec s k).2.out).length : Int) :: ((Kg93.spec s k).2.value :: (Kg93.spec s k).2.out)), _, _, rfl, hB3.trans hB, g3, w3, ?_, ?_, ?_⟩
      · have := spec_made s k
        rw [List.length_cons] at hmade
        omega
      · rw [hdue, hdc, List.append_assoc]
      · have e9 : (done ++ ((((Kg93.spec s k).2.value :: (Kg93.spec s k).2.out).length : Int) :: ((Kg93.spec s k).2.value :: (Kg93.spec s k).2.out))).map V.int = done.map V.int ++ [V.int ((ansV (Kg93.spec s k).2).length : Nat)] ++ ansV (Kg93.spec s k).2 := by
          rw [List.map_append, List.map_cons, List.append_assoc]
          show _ ++ (V.int _ :: ansV _) = _ ++ ([V.int ((List.map V.int _).length : Nat)] ++ ansV _)
          rw [List.length_map]
          rfl
        rw [e9]
        have R4 := R3.tmp (p := gv) (o' := .lst (done.map V.int)) (o := .lst (done.map V.int ++ [V.int ((ansV (Kg93.spec s k).2).length : Nat)] ++ ansV (Kg93.spec s k).2)) (by rw [upd_ne nga, upd_ne ngc]; exact upd_same)
        refine R4.weak ?_
        intro b o e
        by_cases z : b = gv
        · subst z
          rw [upd_same] at e ⊢
          exact e
        · rw [upd_ne z] at e ⊢
          have eH : (upd H gv (.lst (done.map V.int))) b = some o := by rw [upd_ne z]; exact e
          have hb2 : b ≠ cl2 := ne_of_none eH hcl20
          have hba : b ≠ an := fun y => by
            rw [← y, upd_ne hb2, eH] at han
            cases han
          rw [upd_ne hba, upd_ne hb2]
          exact eH
    · have hil : i = ns.length := by omega
      refine ite2 (fun q => absurd (of_decide_eq_true q) (by rw [List.length_map]; omega)) (fun _ => ?_)
      have hcs0 : cs' = [] := by
        rw [hil, List.drop_length] at hcalls
        exact calls_nil hcalls
      refine ⟨_, rfl, cont H' gv ?_⟩
      rw [hdue, hcs0, due_nil, List.append_nil]
      exact R.same gv _ upd_same
end
end Gc
set_option Elab.async false
set_option maxRecDepth 100000
set_option maxHeartbeats 4000000
namespace Gc
open PySem PySem.Spec PyProof.Rows L2
open PySem.W (Codec)
abbrev row : PySem.W.OpenSpec := PySem.Challenge.rw_letgostore_s01_answers
/-- the request -/
theorem spec_S (K : PySem.W.Frag) (H : Hp) (xs : List V) (a : Codec.denoteAll row.args) (hask : Codec.app row.args row.asked a = true) (hx : DwAll K H xs (Codec.encAll row.args a)) :
    sp_answers K xs H (fun v H' => Dw K H' v (row.ret.enc (Codec.app row.args row.f a))) fun _ _ _ => False := by
  cases hx with
  | cons h1 h2 =>
    cases h2
    cases h1 with
    | lst hs ha =>
      have e := L2.ints_dw a.1 _ ha
      subst e
      have hask' : PyKg93.answers_asked a.1 = true := hask
      obtain ⟨cs, hcs, h100, hall, hbig⟩ := asked_facts hask'
      have ed := answers_due hcs
      refine ⟨_, a.1, cs, rfl, hs, hcs, h100, hall, by rw [← ed]; exact hbig, fun H' p hp => ?_⟩
      rw [← ed] at hp
      exact .lst (L2.SqL.of hp) (L2.dw_ints _)
end Gc
set_option Elab.async false
set_option maxRecDepth 100000
set_option maxHeartbeats 4000000
namespace Gc
open PySem PySem.Spec PyProof.Rows L2
/-! ### words taken, phases, steps -/
theorem Good.words {s : Sta} {D : List Nat} (g : Good s D) (ws : List Int) : Good { s with words := ws } D :=
  ⟨g.sorted, g.lt, g.dlt, g.nd, g.v16, g.vars, g.flds, g.dang, g.shape, g.rem, g.remNd, g.remOk, g.white, g.tri⟩
section
variable {CC CS : Addr} {B : Role → Addr} {H0 H : Hp} {s : Sta} {lst : List Nat} {D : List Nat} {p dx : Addr}
theorem RepA.setPhase (R : RepA CC CS B H0 H s lst D) (ph : Kg93.Phase) {sw : Int} (hsw : ∀ n, ph = .sweep n → sw = (n : Int) - 1) :
    RepA CC CS B H0 (upd H (B .store) (.ins CS dx (storeF (B .vars) (B .cells) (B .told) s.made (phN ph) sw))) { s with phase := ph } lst D := by
  refine R.put (r := .store) trivial (t := { s with phase := ph }) (fun j => rfl) ⟨dx, sw, hsw, rfl⟩ ?_
  intro r' o' hne h
  cases r' with
  | store => exact absurd rfl hne
  | _ => exact h
theorem RepA.moveTold {ws : List Int} (R : RepA CC CS B (upd H0 p (.lst (ws.map V.int))) H s lst D) (hp0 : H0 p = none) {sw : Int} (hsw : ∀ n, s.phase = .sweep n → sw = (n : Int) - 1) :
    RepA CC CS (fun x => if x = .told then p else B x) H0 (upd H (B .store) (.ins CS dx (storeF (B .vars) (B .cells) p s.made (phN s.phase) sw))) { s with words := ws } lst D := by
  refine R.move hp0 (r := .told) (q := .store) (fun z => by cases z) (fun j z => by cases z) trivial trivial (t := { s with words := ws }) (fun j => rfl) rfl ⟨dx, sw, hsw, rfl⟩ ?_
  intro r' o' hne hne2 h
  cases r' with
  | told => exact absurd rfl hne
  | store => exact absurd rfl hne2
  | _ => exact h
end
theorem Wd.step {s t : Sta} {D : List Nat} (g : Good s D) (w : Wd s) {b : Bool} {k : Nat} (h : s.step = some (t, b, k)) : Wd t := by
  unfold Wd at w ⊢
  unfold Kg93.State.step at h
  split at h
  · simp only [Option.some.injEq, Prod.mk.injEq] at h
    rw [← h.1]
    show s.words.length + (s.cells.map _).length ≤ s.made
    rw [List.length_map]
    exact w
  · split at h
    · simp only [Option.some.injEq, Prod.mk.injEq] at h
      rw [← h.1]
      show s.words.length + ((s.cells.map _).map _).length ≤ s.made
      rw [List.length_map, List.length_map]
      exact w
    · simp only at h
      split at h
      · simp only [Option.some.injEq, Prod.mk.injEq] at h
        rw [← h.1]
        show s.words.length + (s.cells.map _).length ≤ s.made
        rw [List.length_map]
        exact w
      · simp only [Option.some.injEq, Prod.mk.injEq] at h
        rw [← h.1]
        show s.words.length + (s.cells.map _).length ≤ s.made
        rw [List.length_map]
        exact w
  · split at h
    · cases h
    · next n hp c hc =>
      split at h
      · simp only [Option.some.injEq, Prod.mk.injEq] at h
        rw [← h.1]
        show (s.words ++ c.word.toList).length + (s.cells.filter fun d => d.id != c.id).length ≤ s.made
        have e := filter_part (fun d : Kg93.Cell => d.id != c.id) s.cells
        have e2 : 1 ≤ (s.cells.filter fun d => !(d.id != c.id)).length := by
          have hcm : c ∈ s.cells := List.mem_of_find?_eq_some hc
          exact List.length_pos_of_mem (List.mem_filter.mpr ⟨hcm, by simp⟩)
        have e3 : c.word.toList.length ≤ 1 := by cases c.word <;> simp
        rw [List.length_append]
        omega
      · simp only [Option.some.injEq, Prod.mk.injEq] at h
        rw [← h.1]
        show s.words.length + (s.cells.map _).length ≤ s.made
        rw [List.length_map]
        exact w
end Gc
set_option Elab.async false
set_option maxRecDepth 100000
set_option maxHeartbeats 4000000
namespace Gc
open PySem PySem.Spec PyProof.Rows L2
abbrev s_make_grey : Stmt := top 24
theorem sc_make_grey : FnScope ["looked_at", "white", "cell", "held"] ["looked_at"] (defScope s_make_grey) := ⟨rfl, rfl, rfl, by decide +kernel, rfl, by decide +kernel, by decide +kernel⟩
/-! ### white ones made grey -/
theorem shade_at (s : Sta) (l : List Nat) (j : Nat) : (s.shade l).at_ j = (s.at_ j).map (shadeF l) := at_map (shadeF l) (fun c => (shadeF_eq l c).1) j
theorem shadeF_congr {l m : List Nat} {c : Cl} (h : c.old = true → c.colour = .white → (c.id ∈ l ↔ c.id ∈ m)) : shadeF l c = shadeF m c := by
  unfold shadeF
  by_cases q : c.old = true ∧ c.colour = .white
  · have e := h q.1 q.2
    by_cases z : c.id ∈ l
    · rw [if_pos ⟨q.1, q.2, by simpa using z⟩, if_pos ⟨q.1, q.2, by simpa using e.mp z⟩]
    · rw [if_neg (fun y => z (by simpa using y.2.2)), if_neg (fun y => z (e.mpr (by simpa using y.2.2)))]
  · rw [if_neg (fun y => q ⟨y.1, y.2.1⟩), if_neg (fun y => q ⟨y.1, y.2.1⟩)]
theorem shade_congr {s : Sta} {l m : List Nat} (h : ∀ c ∈ s.cells, c.old = true → c.colour = .white → (c.id ∈ l ↔ c.id ∈ m)) : s.shade l = s.shade m := by
  show ({ s with cells := s.cells.map (shadeF l) } : Sta) = { s with cells := s.cells.map (shadeF m) }
  rw [List.map_congr_left fun c hc => shadeF_congr (h c hc)]
theorem shade_self {s : Sta} {D : List Nat} (g : Good s D) {l : List Nat} : s.shade l = s ↔ ∀ i ∈ l, s.isWhite i = false := by
  constructor
  · intro h i hi
    cases q : s.isWhite i with
    | false => rfl
    | true =>
      exfalso
      obtain ⟨c, hc, e, ho, hw⟩ := (isWhite_iff g).mp q
      have h1 := shade_at s l i
      rw [h] at h1
      have hat : s.at_ i = some c := g.at_iff.mpr ⟨hc, e⟩
      rw [hat] at h1
      have h2 : c = shadeF l c := Option.some.inj h1
      unfold shadeF at h2
      rw [if_pos ⟨ho, hw, by rw [e]; simpa using hi⟩] at h2
      have := congrArg Kg93.Cell.colour h2
      rw [hw] at this
      cases this
  · intro h
    have e : s.cells.map (shadeF l) = s.cells := by
      calc s.cells.map (shadeF l) = s.cells.map id := List.map_congr_left fun c hc => by
            unfold shadeF
            rw [if_neg]
            · rfl
            · rintro ⟨ho, hw, hl⟩
              have := h c.id (by simpa using hl)
              rw [g.isWhite hc, ho, hw] at this
              cases this
        _ = s.cells := List.map_id _
    show ({ s with cells := s.cells.map (shadeF l) } : Sta) = s
    rw [e]
theorem shade_at_congr {s : Sta} {l m : List Nat} (h : ∀ i, s.isWhite i = true → (i ∈ l ↔ i ∈ m)) (j : Nat) : (s.shade l).at_ j = (s.shade m).at_ j := by
  rw [shade_at, shade_at]
  cases e : s.at_ j with
  | none => rfl
  | some c =>
    refine congrArg some (shadeF_congr fun ho hw => ?_)
    rw [at_id e]
    refine h j ?_
    unfold Kg93.State.isWhite
    rw [e]
    show (c.old && c.colour == .white) = true
    rw [ho, hw]
    rfl
/-- one more -/
theorem shadeF_more {l : List Nat} {j : Nat} {c : Cl} (h : c.id ≠ j) : shadeF (l ++ [j]) c = shadeF l c := by
  refine shadeF_congr fun _ _ => ?_
  simp [h]
theorem shadeF_hit {l : List Nat} {c : Cl} (ho : c.old = true) (hw : c.colour = .white) (h : c.id ∈ l) : shadeF l c = { c with colour := .grey } := by
  unfold shadeF
  rw [if_pos ⟨ho, hw, by simpa using h⟩]
theorem shadeF_grey (l : List Nat) (c : Cl) : ({ shadeF l c with colour := .grey } : Cl) = { c with colour := .grey } := by
  unfold shadeF
  split <;> rfl
theorem isWhite_some {s : Sta} {i : Nat} (h : s.isWhite i = true) : ∃ c, s.at_ i = some c ∧ c.old = true ∧ c.colour = .white := by
  unfold Kg93.State.isWhite at h
  rw [Option.any_eq_true] at h
  obtain ⟨c, h1, h2⟩ := h
  rw [Bool.and_eq_true] at h2
  exact ⟨c, h1, h2.1, by simpa using h2.2⟩
def sp_make_grey (K : PySem.W.Frag) (CC CS : Addr) : Sp := fun vs H Q _ => ∃ (B : Role → Addr) (H0 : Hp) (s : Sta) (lst D : List Nat) (l : Addr) (ys : List Vl), vs = [.ref l] ∧ RepA CC CS B H0 H s lst D ∧ (∀ H1 H', Same H0 H1 → RepA CC CS B H1 H' s lst D → SqL K H' l (ys.map (vV (adB B)))) ∧ (∀ v ∈ ys, AliveV s v) ∧ ys.length ≤ 100000 ∧
  ∀ H', RepA CC CS B H0 H' (s.shade (Kg93.idsOf ys)) lst D → Q (.bl (!(ys.filter (whiteB s)).isEmpty)) H'
section
variable {P : Program} {w : World} {K : PySem.W.Frag} {mg : Str → Option Value} {base : Heap} {CC CS : Addr}
theorem cal_make_grey (F : Def K mg "make_grey" s_make_grey ["looked_at"]) (T : Txt K mg CC CS) (c_is_white : Cal P w K mg base 2 "is_white" (sp_is_white CC)) : Cal P w K mg base 3 "make_grey" (sp_make_grey K CC CS) := by
  refine F.cal sc_make_grey (fun vs H Q E h => ?_) (fun f cdv A outer sh H vs Q E hr h => ?_)
  · obtain ⟨B, H0, s, lst, D, l, ys, rfl, _⟩ := h
    rfl
  · obtain ⟨B, H0, s, lst, D, l, ys, rfl, R, hsq, hal, hlen, cont⟩ := h
    refine ⟨_, (pss_cons (ps_setLc (i := 1) (own := [("held", 3)]) (g := gName 3) (tt := (tB (tCall _ [] E0 (tCons (tVar 3) tNil)))) (te := (tVar 3)) rfl sc_make_grey.nd rfl rfl (sw_true rfl rfl rfl (by decide +kernel)) (pi_list (pv 0)) (blkOk_by (own := [("held", 3)]) (N := ["looked_at", "white", "cell", "held"]) (sc := defScope s_make_grey) (by decide +kernel)) (fun _ _ _ _ _ => pg_name (i := 3) sc_make_grey.nd rfl (Or.inl rfl)) (fun _ _ _ _ _ => pts_one (pt_val (C8.pe_c c_is_white hr (by decide) rfl (pa_cons (pv 3) pa_nil)))) (fun _ _ _ _ _ => (pv 3))) (pss_cons (ps_for PassesOwn.never rfl (pi_list (pv 1)) (pg_name (i := 2) sc_make_grey.nd rfl (Or.inl rfl)) (pss_one (ps_fld (pv 2) (C8.pe_gc rfl T.k_GREY) rfl))) (pss_one (ps_ret (pe_cmpR op_gt (pe_callB call_len_seq (by rfl) T.b_len PySem.boot_len (pa_cons (pv 1) pa_nil)) pe_int (nomark _)))))), ?_⟩
    -- white = [..]
    refine ⟨_, rfl, l, rfl, ⟨_, hsq H0 H (fun _ _ e => e) R⟩, fun p hp => ?_⟩
    have hp0 : H0 p = none := R.same.free hp
    refine lc_rep ys (vV (adB B)) R hp (fun o H' R' => hsq _ _ (same_upd hp0) R') (whiteB s) (vV (adB B)) (Nat.lt_of_le_of_lt hlen (by decide)) ?_ ?_
    · intro v hv o H' R' Y N hY hN
      refine ⟨rfl, _, rfl, _, _, rfl, R'.isW (hal v hv), _, rfl, ?_⟩
      cases z : whiteB s v with
      | true => exact iteT ⟨_, rfl, hY z⟩
      | false => exact iteF (hN z)
    intro H1 R1
    -- for cell in white: cell.colour = GREY
    refine ⟨_, rfl, p, rfl, ⟨_, SqL.of (R1.same p _ upd_same)⟩, for_list (K := K) (a := p) (xs := (ys.filter (whiteB s)).map (vV (adB B))) (fun i σ H' => ∃ v : Option V, σ = [some (.ref l), some (.ref p), v, none] ∧ RepA CC CS B (upd H0 p (.lst ((ys.filter (whiteB s)).map (vV (adB B))))) H' (s.shade (Kg93.idsOf ((ys.filter (whiteB s)).take i))) lst D)
      ⟨none, rfl, ?_⟩ (fun i σ H' _ ⟨_, _, R5⟩ => SqL.of (R5.same p _ upd_same)) ?_ ?_⟩
    · refine R1.congr rfl rfl rfl rfl (fun i => ?_) (fun _ _ _ => rfl)
      rw [shade_at]
      cases s.at_ i with
      | none => rfl
      | some c => exact congrArg some (shadeF_nil c)
    · rintro i x σ H' hi ⟨v, rfl, R5⟩
      rw [List.getElem?_map] at hi
      obtain ⟨y, hy, rfl⟩ := Option.map_eq_some_iff.mp hi
      obtain ⟨hym, hyw⟩ := List.mem_filter.mp (List.mem_of_getElem? hy)
      obtain ⟨j, rfl⟩ : ∃ j, y = .cell j := by
        cases y with
        | none_ => cases hyw
        | num z => cases hyw
        | cell j => exact ⟨j, rfl⟩
      obtain ⟨c, hc, ho, hw⟩ := isWhite_some (show s.isWhite j = true from hyw)
      have hid := at_id hc
      obtain ⟨d, hd⟩ : ∃ d, d = shadeF (Kg93.idsOf ((ys.filter (whiteB s)).take i)) c := ⟨_, rfl⟩
      have hat : (s.shade (Kg93.idsOf ((ys.filter (whiteB s)).take i))).at_ j = some d := by rw [shade_at, hc, hd]; rfl
      have heq := shadeF_eq (Kg93.idsOf ((ys.filter (whiteB s)).take i)) c
      rw [← hd] at heq
      obtain ⟨dc, hcell⟩ := R5.cell hat
      refine ⟨_, rfl, B (.cell j), CC, dc, _, rfl, hcell, T.isC.cl, T.n_colour, (by show 8 < 1000; decide), ?_⟩
      have epf : putF "colour" (.int 1) (cellF (B (.flds j)) ((s.shade (Kg93.idsOf ((ys.filter (whiteB s)).take i))).remembered.contains j) d) = _ := pf_colour .grey (heq.2.2.2.1.trans ho)
      rw [epf]
      have R6 := R5.putCell (dx := dc) (c' := { d with colour := .grey }) hat (heq.1.trans hid) rfl (rem := s.remembered) (fun _ _ => rfl)
      refine ⟨_, rfl, ?_⟩
      have et : Kg93.idsOf ((ys.filter (whiteB s)).take (i + 1)) = Kg93.idsOf ((ys.filter (whiteB s)).take i) ++ [j] := by
        rw [take_more hy]
        unfold Kg93.idsOf
        rw [List.filterMap_append]
        rfl
      refine R6.congr rfl rfl rfl rfl (fun m => ?_) (fun _ _ _ => rfl)
      rw [et]
      show _ = ((s.shade (Kg93.idsOf ((ys.filter (whiteB s)).take i))).put _).at_ m
      by_cases q : m = j
      · subst q
        rw [put_at_same (c := { d with colour := .grey }) hat (heq.1.trans hid), shade_at, hc, hd, shadeF_grey]
        exact congrArg some (shadeF_hit ho hw (by rw [hid]; simp))
      · rw [put_at_ne (c := { d with colour := .grey }) (fun z => q (z.trans (heq.1.trans hid))), shade_at, shade_at]
        cases em : s.at_ m with
        | none => rfl
        | some e => exact congrArg some (shadeF_more (by rw [at_id em]; exact q))
    · rintro σ H' ⟨v, rfl, R5⟩
      rw [List.length_map, List.take_length] at R5
      refine ⟨_, rfl, p, _, rfl, .inl (SqL.of (R5.same p _ upd_same)), _, _, rfl, rfl, ?_⟩
      have e : decide ((0 : Int) < (((ys.filter (whiteB s)).map (vV (adB B))).length : Nat)) = !(ys.filter (whiteB s)).isEmpty := by
        cases ys.filter (whiteB s) with
        | nil => rfl
        | cons a r => simp
      show Q (.bl (decide ((0 : Int) < (((ys.filter (whiteB s)).map (vV (adB B))).length : Nat)))) H'
      rw [e]
      refine cont H' ((R5.weak (same_upd hp0)).congr rfl rfl rfl rfl (shade_at_congr fun i hi => ?_) (fun _ _ _ => rfl))
      rw [idsOf_mem, idsOf_mem, List.mem_filter]
      exact ⟨fun h => ⟨h, hi⟩, fun h => h.1⟩
end
end Gc
set_option Elab.async false
set_option maxRecDepth 100000
set_option maxHeartbeats 4000000
namespace Gc
open PySem PySem.Spec PyProof.Rows L2
abbrev s_held_from_outside : Stmt := top 25
theorem sc_held_from_outside : FnScope ["store", "looked_at", "cell"] ["store"] (defScope s_held_from_outside) := ⟨rfl, rfl, rfl, by decide +kernel, rfl, by decide +kernel, by decide +kernel⟩
abbrev s_looked_at_first : Stmt := top 26
theorem sc_looked_at_first : FnScope ["store", "keyed", "cell"] ["store"] (defScope s_looked_at_first) := ⟨rfl, rfl, rfl, by decide +kernel, rfl, by decide +kernel, by decide +kernel⟩
abbrev s_looked_at_again : Stmt := top 27
theorem sc_looked_at_again : FnScope ["store", "keyed", "cell"] ["store"] (defScope s_looked_at_again) := ⟨rfl, rfl, rfl, by decide +kernel, rfl, by decide +kernel, by decide +kernel⟩
/-! ### what is looked at -/
def outB (c : Cl) : Bool := !c.old && decide (c.kind = .plain)
def hoOf (s : Sta) (l : List Cl) : List Vl := s.vars ++ (l.filter outB).flatMap (·.fields)
theorem hoOf_len {s : Sta} {D : List Nat} (g : Good s D) : ∀ l : List Cl, (∀ c ∈ l, c ∈ s.cells) → (hoOf s l).length ≤ 16 + 6 * l.length := by
  intro l hl
  unfold hoOf
  rw [List.length_append, g.v16]
  have : ((l.filter outB).flatMap (·.fields)).length ≤ 6 * l.length := by
    induction l with
    | nil => simp
    | cons c l ih =>
      have h1 := ih fun d hd => hl d (List.mem_cons_of_mem _ hd)
      have h2 := g.six (hl c (List.mem_cons_self ..))
      rw [List.filter_cons]
      split
      · rw [List.flatMap_cons, List.length_append, List.length_cons]; omega
      · rw [List.length_cons]; omega
  omega
def comeV (s : Sta) : Vl → Bool
  | .cell i => !s.isWhite i
  | _ => false
def laBy (s : Sta) (p : Cl → Bool) (q : Vl → Bool) : List Vl := hoOf s s.cells ++ ((s.cells.filter fun c => decide (c.kind = .keyed) && p c).filter fun c => q (f0 c)).map f1
def laF (s : Sta) : List Vl := laBy s (fun c => !c.old) (youngB s)
def laA (s : Sta) : List Vl := laBy s (fun c => comeV s (.cell c.id)) (comeV s)
theorem Good.aliveFld {s : Sta} {D : List Nat} (g : Good s D) (hs : ∀ c ∈ s.cells, Safe s c) {c : Cl} (hc : c ∈ s.cells) {v : Vl} (hv : v ∈ c.fields) : AliveV s v := fun j e => by
  subst e
  obtain ⟨d, a, b, _⟩ := g.flds c hc (hs c hc) j hv
  rw [← b, g.atc a]
  rfl
theorem Good.aliveMem {s : Sta} {D : List Nat} (g : Good s D) {v : Vl} (hv : v ∈ s.vars) : AliveV s v := fun j e => by
  subst e
  obtain ⟨d, a, b, _⟩ := g.vars j hv
  rw [← b, g.atc a]
  rfl
theorem laBy_alive {s : Sta} {D : List Nat} (g : Good s D) (hs : ∀ c ∈ s.cells, Safe s c) {p : Cl → Bool} {q : Vl → Bool} {v : Vl} (h : v ∈ laBy s p q) : AliveV s v := by
  unfold laBy hoOf at h
  rcases List.mem_append.mp h with h | h
  · rcases List.mem_append.mp h with h | h
    · exact g.aliveMem h
    · obtain ⟨c, hc, hv⟩ := List.mem_flatMap.mp h
      exact g.aliveFld hs (List.mem_filter.mp hc).1 hv
  · obtain ⟨c, hc, rfl⟩ := List.mem_map.mp h
    obtain ⟨hc, hk⟩ := List.mem_filter.mp (List.mem_filter.mp hc).1
    rw [Bool.and_eq_true, decide_eq_true_eq] at hk
    refine g.aliveFld hs hc ?_
    rw [g.keyed hc hk.1]
    exact List.mem_cons_of_mem _ (List.mem_cons_self ..)
theorem laBy_len {s : Sta} {D : List Nat} (g : Good s D) {p : Cl → Bool} {q : Vl → Bool} : (laBy s p q).length ≤ 16 + 7 * s.made := by
  unfold laBy
  rw [List.length_append, List.length_map]
  have h1 := hoOf_len g s.cells (fun _ h => h)
  have h2 := Nat.le_trans (List.length_filter_le (fun c => q (f0 c)) (s.cells.filter fun c => decide (c.kind = .keyed) && p c)) (List.length_filter_le _ _)
  have h3 := g.count
  omega
/-- the same as the specification looks at -/
theorem come_eq {s : Sta} {D : List Nat} (g : Good s D) {c : Cl} (hc : c ∈ s.cells) : comeV s (.cell c.id) = come c := by
  show (!s.isWhite c.id) = _
  rw [g.isWhite hc]
  unfold come
  cases c.old <;> cases c.colour <;> rfl
theorem roots_iff {s : Sta} {D : List Nat} (g : Good s D) (hs : ∀ c ∈ s.cells, Safe s c) (i : Nat) : i ∈ s.roots ↔ Kg93.V.cell i ∈ laA s := by
  have hat : ∀ c ∈ s.cells, ∀ k v, c.fields = [.cell k, v] → (s.at_ k).any come = comeV s (.cell k) := by
    intro c hc k v hf
    obtain ⟨d, hd, e, _⟩ := g.flds c hc (hs c hc) k (by rw [hf]; exact List.mem_cons_self ..)
    rw [← e, g.atc hd, come_eq g hd]
    rfl
  unfold laA laBy hoOf Kg93.State.roots
  simp only [List.mem_append]
  rw [or_assoc]
  refine or_congr idsOf_mem (or_congr ?_ ?_)
  · rw [List.mem_flatMap, List.mem_flatMap]
    constructor
    · rintro ⟨c, hc, hi⟩
      obtain ⟨hc, ho⟩ := List.mem_filter.mp hc
      obtain ⟨hp, hf⟩ := keeps_mem.mp hi
      exact ⟨c, List.mem_filter.mpr ⟨hc, by unfold outB; rw [decide_eq_true hp, ho]; rfl⟩, hf⟩
    · rintro ⟨c, hc, hi⟩
      obtain ⟨hc, ho⟩ := List.mem_filter.mp hc
      unfold outB at ho
      rw [Bool.and_eq_true, decide_eq_true_eq] at ho
      exact ⟨c, List.mem_filter.mpr ⟨hc, ho.1⟩, keeps_mem.mpr ⟨ho.2, hi⟩⟩
  · rw [List.mem_flatMap, List.mem_map]
    constructor
    · rintro ⟨c, hc, hi⟩
      obtain ⟨hc, ho⟩ := List.mem_filter.mp hc
      have ho' : come c = true := ho
      split at hi
      · next k v hp =>
        obtain ⟨hk, hf⟩ := pair_some.mp hp
        split at hi
        · next hz =>
          rw [List.mem_singleton] at hi
          subst hi
          have hz' : (s.at_ k).any come = true := hz
          rw [hat c hc _ _ hf] at hz'
          refine ⟨c, List.mem_filter.mpr ⟨List.mem_filter.mpr ⟨hc, ?_⟩, ?_⟩, ?_⟩
          · rw [decide_eq_true hk, come_eq g hc, ho']; rfl
          · unfold f0; rw [hf]; exact hz'
          · unfold f1; rw [hf]; rfl
        · cases hi
      · cases hi
    · rintro ⟨c, hc, hi⟩
      obtain ⟨hc, hq⟩ := List.mem_filter.mp hc
      obtain ⟨hc, hk⟩ := List.mem_filter.mp hc
      rw [Bool.and_eq_true, decide_eq_true_eq, come_eq g hc] at hk
      have hf := g.keyed hc hk.1
      have hsh := g.shape c hc
      unfold Shape at hsh
      rw [hk.1] at hsh
      rcases hsh with z | ⟨k, v, z⟩
      · unfold f1 at hi
        rw [z] at hi
        cases hi
      · have e1 : v = .cell i := by
          have : f1 c = v := by unfold f1; rw [z]; rfl
          rw [← this]; exact hi
        subst e1
        have e0 : f0 c = .cell k := by unfold f0; rw [z]; rfl
        rw [e0, ← hat c hc _ _ z] at hq
        refine ⟨c, List.mem_filter.mpr ⟨hc, hk.2⟩, ?_⟩
        rw [pair_some.mpr ⟨hk.1, z⟩]
        have hq' : (s.at_ k).any (fun c => !c.old || c.colour != .white) = true := hq
        simp only [hq', if_true, List.mem_singleton]
theorem laF_rest {s : Sta} {D : List Nat} (g : Good s D) (hp : ∀ c ∈ s.cells, c.old = true → c.colour = .white) (hs : ∀ c ∈ s.cells, Safe s c) : laF s = laA s := by
  have hcome : ∀ c ∈ s.cells, come c = !c.old := by
    intro c hc
    unfold come
    cases ho : c.old with
    | false => rfl
    | true => rw [hp c hc ho]; rfl
  unfold laF laA laBy
  congr 2
  have e1 : (s.cells.filter fun c => decide (c.kind = .keyed) && !c.old) = s.cells.filter fun c => decide (c.kind = .keyed) && comeV s (.cell c.id) := by
    refine List.filter_congr fun c hc => ?_
    rw [come_eq g hc, hcome c hc]
  rw [e1]
  refine List.filter_congr fun c hc => ?_
  obtain ⟨hc, hk⟩ := List.mem_filter.mp hc
  rw [Bool.and_eq_true, decide_eq_true_eq] at hk
  have hf := g.keyed hc hk.1
  cases e : f0 c with
  | none_ => rfl
  | num z => rfl
  | cell i =>
    obtain ⟨d, hd, e2, _⟩ := g.flds c hc (hs c hc) i (by rw [hf, e]; exact List.mem_cons_self ..)
    show s.isYoung i = comeV s (.cell i)
    rw [← e2, come_eq g hd, hcome d hd, g.young hd]
def sp_held_from_outside (CC CS : Addr) : Sp := fun vs H Q _ => ∃ B H0 s D, vs = [.ref (B .store)] ∧ RepA CC CS B H0 H s (idsS s) D ∧ Good s D ∧ s.made ≤ 1000 ∧
  ∀ H' p, H0 p = none → RepA CC CS B (upd H0 p (.lst ((hoOf s s.cells).map (vV (adB B))))) H' s (idsS s) D → Q (.ref p) H'
def sp_looked_at_first (CC CS : Addr) : Sp := fun vs H Q _ => ∃ B H0 s D, vs = [.ref (B .store)] ∧ RepA CC CS B H0 H s (idsS s) D ∧ Good s D ∧ s.made ≤ 1000 ∧ (∀ c ∈ s.cells, Safe s c) ∧
  ∀ H' p, H0 p = none → RepA CC CS B (upd H0 p (.lst ((laF s).map (vV (adB B))))) H' s (idsS s) D → Q (.ref p) H'
def sp_looked_at_again (CC CS : Addr) : Sp := fun vs H Q _ => ∃ B H0 s D, vs = [.ref (B .store)] ∧ RepA CC CS B H0 H s (idsS s) D ∧ Good s D ∧ s.made ≤ 1000 ∧ (∀ c ∈ s.cells, Safe s c) ∧
  ∀ H' p, H0 p = none → RepA CC CS B (upd H0 p (.lst ((laA s).map (vV (adB B))))) H' s (idsS s) D → Q (.ref p) H'
theorem dec_kind (c : Cl) (k : Kg93.Kind) : decide (V.int (kindN c.kind) = V.int (kindN k)) = decide (c.kind = k) := by
  refine decide_eq_decide.mpr ⟨fun h => ?_, fun h => by rw [h]⟩
  injection h with h
  exact kind_eq.mp h
section
variable {P : Program} {w : World} {K : PySem.W.Frag} {mg : Str → Option Value} {base : Heap} {CC CS : Addr}
theorem cal_held_from_outside (F : Def K mg "held_from_outside" s_held_from_outside ["store"]) (T : Txt K mg CC CS) : Cal P w K mg base 1 "held_from_outside" (sp_held_from_outside CC CS) := by
  refine F.cal sc_held_from_outside (fun vs H Q E h => ?_) (fun f cdv A outer sh H vs Q E hr h => ?_)
  · obtain ⟨B, H0, s, D, rfl, _⟩ := h
    rfl
  · obtain ⟨B, H0, s, D, rfl, R, g, hm, k⟩ := h
    refine ⟨_, (pss_cons (ps_set (i := 1) sc_held_from_outside.nd rfl (Or.inl rfl) (pe_callTy call_list_of (by rfl) T.b_list (by decide +kernel) (pa_cons (pe_fld (pv 0) rfl) pa_nil))) (pss_cons (ps_for PassesOwn.never rfl (pi_list (pe_fld (pv 0) rfl)) (pg_name (i := 2) sc_held_from_outside.nd rfl (Or.inl rfl)) (pss_one (ps_if (PW.pt (pw_and (pt_val (pe_fld (pv 2) rfl)) (pw_and1 (pt_cmpR op_eq (pe_fld (pv 2) rfl) (C8.pe_gc rfl T.k_PLAIN) (nomark _))))) (pss_one (ps_expr (pe_bm PySem.F.plainAttrs_list PySem.F.slot_list_extend PySem.F.type_list_extend mt_extend (pv 1) (pa_cons (pe_fld (pv 2) rfl) pa_nil)))) pss_nil))) (pss_one (ps_ret (pv 1))))), ?_⟩
    obtain ⟨dx, sw, hsw, hst⟩ := R.store
    refine ⟨_, rfl, B .store, CS, dx, _, _, rfl, hst, T.cS, T.m_variables, sf_variables, B .vars, _, rfl, .inl (SqL.of R.vars), fun l hl => ?_⟩
    have R1 : RepA CC CS B (upd H0 l (.lst (s.vars.map (vV (adB B))))) _ s (idsS s) D := R.fresh hl
    have h0 : H0 l = none := R.same.free hl
    obtain ⟨dx1, sw1, hsw1, hst1⟩ := R1.store
    have hcount := g.count
    refine ⟨_, rfl, B .store, CS, dx1, _, _, rfl, hst1, T.cS, T.m_cells, sf_cells, B .cells, rfl, ⟨_, SqL.of R1.cells⟩,
      for_list (K := K) (a := B .cells) (xs := (idsS s).map fun i => V.ref (B (.cell i))) (fun i σ H' => ∃ v : Option V, σ = [some (.ref (B .store)), some (.ref l), v] ∧ RepA CC CS B (upd H0 l (.lst ((hoOf s (s.cells.take i)).map (vV (adB B))))) H' s (idsS s) D)
      ⟨none, rfl, ?_⟩ (fun i σ H' _ ⟨_, _, R5⟩ => SqL.of R5.cells) ?_ ?_⟩
    · have e : hoOf s (s.cells.take 0) = s.vars := by unfold hoOf; simp
      rw [e]
      exact R1
    · rintro i x σ H' hi ⟨v, rfl, R5⟩
      obtain ⟨c, hc, rfl⟩ := ids_get hi
      have hcm : c ∈ s.cells := List.mem_of_getElem? hc
      obtain ⟨dc, hcell⟩ := R5.cell (g.atc hcm)
      have step : hoOf s (s.cells.take (i + 1)) = hoOf s (s.cells.take i) ++ (if outB c = true then c.fields else []) := by
        unfold hoOf
        rw [take_more hc, List.filter_append, List.flatMap_append, List.append_assoc]
        congr 2
        by_cases q : outB c = true
        · rw [if_pos q, List.filter_cons, if_pos q]; simp
        · rw [if_neg q, List.filter_cons, if_neg q]; simp
      have no : outB c = false → RepA CC CS B (upd H0 l (.lst ((hoOf s (s.cells.take (i + 1))).map (vV (adB B))))) H' s (idsS s) D := fun q => by
        rw [step, if_neg (by rw [q]; simp), List.append_nil]
        exact R5
      refine ⟨_, rfl, B (.cell c.id), CC, dc, _, _, rfl, hcell, T.isC.cl, T.n_young, cf_young, _, rfl, ?_⟩
      cases ho : c.old with
      | true => exact iteF (iteF ⟨_, rfl, no (by unfold outB; rw [ho]; rfl)⟩)
      | false =>
        refine iteT ⟨_, rfl, B (.cell c.id), CC, dc, _, _, rfl, hcell, T.isC.cl, T.n_kind, cf_kind, rfl, _, rfl, ?_⟩
        have ek : decide (V.int (kindN c.kind) = V.int 0) = decide (c.kind = .plain) := dec_kind c .plain
        rw [ek]
        by_cases hp : c.kind = .plain
        · rw [decide_eq_true hp]
          have q : outB c = true := by unfold outB; rw [ho, decide_eq_true hp]; rfl
          rw [if_pos q] at step
          refine iteT ?_
          have hl5 : H' l = some (.lst ((hoOf s (s.cells.take i)).map (vV (adB B)))) := R5.same l _ upd_same
          have hsz : (hoOf s (s.cells.take i)).length ≤ 16 + 6 * 1000 := by
            have h1 := hoOf_len g (s.cells.take i) (fun d hd => List.mem_of_mem_take hd)
            have h2 : (s.cells.take i).length ≤ s.cells.length := by rw [List.length_take]; omega
            omega
          have h6 := g.six hcm
          refine ⟨_, rfl, .inl ⟨rfl, _, SqL.of hl5⟩, _, rfl, B (.cell c.id), CC, dc, _, _, rfl, hcell, T.isC.cl, T.n_fields, cf_fields, l, B (.flds c.id), _, _, rfl, rfl, hl5, R5.flds (g.atc hcm), ?_, ?_⟩
          · rw [List.length_map, List.length_map]
            exact Nat.le_trans (Nat.add_le_add hsz h6) (by decide)
          · refine ⟨_, rfl, ?_⟩
            rw [step, List.map_append]
            have R6 := R5.tmp (o := .lst ((hoOf s (s.cells.take i)).map (vV (adB B)) ++ c.fields.map (vV (adB B)))) (p := l) upd_same
            rw [upd_upd] at R6
            exact R6
        · rw [decide_eq_false hp]
          exact iteF ⟨_, rfl, no (by unfold outB; rw [decide_eq_false hp]; simp)⟩
    · rintro σ H' ⟨v, rfl, R5⟩
      rw [List.length_map, List.length_map, List.take_length] at R5
      exact ⟨_, rfl, k _ l h0 R5⟩
/-- outside, three lists on end: only the last stays -/
theorem same3 {H0 : Hp} {p1 p2 p3 p4 : Addr} {o1 o2 o3 o4 : HO} (h1 : H0 p1 = none) (h2 : H0 p2 = none) (h3 : H0 p3 = none) : Same (upd H0 p4 o4) (upd (upd (upd (upd H0 p1 o1) p2 o2) p3 o3) p4 o4) := by
  intro b o e
  by_cases z : b = p4
  · subst z
    rw [upd_same] at e ⊢
    exact e
  · rw [upd_ne z] at e ⊢
    rw [upd_ne (ne_of_none e h3), upd_ne (ne_of_none e h2), upd_ne (ne_of_none e h1)]
    exact e
theorem cal_looked_at_first (F : Def K mg "looked_at_first" s_looked_at_first ["store"]) (T : Txt K mg CC CS) (c_held_from_outside : Cal P w K mg base 1 "held_from_outside" (sp_held_from_outside CC CS)) (c_is_young : Cal P w K mg base 2 "is_young" (sp_is_young CC)) : Cal P w K mg base 3 "looked_at_first" (sp_looked_at_first CC CS) := by
  refine F.cal sc_looked_at_first (fun vs H Q E h => ?_) (fun f cdv A outer sh H vs Q E hr h => ?_)
  · obtain ⟨B, H0, s, D, rfl, _⟩ := h
    rfl
  · obtain ⟨B, H0, s, D, rfl, R, g, hm, hs, cont⟩ := h
    refine ⟨_, (pss_cons (ps_setLc (i := 1) (own := [("cell", 2)]) (g := gName 2) (tt := (tAnd (tTest (tOp _ (tFld K (tVar 2) "kind") (tC _))) (tB (tFld K (tVar 2) "young")))) (te := (tVar 2)) rfl sc_looked_at_first.nd rfl rfl (sw_true rfl rfl rfl (by decide +kernel)) (pi_list (pe_fld (pv 0) rfl)) (blkOk_by (own := [("cell", 2)]) (N := ["store", "keyed", "cell"]) (sc := defScope s_looked_at_first) (by decide +kernel)) (fun _ _ _ _ _ => pg_name (i := 2) sc_looked_at_first.nd rfl (Or.inl rfl)) (fun _ _ _ _ _ => pts_one (PW.pt (pw_and (pt_cmpR op_eq (pe_fld (pv 2) rfl) (C8.pe_gc rfl T.k_KEYED) (nomark _)) (pw_and1 (pt_val (pe_fld (pv 2) rfl)))))) (fun _ _ _ _ _ => (pv 2))) (pss_one (ps_ret (pe_op op_cat (C8.pe_c c_held_from_outside hr (by decide) rfl (pa_cons (pv 0) pa_nil)) (pe_lc (own := [("cell", 2)]) (g := gName 2) (tt := (tB (tCall _ [] E0 (tCons (tOp (rIxL K) (tFld K (tVar 2) "fields") (tC _)) tNil)))) (te := (tOp (rIxL K) (tFld K (tVar 2) "fields") (tC _))) rfl sc_looked_at_first.nd (pi_list (pv 1)) (blkOk_by (own := [("cell", 2)]) (N := ["store", "keyed", "cell"]) (sc := defScope s_looked_at_first) (by decide +kernel)) (fun _ _ _ _ _ => pg_name (i := 2) sc_looked_at_first.nd rfl (Or.inl rfl)) (fun _ _ _ _ _ => pts_one (pt_val (C8.pe_c c_is_young hr (by decide) rfl (pa_cons (pe_ix ix_list (pe_fld (pv 2) rfl) pe_int (fun _ _ => rfl)) pa_nil)))) (fun _ _ _ _ _ => (pe_ix ix_list (pe_fld (pv 2) rfl) pe_int (fun _ _ => rfl)))))))), ?_⟩
    obtain ⟨dx, sw, hsw, hst⟩ := R.store
    have hcount := g.count
    have hlen : s.cells.length < sizeLine := Nat.lt_of_le_of_lt (Nat.le_trans hcount hm) (by decide)
    -- keyed = [..]
    refine ⟨_, rfl, B .store, CS, dx, _, _, rfl, hst, T.cS, T.m_cells, sf_cells, B .cells, rfl, ⟨_, cells_sq R⟩, fun p1 hp1 => ?_⟩
    refine lc_rep s.cells (refC B) R hp1 (fun o H' R' => cells_sq R') (fun c => decide (c.kind = .keyed) && !c.old) (refC B) hlen ?_ ?_
    · intro c hc o H' R' Y N hY hN
      obtain ⟨dc, hcell⟩ := R'.cell (g.atc hc)
      refine ⟨rfl, _, rfl, B (.cell c.id), CC, dc, _, _, rfl, hcell, T.isC.cl, T.n_kind, cf_kind, rfl, _, rfl, ?_⟩
      have e : decide (V.int (kindN c.kind) = V.int 2) = decide (c.kind = .keyed) := dec_kind c .keyed
      rw [e]
      by_cases q : c.kind = .keyed
      · rw [decide_eq_true q] at hY hN ⊢
        refine iteT ⟨_, rfl, B (.cell c.id), CC, dc, _, _, rfl, hcell, T.isC.cl, T.n_young, cf_young, _, rfl, ?_⟩
        rw [Bool.true_and] at hY hN
        cases z : !c.old with
        | true => exact iteT ⟨_, rfl, hY z⟩
        | false => exact iteF (hN z)
      · rw [decide_eq_false q] at hN ⊢
        exact iteF (iteF (hN rfl))
    intro H1 R1
    have hp10 : H0 p1 = none := R.same.free hp1
    -- held_from_outside(store) + [..]
    refine ⟨_, rfl, B, _, s, D, rfl, R1, g, hm, fun H2 p2 hp2 R2 => ?_⟩
    have n12 : p1 ≠ p2 := ne_of_none (H := upd H0 p1 _) upd_same hp2
    have hl1 : H2 p1 = some (.lst ((s.cells.filter fun c => decide (c.kind = .keyed) && !c.old).map (refC B))) := R2.same p1 _ (by rw [upd_ne n12]; exact upd_same)
    refine ⟨_, rfl, p1, rfl, ⟨_, SqL.of hl1⟩, fun p3 hp3 => ?_⟩
    have n13 : p1 ≠ p3 := ne_of_none hl1 hp3
    have hl2 : H2 p2 = some (.lst ((hoOf s s.cells).map (vV (adB B)))) := R2.same p2 _ upd_same
    have n23 : p2 ≠ p3 := ne_of_none hl2 hp3
    refine lc_rep (s.cells.filter fun c => decide (c.kind = .keyed) && !c.old) (refC B) R2 hp3 (fun o H' R' => SqL.of (R'.same p1 _ (by rw [upd_ne n13, upd_ne n12]; exact upd_same))) (fun c => youngB s (f0 c)) (fun c => vV (adB B) (f1 c)) (Nat.lt_of_le_of_lt (List.length_filter_le _ _) hlen) ?_ ?_
    · intro c hc2 o H' R' Y N hY hN
      obtain ⟨hc, hcq⟩ := List.mem_filter.mp hc2
      rw [Bool.and_eq_true, decide_eq_true_eq] at hcq
      have hfs := g.keyed hc hcq.1
      have hm0 : f0 c ∈ c.fields := by rw [hfs]; exact List.mem_cons_self ..
      obtain ⟨dc, hcell⟩ := R'.cell (g.atc hc)
      have hfl : H' (B (.flds c.id)) = some (.lst [vV (adB B) (f0 c), vV (adB B) (f1 c)]) := by
        have := R'.flds (g.atc hc)
        rw [hfs] at this
        exact this
      refine ⟨rfl, _, rfl, B (.cell c.id), CC, dc, _, _, rfl, hcell, T.isC.cl, T.n_fields, cf_fields, B (.flds c.id), _, _, _, rfl, rfl, SqL.of hfl, rfl, ?_⟩
      refine ⟨_, _, rfl, R'.isY (g.heldFld hc hm0), _, rfl, ?_⟩
      cases z : youngB s (f0 c) with
      | true => exact iteT ⟨_, rfl, B (.cell c.id), CC, dc, _, _, rfl, hcell, T.isC.cl, T.n_fields, cf_fields, B (.flds c.id), _, _, _, rfl, rfl, SqL.of hfl, rfl, hY z⟩
      | false => exact iteF (hN z)
    intro H3 R3
    have hl3 : H3 p3 = some (.lst (((s.cells.filter fun c => decide (c.kind = .keyed) && !c.old).filter fun c => youngB s (f0 c)).map fun c => vV (adB B) (f1 c))) := R3.same p3 _ upd_same
    have hl23 : H3 p2 = some (.lst ((hoOf s s.cells).map (vV (adB B)))) := R3.same p2 _ (by rw [upd_ne n23]; exact upd_same)
    have hbig := laBy_len g (p := fun c => !c.old) (q := youngB s)
    unfold laBy at hbig
    rw [List.length_append, List.length_map] at hbig
    refine ⟨p2, p3, _, _, rfl, rfl, hl23, hl3, ?_, fun p hp => ?_⟩
    · rw [List.length_map, List.length_map]
      exact Nat.le_trans (Nat.le_trans hbig (by omega : _ ≤ 16 + 7 * 1000)) (by decide)
    have R4 := R3.fresh (o := .lst ((hoOf s s.cells).map (vV (adB B)) ++ ((s.cells.filter fun c => decide (c.kind = .keyed) && !c.old).filter fun c => youngB s (f0 c)).map fun c => vV (adB B) (f1 c))) hp
    have hp20 : H0 p2 = none := (same_upd hp10).free hp2
    have hp30 : H0 p3 = none := (same_upd hp10).free ((same_upd hp2).free (R2.same.free hp3))
    have hp40 : H0 p = none := (same_upd hp10).free ((same_upd hp2).free ((same_upd (R2.same.free hp3)).free (R3.same.free hp)))
    have e : (laF s).map (vV (adB B)) = (hoOf s s.cells).map (vV (adB B)) ++ ((s.cells.filter fun c => decide (c.kind = .keyed) && !c.old).filter fun c => youngB s (f0 c)).map fun c => vV (adB B) (f1 c) := by
      unfold laF laBy
      rw [List.map_append, List.map_map]
      rfl
    refine cont _ p hp40 ?_
    rw [e]
    exact R4.weak (same3 hp10 hp20 hp30)
theorem cal_looked_at_again (F : Def K mg "looked_at_again" s_looked_at_again ["store"]) (T : Txt K mg CC CS) (c_held_from_outside : Cal P w K mg base 1 "held_from_outside" (sp_held_from_outside CC CS)) (c_is_come_to : Cal P w K mg base 3 "is_come_to" (sp_is_come_to CC)) : Cal P w K mg base 4 "looked_at_again" (sp_looked_at_again CC CS) := by
  refine F.cal sc_looked_at_again (fun vs H Q E h => ?_) (fun f cdv A outer sh H vs Q E hr h => ?_)
  · obtain ⟨B, H0, s, D, rfl, _⟩ := h
    rfl
  · obtain ⟨B, H0, s, D, rfl, R, g, hm, hs, cont⟩ := h
    refine ⟨_, (pss_cons (ps_setLc (i := 1) (own := [("cell", 2)]) (g := gName 2) (tt := (tAnd (tTest (tOp _ (tFld K (tVar 2) "kind") (tC _))) (tB (tCall _ [] E0 (tCons (tVar 2) tNil))))) (te := (tVar 2)) rfl sc_looked_at_again.nd rfl rfl (sw_true rfl rfl rfl (by decide +kernel)) (pi_list (pe_fld (pv 0) rfl)) (blkOk_by (own := [("cell", 2)]) (N := ["store", "keyed", "cell"]) (sc := defScope s_looked_at_again) (by decide +kernel)) (fun _ _ _ _ _ => pg_name (i := 2) sc_looked_at_again.nd rfl (Or.inl rfl)) (fun _ _ _ _ _ => pts_one (PW.pt (pw_and (pt_cmpR op_eq (pe_fld (pv 2) rfl) (C8.pe_gc rfl T.k_KEYED) (nomark _)) (pw_and1 (pt_val (C8.pe_c c_is_come_to hr (by decide) rfl (pa_cons (pv 2) pa_nil))))))) (fun _ _ _ _ _ => (pv 2))) (pss_one (ps_ret (pe_op op_cat (C8.pe_c c_held_from_outside hr (by decide) rfl (pa_cons (pv 0) pa_nil)) (pe_lc (own := [("cell", 2)]) (g := gName 2) (tt := (tB (tCall _ [] E0 (tCons (tOp (rIxL K) (tFld K (tVar 2) "fields") (tC _)) tNil)))) (te := (tOp (rIxL K) (tFld K (tVar 2) "fields") (tC _))) rfl sc_looked_at_again.nd (pi_list (pv 1)) (blkOk_by (own := [("cell", 2)]) (N := ["store", "keyed", "cell"]) (sc := defScope s_looked_at_again) (by decide +kernel)) (fun _ _ _ _ _ => pg_name (i := 2) sc_looked_at_again.nd rfl (Or.inl rfl)) (fun _ _ _ _ _ => pts_one (pt_val (C8.pe_c c_is_come_to hr (by decide) rfl (pa_cons (pe_ix ix_list (pe_fld (pv 2) rfl) pe_int (fun _ _ => rfl)) pa_nil)))) (fun _ _ _ _ _ => (pe_ix ix_list (pe_fld (pv 2) rfl) pe_int (fun _ _ => rfl)))))))), ?_⟩
    obtain ⟨dx, sw, hsw, hst⟩ := R.store
    have hcount := g.count
    have hlen : s.cells.length < sizeLine := Nat.lt_of_le_of_lt (Nat.le_trans hcount hm) (by decide)
    have hcv : ∀ v, (isCellB v && !whiteB s v) = comeV s v := by intro v; cases v <;> rfl
    -- keyed = [..]
    refine ⟨_, rfl, B .store, CS, dx, _, _, rfl, hst, T.cS, T.m_cells, sf_cells, B .cells, rfl, ⟨_, cells_sq R⟩, fun p1 hp1 => ?_⟩
    refine lc_rep s.cells (refC B) R hp1 (fun o H' R' => cells_sq R') (fun c => decide (c.kind = .keyed) && comeV s (.cell c.id)) (refC B) hlen ?_ ?_
    · intro c hc o H' R' Y N hY hN
      obtain ⟨dc, hcell⟩ := R'.cell (g.atc hc)
      refine ⟨rfl, _, rfl, B (.cell c.id), CC, dc, _, _, rfl, hcell, T.isC.cl, T.n_kind, cf_kind, rfl, _, rfl, ?_⟩
      have e : decide (V.int (kindN c.kind) = V.int 2) = decide (c.kind = .keyed) := dec_kind c .keyed
      rw [e]
      by_cases q : c.kind = .keyed
      · rw [decide_eq_true q] at hY hN ⊢
        have hself : AliveV s (.cell c.id) := fun j e => by cases e; rw [g.atc hc]; rfl
        refine iteT ⟨_, rfl, _, _, _, rfl, R'.isC (v := .cell c.id) (hself.held D), R'.isW (v := .cell c.id) hself, _, rfl, ?_⟩
        rw [hcv]
        rw [Bool.true_and] at hY hN
        cases z : comeV s (.cell c.id) with
        | true => exact iteT ⟨_, rfl, hY z⟩
        | false => exact iteF (hN z)
      · rw [decide_eq_false q] at hN ⊢
        exact iteF (iteF (hN rfl))
    intro H1 R1
    have hp10 : H0 p1 = none := R.same.free hp1
    -- held_from_outside(store) + [..]
    refine ⟨_, rfl, B, _, s, D, rfl, R1, g, hm, fun H2 p2 hp2 R2 => ?_⟩
    have n12 : p1 ≠ p2 := ne_of_none (H := upd H0 p1 _) upd_same hp2
    have hl1 : H2 p1 = some (.lst ((s.cells.filter fun c => decide (c.kind = .keyed) && comeV s (.cell c.id)).map (refC B))) := R2.same p1 _ (by rw [upd_ne n12]; exact upd_same)
    refine ⟨_, rfl, p1, rfl, ⟨_, SqL.of hl1⟩, fun p3 hp3 => ?_⟩
    have n13 : p1 ≠ p3 := ne_of_none hl1 hp3
    have hl2 : H2 p2 = some (.lst ((hoOf s s.cells).map (vV (adB B)))) := R2.same p2 _ upd_same
    have n23 : p2 ≠ p3 := ne_of_none hl2 hp3
    refine lc_rep (s.cells.filter fun c => decide (c.kind = .keyed) && comeV s (.cell c.id)) (refC B) R2 hp3 (fun o H' R' => SqL.of (R'.same p1 _ (by rw [upd_ne n13, upd_ne n12]; exact upd_same))) (fun c => comeV s (f0 c)) (fun c => vV (adB B) (f1 c)) (Nat.lt_of_le_of_lt (List.length_filter_le _ _) hlen) ?_ ?_
    · intro c hc2 o H' R' Y N hY hN
      obtain ⟨hc, hcq⟩ := List.mem_filter.mp hc2
      rw [Bool.and_eq_true, decide_eq_true_eq] at hcq
      have hfs := g.keyed hc hcq.1
      have hm0 : f0 c ∈ c.fields := by rw [hfs]; exact List.mem_cons_self ..
      obtain ⟨dc, hcell⟩ := R'.cell (g.atc hc)
      have hfl : H' (B (.flds c.id)) = some (.lst [vV (adB B) (f0 c), vV (adB B) (f1 c)]) := by
        have := R'.flds (g.atc hc)
        rw [hfs] at this
        exact this
      refine ⟨rfl, _, rfl, B (.cell c.id), CC, dc, _, _, rfl, hcell, T.isC.cl, T.n_fields, cf_fields, B (.flds c.id), _, _, _, rfl, rfl, SqL.of hfl, rfl, ?_⟩
      have hal := g.aliveFld hs hc hm0
      refine ⟨_, _, _, rfl, R'.isC (hal.held D), R'.isW hal, _, rfl, ?_⟩
      rw [hcv]
      cases z : comeV s (f0 c) with
      | true => exact iteT ⟨_, rfl, B (.cell c.id), CC, dc, _, _, rfl, hcell, T.isC.cl, T.n_fields, cf_fields, B (.flds c.id), _, _, _, rfl, rfl, SqL.of hfl, rfl, hY z⟩
      | false => exact iteF (hN z)
    intro H3 R3
    have hl3 : H3 p3 = some (.lst (((s.cells.filter fun c => decide (c.kind = .keyed) && comeV s (.cell c.id)).filter fun c => comeV s (f0 c)).map fun c => vV (adB B) (f1 c))) := R3.same p3 _ upd_same
    have hl23 : H3 p2 = some (.lst ((hoOf s s.cells).map (vV (adB B)))) := R3.same p2 _ (by rw [upd_ne n23]; exact upd_same)
    have hbig := laBy_len g (p := fun c => comeV s (.cell c.id)) (q := comeV s)
    unfold laBy at hbig
    rw [List.length_append, List.length_map] at hbig
    refine ⟨p2, p3, _, _, rfl, rfl, hl23, hl3, ?_, fun p hp => ?_⟩
    · rw [List.length_map, List.length_map]
      exact Nat.le_trans (Nat.le_trans hbig (by omega : _ ≤ 16 + 7 * 1000)) (by decide)
    have R4 := R3.fresh (o := .lst ((hoOf s s.cells).map (vV (adB B)) ++ ((s.cells.filter fun c => decide (c.kind = .keyed) && comeV s (.cell c.id)).filter fun c => comeV s (f0 c)).map fun c => vV (adB B) (f1 c))) hp
    have hp20 : H0 p2 = none := (same_upd hp10).free hp2
    have hp30 : H0 p3 = none := (same_upd hp10).free ((same_upd hp2).free (R2.same.free hp3))
    have hp40 : H0 p = none := (same_upd hp10).free ((same_upd hp2).free ((same_upd (R2.same.free hp3)).free (R3.same.free hp)))
    have e : (laA s).map (vV (adB B)) = (hoOf s s.cells).map (vV (adB B)) ++ ((s.cells.filter fun c => decide (c.kind = .keyed) && comeV s (.cell c.id)).filter fun c => comeV s (f0 c)).map fun c => vV (adB B) (f1 c) := by
      unfold laA laBy
      rw [List.map_append, List.map_map]
      rfl
    refine cont _ p hp40 ?_
    rw [e]
    exact R4.weak (same3 hp10 hp20 hp30)
end
end Gc
set_option Elab.async false
set_option maxRecDepth 100000
set_option maxHeartbeats 4000000
namespace Gc
open PySem PySem.Spec PyProof.Rows L2
abbrev s_begin_to_mark : Stmt := top 28
theorem sc_begin_to_mark : FnScope ["store"] ["store"] (defScope s_begin_to_mark) := ⟨rfl, rfl, rfl, by decide +kernel, rfl, by decide +kernel, by decide +kernel⟩
abbrev s_begin_to_sweep : Stmt := top 29
theorem sc_begin_to_sweep : FnScope ["store", "cell"] ["store"] (defScope s_begin_to_sweep) := ⟨rfl, rfl, rfl, by decide +kernel, rfl, by decide +kernel, by decide +kernel⟩
abbrev s_make_black : Stmt := top 30
theorem sc_make_black : FnScope ["cell"] ["cell"] (defScope s_make_black) := ⟨rfl, rfl, rfl, by decide +kernel, rfl, by decide +kernel, by decide +kernel⟩
abbrev s_mark_step : Stmt := top 31
theorem sc_mark_step : FnScope ["store", "grey", "cell"] ["store"] (defScope s_mark_step) := ⟨rfl, rfl, rfl, by decide +kernel, rfl, by decide +kernel, by decide +kernel⟩
theorem pf_phase {vl cl tl : Addr} {made : Nat} {ph sw : Int} (n : Int) : putF "phase" (.int n) (storeF vl cl tl made ph sw) = storeF vl cl tl made n sw :=
  (put_past (by decide +kernel)).trans (congrArg _ ((put_past (by decide +kernel)).trans (congrArg _ ((put_past (by decide +kernel)).trans (congrArg _ put_here)))))
theorem pf_swept {vl cl tl : Addr} {made : Nat} {ph sw : Int} (n : Int) : putF "swept" (.int n) (storeF vl cl tl made ph sw) = storeF vl cl tl made ph n :=
  (put_past (by decide +kernel)).trans (congrArg _ ((put_past (by decide +kernel)).trans (congrArg _ ((put_past (by decide +kernel)).trans (congrArg _ ((put_past (by decide +kernel)).trans (congrArg _ put_here)))))))
theorem shade_ids (s : Sta) (l : List Nat) : idsS (s.shade l) = idsS s := by
  show (s.cells.map (shadeF l)).map (·.id) = _
  rw [List.map_map]
  exact List.map_congr_left fun c _ => (shadeF_eq l c).1
theorem ids_nodup {s : Sta} {D : List Nat} (g : Good s D) : (idsS s).Nodup := by
  rw [List.Nodup, List.pairwise_map]
  exact List.Pairwise.imp (fun h e => by omega) g.sorted
def sp_begin_to_mark (CC CS : Addr) : Sp := fun vs H Q _ => ∃ B H0 s D, vs = [.ref (B .store)] ∧ RepA CC CS B H0 H s (idsS s) D ∧ Good s D ∧ s.made ≤ 1000 ∧ s.phase = .rest ∧
  ∀ H', RepA CC CS B H0 H' (({ s with phase := .mark } : Sta).shade s.roots) (idsS s) D → Q .non H'
def sp_begin_to_sweep (CC CS : Addr) : Sp := fun vs H Q _ => ∃ B H0 s D, vs = [.ref (B .store)] ∧ RepA CC CS B H0 H s (idsS s) D ∧ Good s D ∧ s.made ≤ 1000 ∧ s.phase = .mark ∧
  ∀ H' B', B' .store = B .store → RepA CC CS B' H0 H' { s with phase := .sweep 0, cells := s.cells.map (sweepF s) } (idsS s) D → Q .non H'
def sp_make_black (CC CS : Addr) : Sp := fun vs H Q _ => ∃ B H0 s lst D c, vs = [refC B c] ∧ RepA CC CS B H0 H s lst D ∧ s.at_ c.id = some c ∧ c.old = true ∧ (∀ v ∈ c.fields, AliveV s v) ∧ c.fields.length ≤ 6 ∧
  ∀ H', RepA CC CS B H0 H' ((s.put { c with colour := .black }).shade c.keeps) lst D → Q .non H'
def sp_mark_step (CC CS : Addr) : Sp := fun vs H Q _ => ∃ B H0 s D, vs = [.ref (B .store)] ∧ RepA CC CS B H0 H s (idsS s) D ∧ Good s D ∧ s.made ≤ 1000 ∧ s.phase = .mark ∧
  ∀ H' B' t (b : Bool), B' .store = B .store → s.step = some (t, b, 0) → RepA CC CS B' H0 H' t (idsS t) D → Q (.int (if b = true then 1 else 0)) H'
/-! ### the states between when it begins to sweep -/
def sweepB (s : Sta) (c : Cl) : Bool := !decide (c.kind = .plain) && (comeV s (.cell c.id) && whiteB s (f0 c))
theorem sweepF_empty {s : Sta} {D : List Nat} (g : Good s D) {c : Cl} (hc : c ∈ s.cells) : sweepF s c = if sweepB s c = true then emptied c else c := by
  have hsh := g.shape c hc
  unfold Shape at hsh
  have hcm := come_eq g hc
  unfold sweepF sweepB emptied
  rw [hcm]
  have hcw : (c.old && c.colour == .white) = !come c := by
    unfold come
    cases c.old <;> cases c.colour <;> rfl
  rw [hcw]
  cases hcc : come c with
  | false => simp
  | true =>
    rw [if_neg (by simp)]
    unfold f0
    cases hk : c.kind with
    | plain => rw [without_plain hk]; simp
    | weak =>
      rw [hk] at hsh
      unfold Kg93.Cell.without
      rw [hk]
      rcases hsh with e | ⟨j, e⟩
      · rw [e]
        have : whiteB s (List.getD [Kg93.V.none_] 0 Kg93.V.none_) = false := rfl
        rw [this]
        simp
      · rw [e]
        have : whiteB s (List.getD [Kg93.V.cell j] 0 Kg93.V.none_) = s.isWhite j := rfl
        rw [this]
        cases q : s.isWhite j <;> simp [q]
    | keyed =>
      rw [hk] at hsh
      unfold Kg93.Cell.without
      rw [hk]
      rcases hsh with e | ⟨j, v, e⟩
      · rw [e]
        have : whiteB s (List.getD [Kg93.V.none_, Kg93.V.none_] 0 Kg93.V.none_) = false := rfl
        rw [this]
        simp
      · rw [e]
        have : whiteB s (List.getD [Kg93.V.cell j, v] 0 Kg93.V.none_) = s.isWhite j := rfl
        rw [this]
        cases q : s.isWhite j <;> simp [q]
structure MidW (s t : Sta) (l : List Nat) : Prop where
  vars : t.vars = s.vars
  made : t.made = s.made
  phase : t.phase = s.phase
  words : t.words = s.words
  rem : t.remembered = s.remembered
  at_ : ∀ j, t.at_ j = if l.contains j = true then (s.at_ j).map (sweepF s) else s.at_ j
theorem MidW.zero (s : Sta) : MidW s s [] := ⟨rfl, rfl, rfl, rfl, rfl, fun j => by rw [if_neg (by simp)]⟩
theorem MidW.white {s t : Sta} {l : List Nat} (m : MidW s t l) (j : Nat) : t.isWhite j = s.isWhite j := by
  unfold Kg93.State.isWhite
  rw [m.at_]
  split
  · cases s.at_ j with
    | none => rfl
    | some c =>
      have := sweepF_eq s c
      show ((sweepF s c).old && (sweepF s c).colour == .white) = (c.old && c.colour == .white)
      rw [this.2.2.1, this.2.2.2.2.1]
  · rfl
theorem MidW.alive {s t : Sta} {l : List Nat} (m : MidW s t l) {v : Vl} (h : AliveV s v) : AliveV t v := fun j e => by
  have := h j e
  rw [m.at_]
  split
  · rw [Option.isSome_map]; exact this
  · exact this
theorem MidW.next {s t u : Sta} {l : List Nat} (m : MidW s t l) {c d : Cl} (hc : s.at_ c.id = some c) (hd : d = sweepF s c) (hu : u.vars = t.vars) (hm : u.made = t.made) (hp : u.phase = t.phase) (hw : u.words = t.words) (hr : u.remembered = t.remembered) (hat : ∀ j, u.at_ j = if j = c.id then some d else t.at_ j) : MidW s u (l ++ [c.id]) := by
  refine ⟨hu.trans m.vars, hm.trans m.made, hp.trans m.phase, hw.trans m.words, hr.trans m.rem, fun j => ?_⟩
  rw [hat]
  by_cases e : j = c.id
  · subst e
    rw [if_pos rfl, if_pos (by simp), hc, hd]
    rfl
  · rw [if_neg e, m.at_]
    have : ((l ++ [c.id]).contains j = true) ↔ (l.contains j = true) := by
      simp [e]
    by_cases q : l.contains j = true
    · rw [if_pos q, if_pos (this.mpr q)]
    · rw [if_neg q, if_neg (fun z => q (this.mp z))]
section
variable {P : Program} {w : World} {K : PySem.W.Frag} {mg : Str → Option Value} {base : Heap} {CC CS : Addr}
theorem cal_begin_to_mark (F : Def K mg "begin_to_mark" s_begin_to_mark ["store"]) (T : Txt K mg CC CS) (c_looked_at_first : Cal P w K mg base 3 "looked_at_first" (sp_looked_at_first CC CS)) (c_make_grey : Cal P w K mg base 3 "make_grey" (sp_make_grey K CC CS)) : Cal P w K mg base 4 "begin_to_mark" (sp_begin_to_mark CC CS) := by
  refine F.cal sc_begin_to_mark (fun vs H Q E h => ?_) (fun f cdv A outer sh H vs Q E hr h => ?_)
  · obtain ⟨B, H0, s, D, rfl, _⟩ := h
    rfl
  · obtain ⟨B, H0, s, D, rfl, R, g, hm, hp, cont⟩ := h
    refine ⟨_, (pss_cons (ps_fld (pv 0) (C8.pe_gc rfl T.k_MARKS) rfl) (pss_one (ps_expr (C8.pe_c c_make_grey hr (by decide) rfl (pa_cons (C8.pe_c c_looked_at_first hr (by decide) rfl (pa_cons (pv 0) pa_nil)) pa_nil))))), ?_⟩
    obtain ⟨dx, sw, hsw, hst⟩ := R.store
    refine ⟨_, rfl, B .store, CS, dx, _, rfl, hst, T.cS, T.m_phase, (by show 6 < 1000; decide), ?_⟩
    rw [pf_phase]
    have R1 := R.setPhase (dx := dx) .mark (sw := sw) (fun n e => by cases e)
    have g1 : Good { s with phase := .mark } D := g.begin_ hp
    have hs : ∀ c ∈ ({ s with phase := .mark } : Sta).cells, Safe { s with phase := .mark } c := fun c _ => safe_mark rfl c
    have hwh : ∀ c ∈ ({ s with phase := .mark } : Sta).cells, c.old = true → c.colour = .white := fun c hc ho => by
      have := g.white c hc ho
      rw [hp] at this
      exact this trivial
    refine ⟨_, rfl, B, H0, { s with phase := .mark }, D, rfl, R1, g1, hm, hs, fun H2 p hp2 R2 => ?_⟩
    refine ⟨B, _, { s with phase := .mark }, _, D, p, laF { s with phase := .mark }, rfl, R2, fun H3 H4 hsm R4 => SqL.of (R4.same p _ (hsm p _ upd_same)), fun v hv => laBy_alive g1 hs hv, ?_, fun H5 R5 => ?_⟩
    · exact Nat.le_trans (laBy_len g1) (by show 16 + 7 * s.made ≤ 100000; omega)
    · refine cont H5 ?_
      have e : ({ s with phase := .mark } : Sta).shade s.roots = ({ s with phase := .mark } : Sta).shade (Kg93.idsOf (laF { s with phase := .mark })) := by
        refine shade_congr fun c _ _ _ => ?_
        rw [idsOf_mem, laF_rest g1 hwh hs]
        exact roots_iff g1 hs c.id
      rw [e]
      exact R5.weak (same_upd hp2)
theorem cal_begin_to_sweep (F : Def K mg "begin_to_sweep" s_begin_to_sweep ["store"]) (T : Txt K mg CC CS) (c_is_come_to : Cal P w K mg base 3 "is_come_to" (sp_is_come_to CC)) (c_is_white : Cal P w K mg base 2 "is_white" (sp_is_white CC)) (c_empty_cell : Cal P w K mg base 1 "empty_cell" (sp_empty_cell CC CS)) : Cal P w K mg base 4 "begin_to_sweep" (sp_begin_to_sweep CC CS) := by
  refine F.cal sc_begin_to_sweep (fun vs H Q E h => ?_) (fun f cdv A outer sh H vs Q E hr h => ?_)
  · obtain ⟨B, H0, s, D, rfl, _⟩ := h
    rfl
  · obtain ⟨B, H0, s, D, rfl, R, g, hm, hp, cont⟩ := h
    refine ⟨_, (pss_cons (ps_for PassesOwn.never rfl (pi_list (pe_fld (pv 0) rfl)) (pg_name (i := 1) sc_begin_to_sweep.nd rfl (Or.inl rfl)) (pss_one (ps_if (PW.pt (pw_and (pt_cmpR op_ne (pe_fld (pv 1) rfl) (C8.pe_gc rfl T.k_PLAIN) (nomark _)) (pw_and (pt_val (C8.pe_c c_is_come_to hr (by decide) rfl (pa_cons (pv 1) pa_nil))) (pw_and1 (pt_val (C8.pe_c c_is_white hr (by decide) rfl (pa_cons (pe_ix ix_list (pe_fld (pv 1) rfl) pe_int (fun _ _ => rfl)) pa_nil))))))) (pss_one (ps_expr (C8.pe_c c_empty_cell hr (by decide) rfl (pa_cons (pv 1) pa_nil)))) pss_nil))) (pss_cons (ps_fld (pv 0) (C8.pe_gc rfl T.k_SWEEPS) rfl) (pss_one (ps_fld (pv 0) (pe_un un_neg pe_int) rfl)))), ?_⟩
    obtain ⟨dx, sw, hsw, hst⟩ := R.store
    have hs : ∀ c ∈ s.cells, Safe s c := fun c _ => safe_mark hp c
    refine ⟨_, rfl, B .store, CS, dx, _, _, rfl, hst, T.cS, T.m_cells, sf_cells, B .cells, rfl, ⟨_, SqL.of R.cells⟩,
      for_list (K := K) (a := B .cells) (xs := (idsS s).map fun i => V.ref (B (.cell i))) (fun i σ H' => ∃ (B' : Role → Addr) (t : Sta) (v : Option V), σ = [some (.ref (B .store)), v] ∧ (∀ r, (∀ j, r ≠ .flds j) → B' r = B r) ∧ MidW s t ((idsS s).take i) ∧ RepA CC CS B' H0 H' t (idsS s) D)
      ⟨B, s, none, rfl, fun r _ => rfl, MidW.zero s, R⟩ (fun i σ H' _ ⟨B', t, v, _, hB', _, R'⟩ => sq_left (fun j => hB' _ (by intro i z; cases z)) (hB' _ (by intro i z; cases z)) R') ?_ ?_⟩
    · rintro i x σ H' hi ⟨B', t, v, rfl, hB', mid, R'⟩
      have hBc : ∀ j, B' (.cell j) = B (.cell j) := fun j => hB' _ (by intro i z; cases z)
      obtain ⟨c, hci, rfl⟩ := ids_get hi
      have hcm : c ∈ s.cells := List.mem_of_getElem? hci
      have hid : (idsS s)[i]? = some c.id := by
        rw [List.getElem?_map, hci]
        rfl
      have hnt : c.id ∉ (idsS s).take i := nodup_take (ids_nodup g) hid
      have hat : t.at_ c.id = some c := by
        rw [mid.at_, if_neg (by simpa using hnt)]
        exact g.atc hcm
      have htake : (idsS s).take (i + 1) = (idsS s).take i ++ [c.id] := take_more hid
      have hsw2 := sweepF_empty g hcm
      have stay : sweepB s c = false → MidW s t ((idsS s).take (i + 1)) := fun q => by
        rw [q, if_neg (by simp)] at hsw2
        rw [htake]
        refine mid.next (g.atc hcm) (d := c) hsw2.symm rfl rfl rfl rfl rfl fun j => ?_
        by_cases z : j = c.id
        · rw [if_pos z, z]; exact hat
        · rw [if_neg z]
      obtain ⟨dc, hcell⟩ := R'.cell hat
      rw [hBc] at hcell
      refine ⟨_, rfl, B (.cell c.id), CC, dc, _, _, rfl, hcell, T.isC.cl, T.n_kind, cf_kind, rfl, _, rfl, ?_⟩
      have ek : (!decide (V.int (kindN c.kind) = V.int 0)) = !decide (c.kind = .plain) := congrArg _ (dec_kind c .plain)
      rw [ek]
      by_cases hpl : c.kind = .plain
      · rw [decide_eq_true hpl]
        exact iteF (iteF ⟨B', t, _, rfl, hB', stay (by unfold sweepB; rw [decide_eq_true hpl]; rfl), R'⟩)
      · rw [decide_eq_false hpl]
        have hself : AliveV t (.cell c.id) := fun j e => by cases e; rw [hat]; rfl
        have hc1 := R'.isC (v := .cell c.id) (hself.held D)
        have hw1 := R'.isW (v := .cell c.id) hself
        have hb : vV (fun i => B' (.cell i)) (.cell c.id) = V.ref (B (.cell c.id)) := congrArg V.ref (hBc c.id)
        rw [hb] at hc1 hw1
        refine iteT ⟨_, rfl, _, _, _, rfl, hc1, hw1, _, rfl, ?_⟩
        have ecv : (isCellB (.cell c.id) && !whiteB t (.cell c.id)) = comeV s (.cell c.id) := by
          show (true && !t.isWhite c.id) = !s.isWhite c.id
          rw [mid.white, Bool.true_and]
        rw [ecv]
        cases hcv : comeV s (.cell c.id) with
        | false => exact iteF (iteF ⟨B', t, _, rfl, hB', stay (by unfold sweepB; rw [hcv]; simp), R'⟩)
        | true =>
          have hf0 : f0 c ∈ c.fields := by
            have hsh := g.shape c hcm
            unfold Shape at hsh
            unfold f0
            cases e : c.kind with
            | plain => exact absurd e hpl
            | weak =>
              rw [e] at hsh
              rcases hsh with q | ⟨_, q⟩ <;> (rw [q]; exact List.mem_cons_self ..)
            | keyed =>
              rw [e] at hsh
              rcases hsh with q | ⟨_, _, q⟩ <;> (rw [q]; exact List.mem_cons_self ..)
          have hal : AliveV t (f0 c) := mid.alive (g.aliveFld hs hcm hf0)
          have h00 : (c.fields.map (vV (adB B')))[0]? = some (vV (adB B') (f0 c)) := by
            unfold f0
            cases hfs : c.fields with
            | nil => rw [hfs] at hf0; cases hf0
            | cons a r => rfl
          refine iteT ⟨_, rfl, B (.cell c.id), CC, dc, _, _, rfl, hcell, T.isC.cl, T.n_fields, cf_fields, B' (.flds c.id), _, _, _, rfl, rfl, SqL.of (R'.flds hat), at0 h00, ?_⟩
          refine ⟨_, _, rfl, R'.isW hal, _, rfl, ?_⟩
          have ew : whiteB t (f0 c) = whiteB s (f0 c) := by
            cases f0 c with
            | none_ => rfl
            | num z => rfl
            | cell j => exact mid.white j
          rw [ew]
          cases hww : whiteB s (f0 c) with
          | false => exact iteF ⟨B', t, _, rfl, hB', stay (by unfold sweepB; rw [hww]; simp), R'⟩
          | true =>
            have hB : sweepB s c = true := by unfold sweepB; rw [decide_eq_false hpl, hcv, hww]; rfl
            refine iteT ⟨_, rfl, B', H0, t, idsS s, D, c, congrArg (fun a => [V.ref a]) (hBc c.id).symm, R', hat, g.six hcm, fun H6 B6 hB6 R6 => ?_⟩
            rw [hB, if_pos rfl] at hsw2
            refine ⟨B6, t.put (emptied c), _, rfl, fun r hr => (hB6 r hr).trans (hB' r hr), ?_, R6⟩
            rw [htake]
            refine mid.next (g.atc hcm) (d := emptied c) hsw2.symm rfl rfl rfl rfl rfl fun j => ?_
            by_cases z : j = c.id
            · rw [if_pos z, z]; exact put_at_same hat rfl
            · rw [if_neg z]; exact put_at_ne (c := emptied c) z
    · rintro σ H' ⟨B', t, v, rfl, hB', mid, R'⟩
      have hBs : B' .store = B .store := hB' _ (by intro i z; cases z)
      rw [List.length_map, List.take_length] at mid
      obtain ⟨dx7, sw7, hsw7, hs7⟩ := R'.store
      have R8 := R'.setPhase (dx := dx7) (.sweep 0) (sw := -1) (fun n e => by cases e; rfl)
      rw [hBs] at hs7 R8
      -- store.phase = SWEEPS; store.swept = -1
      refine ⟨_, rfl, B .store, CS, dx7, _, rfl, hs7, T.cS, T.m_phase, (by show 6 < 1000; decide), ?_⟩
      rw [pf_phase]
      refine ⟨_, rfl, _, rfl, B .store, CS, dx7, _, rfl, upd_same, T.cS, T.m_swept, (by show 6 < 1000; decide), ?_⟩
      rw [pf_swept, upd_upd]
      refine cont _ B' hBs (R8.congr mid.vars.symm mid.made.symm rfl mid.words.symm (fun i => ?_) (fun i c _ => by show s.remembered.contains i = t.remembered.contains i; rw [mid.rem]))
      show (s.cells.map (sweepF s)).find? (fun c => c.id == i) = t.at_ i
      rw [at_map _ (fun c => (sweepF_eq s c).1), mid.at_]
      by_cases q : (idsS s).contains i = true
      · rw [if_pos q]; rfl
      · rw [if_neg q]
        have : s.at_ i = none := by
          cases e : s.at_ i with
          | none => rfl
          | some c =>
            exfalso
            apply q
            rw [List.contains_iff_mem]
            exact List.mem_map.mpr ⟨c, at_in e, at_id e⟩
        have this' : s.cells.find? (fun c => c.id == i) = none := this
        rw [this, this']
        rfl
theorem cal_make_black (F : Def K mg "make_black" s_make_black ["cell"]) (T : Txt K mg CC CS) (c_make_grey : Cal P w K mg base 3 "make_grey" (sp_make_grey K CC CS)) : Cal P w K mg base 4 "make_black" (sp_make_black CC CS) := by
  refine F.cal sc_make_black (fun vs H Q E h => ?_) (fun f cdv A outer sh H vs Q E hr h => ?_)
  · obtain ⟨B, H0, s, lst, D, c, rfl, _⟩ := h
    rfl
  · obtain ⟨B, H0, s, lst, D, c, rfl, R, hat, ho, hal, h6, cont⟩ := h
    refine ⟨_, (pss_cons (ps_fld (pv 0) (C8.pe_gc rfl T.k_BLACK) rfl) (pss_one (ps_if (pt_cmpR op_eq (pe_fld (pv 0) rfl) (C8.pe_gc rfl T.k_PLAIN) (nomark _)) (pss_one (ps_expr (C8.pe_c c_make_grey hr (by decide) rfl (pa_cons (pe_fld (pv 0) rfl) pa_nil)))) pss_nil))), ?_⟩
    obtain ⟨dc, hcell⟩ := R.cell hat
    refine ⟨_, rfl, B (.cell c.id), CC, dc, _, rfl, hcell, T.isC.cl, T.n_colour, (by show 8 < 1000; decide), ?_⟩
    have epf : putF "colour" (.int 2) (cellF (B (.flds c.id)) (s.remembered.contains c.id) c) = _ := pf_colour .black ho
    rw [epf]
    have R1 : RepA CC CS B H0 _ (s.put { c with colour := .black }) lst D := R.putCell (dx := dc) (c' := { c with colour := .black }) hat rfl rfl (rem := s.remembered) (fun _ _ => rfl)
    have hat1 : (s.put { c with colour := .black }).at_ c.id = some { c with colour := .black } := put_at_same (c := { c with colour := .black }) hat rfl
    obtain ⟨dc1, hcell1⟩ := R1.cell hat1
    refine ⟨_, rfl, B (.cell c.id), CC, dc1, _, _, rfl, hcell1, T.isC.cl, T.n_kind, cf_kind, rfl, _, rfl, ?_⟩
    have ek : decide (V.int (kindN c.kind) = V.int 0) = decide (c.kind = .plain) := dec_kind c .plain
    show if decide (V.int (kindN c.kind) = V.int 0) = true then _ else _
    rw [ek]
    by_cases hpl : c.kind = .plain
    · rw [decide_eq_true hpl]
      have ekp : c.keeps = Kg93.idsOf c.fields := if_pos hpl
      rw [ekp] at cont
      refine iteT ⟨_, rfl, B (.cell c.id), CC, dc1, _, _, rfl, hcell1, T.isC.cl, T.n_fields, cf_fields, B, H0, s.put { c with colour := .black }, lst, D, B (.flds c.id), c.fields, rfl, R1, fun H3 H4 _ R4 => SqL.of (R4.flds (c := { c with colour := .black }) hat1), fun v hv j e => ?_, by omega, fun H5 R5 => cont H5 R5⟩
      rw [put_some]
      exact hal v hv j e
    · rw [decide_eq_false hpl]
      have ekp : c.keeps = [] := if_neg hpl
      rw [ekp] at cont
      refine iteF (cont _ (R1.congr rfl rfl rfl rfl (fun i => ?_) (fun _ _ _ => rfl)))
      rw [shade_at]
      cases (s.put { c with colour := .black }).at_ i with
      | none => rfl
      | some d => exact congrArg some (shadeF_nil d)
theorem cal_mark_step (F : Def K mg "mark_step" s_mark_step ["store"]) (T : Txt K mg CC CS) (c_make_black : Cal P w K mg base 4 "make_black" (sp_make_black CC CS)) (c_make_grey : Cal P w K mg base 3 "make_grey" (sp_make_grey K CC CS)) (c_looked_at_again : Cal P w K mg base 4 "looked_at_again" (sp_looked_at_again CC CS)) (c_begin_to_sweep : Cal P w K mg base 4 "begin_to_sweep" (sp_begin_to_sweep CC CS)) : Cal P w K mg base 5 "mark_step" (sp_mark_step CC CS) := by
  refine F.cal sc_mark_step (fun vs H Q E h => ?_) (fun f cdv A outer sh H vs Q E hr h => ?_)
  · obtain ⟨B, H0, s, D, rfl, _⟩ := h
    rfl
  · obtain ⟨B, H0, s, D, rfl, R, g, hm, hp, cont⟩ := h
    refine ⟨_, (pss_cons (ps_setLc (i := 1) (own := [("cell", 2)]) (g := gName 2) (tt := (tTest (tOp _ (tFld K (tVar 2) "colour") (tC _)))) (te := (tVar 2)) rfl sc_mark_step.nd rfl rfl (sw_true rfl rfl rfl (by decide +kernel)) (pi_list (pe_fld (pv 0) rfl)) (blkOk_by (own := [("cell", 2)]) (N := ["store", "grey", "cell"]) (sc := defScope s_mark_step) (by decide +kernel)) (fun _ _ _ _ _ => pg_name (i := 2) sc_mark_step.nd rfl (Or.inl rfl)) (fun _ _ _ _ _ => pts_one (pt_cmpR op_eq (pe_fld (pv 2) rfl) (C8.pe_gc rfl T.k_GREY) (nomark _))) (fun _ _ _ _ _ => (pv 2))) (pss_cons (ps_if (pt_cmpR op_gt (pe_callB call_len_seq (by rfl) T.b_len PySem.boot_len (pa_cons (pv 1) pa_nil)) pe_int (nomark _)) (pss_cons (ps_expr (C8.pe_c c_make_black hr (by decide) rfl (pa_cons (pe_ix ix_list (pv 1) pe_int (fun _ _ => rfl)) pa_nil))) (pss_one (ps_ret pe_int))) pss_nil) (pss_cons (ps_if (pt_not (pt_val (C8.pe_c c_make_grey hr (by decide) rfl (pa_cons (C8.pe_c c_looked_at_again hr (by decide) rfl (pa_cons (pv 0) pa_nil)) pa_nil)))) (pss_one (ps_expr (C8.pe_c c_begin_to_sweep hr (by decide) rfl (pa_cons (pv 0) pa_nil)))) pss_nil) (pss_one (ps_ret pe_int))))), ?_⟩
    obtain ⟨dx, sw, hsw, hst⟩ := R.store
    have hs : ∀ c ∈ s.cells, Safe s c := fun c _ => safe_mark hp c
    have hcount := g.count
    have hlen : s.cells.length < sizeLine := Nat.lt_of_le_of_lt (Nat.le_trans hcount hm) (by decide)
    -- grey = [..]
    refine ⟨_, rfl, B .store, CS, dx, _, _, rfl, hst, T.cS, T.m_cells, sf_cells, B .cells, rfl, ⟨_, cells_sq R⟩, fun p hp1 => ?_⟩
    refine lc_rep s.cells (refC B) R hp1 (fun o H' R' => cells_sq R') (fun c => c.old && c.colour == .grey) (refC B) hlen ?_ ?_
    · intro c hc o H' R' Y N hY hN
      obtain ⟨dc, hcell⟩ := R'.cell (g.atc hc)
      refine ⟨rfl, _, rfl, B (.cell c.id), CC, dc, _, _, rfl, hcell, T.isC.cl, T.n_colour, cf_colour, scal_col _ _, _, rfl, ?_⟩
      have e : decide (colV c = V.int 1) = (c.old && c.colour == .grey) := by
        have := colV_eq c .grey
        rw [show (1 : Int) = colN .grey from rfl, this]
        cases c.old <;> cases c.colour <;> rfl
      rw [e]
      cases z : (c.old && c.colour == .grey) with
      | true => exact iteT ⟨_, rfl, hY z⟩
      | false => exact iteF (hN z)
    intro H1 R1
    have hp10 : H0 p = none := R.same.free hp1
    have hl : H1 p = some (.lst ((s.cells.filter fun c => c.old && c.colour == .grey).map (refC B))) := R1.same p _ upd_same
    refine ⟨_, rfl, p, _, rfl, .inl (SqL.of hl), _, _, rfl, rfl, _, rfl, ?_⟩
    have hfind : s.cells.find? (fun c => c.old && c.colour == .grey) = (s.cells.filter fun c => c.old && c.colour == .grey).head? := by rw [List.head?_filter]
    cases hgr : s.cells.filter fun c => c.old && c.colour == .grey with
    | cons c r =>
      rw [hgr] at hl hfind
      refine ite2 (fun _ => ?_) (fun q => absurd (decide_eq_true (by rw [List.length_map, List.length_cons]; omega)) q)
      have hcg : c ∈ s.cells.filter fun c => c.old && c.colour == .grey := by rw [hgr]; exact List.mem_cons_self ..
      obtain ⟨hcm, hco⟩ := List.mem_filter.mp hcg
      rw [Bool.and_eq_true] at hco
      refine ⟨_, rfl, p, _, _, _, rfl, rfl, SqL.of hl, at0 (v := refC B c) rfl, ?_⟩
      refine ⟨B, _, s, _, D, c, rfl, R1, g.atc hcm, hco.1, fun v hv => g.aliveFld hs hcm hv, g.six hcm, fun H2 R2 => ?_⟩
      refine cont H2 B ((s.put { c with colour := .black }).shade c.keeps) true rfl ?_ ?_
      · unfold Kg93.State.step
        rw [hp]
        show (match s.cells.find? fun c => c.old && c.colour == .grey with | some c => _ | none => _) = _
        rw [hfind]
        rfl
      · rw [shade_ids, show idsS (s.put { c with colour := .black }) = idsS s from put_ids s _]
        exact R2.weak (same_upd hp10)
    | nil =>
      rw [hgr] at hfind
      refine iteF ?_
      refine ⟨_, rfl, B, _, s, D, rfl, R1, g, hm, hs, fun H2 p2 hp2 R2 => ?_⟩
      have hp20 : H0 p2 = none := (same_upd hp10).free hp2
      have hroots : s.shade s.roots = s.shade (Kg93.idsOf (laA s)) := shade_congr fun c _ _ _ => by
        rw [idsOf_mem]
        exact roots_iff g hs c.id
      have hself : ((laA s).filter (whiteB s)).isEmpty = true ↔ s.shade s.roots = s := by
        rw [hroots, shade_self g, List.isEmpty_iff, List.filter_eq_nil_iff]
        constructor
        · intro h i hi
          have this : ¬ s.isWhite i = true := h _ (idsOf_mem.mp hi)
          simpa using this
        · intro h v hv
          cases v with
          | none_ => exact Bool.false_ne_true
          | num z => exact Bool.false_ne_true
          | cell i =>
            show ¬ s.isWhite i = true
            rw [h i (idsOf_mem.mpr hv)]
            exact Bool.false_ne_true
      refine ⟨B, _, s, _, D, p2, laA s, rfl, R2, fun H3 H4 hsm R4 => SqL.of (R4.same p2 _ (hsm p2 _ upd_same)), fun v hv => laBy_alive g hs hv, ?_, fun H5 R5 => ?_⟩
      · exact Nat.le_trans (laBy_len g) (by omega)
      refine ⟨_, rfl, ?_⟩
      rw [← hroots] at R5
      have R6 : RepA CC CS B H0 H5 (s.shade s.roots) (idsS s) D := R5.weak ((same_upd hp10).trans (same_upd hp2))
      have hstep : ∀ x, (if s.shade s.roots = s then some (({ s with phase := .sweep 0, cells := s.cells.map (sweepF s) } : Sta), false, 0) else some (s.shade s.roots, false, 0)) = x → s.step = x := by
        intro x hx
        rw [← hx]
        unfold Kg93.State.step
        rw [hp]
        show (match s.cells.find? fun c => c.old && c.colour == .grey with | some c => _ | none => _) = _
        rw [hfind]
        rfl
      cases hem : ((laA s).filter (whiteB s)).isEmpty with
      | true =>
        have heq := hself.mp hem
        rw [heq] at R6
        refine iteT ⟨_, rfl, B, H0, s, D, rfl, R6, g, hm, hp, fun H7 B7 hB7 R7 => ?_⟩
        refine cont H7 B7 { s with phase := .sweep 0, cells := s.cells.map (sweepF s) } false hB7 (hstep _ (if_pos heq)) ?_
        have e : idsS { s with phase := .sweep 0, cells := s.cells.map (sweepF s) } = idsS s := by
          show (s.cells.map (sweepF s)).map (·.id) = _
          rw [List.map_map]
          exact List.map_congr_left fun c _ => (sweepF_eq s c).1
        rw [e]
        exact R7
      | false =>
        have hne : ¬ s.shade s.roots = s := fun h => by rw [hself.mpr h] at hem; cases hem
        refine iteF (cont H5 B (s.shade s.roots) false rfl (hstep _ (if_neg hne)) ?_)
        rw [shade_ids]
        exact R6
end
end Gc
set_option Elab.async false
set_option maxRecDepth 100000
set_option maxHeartbeats 4000000
namespace Gc
open PySem PySem.Spec PyProof.Rows L2
abbrev s_sweep_cell : Stmt := top 32
theorem sc_sweep_cell : FnScope ["store", "cell"] ["store", "cell"] (defScope s_sweep_cell) := ⟨rfl, rfl, rfl, by decide +kernel, rfl, by decide +kernel, by decide +kernel⟩
abbrev s_sweep_step : Stmt := top 33
theorem sc_sweep_step : FnScope ["store", "ahead", "cell"] ["store"] (defScope s_sweep_step) := ⟨rfl, rfl, rfl, by decide +kernel, rfl, by decide +kernel, by decide +kernel⟩
abbrev s_work_slice : Stmt := top 34
theorem sc_work_slice : FnScope ["store", "units", "worked"] ["store", "units"] (defScope s_work_slice) := ⟨rfl, rfl, rfl, by decide +kernel, rfl, by decide +kernel, by decide +kernel⟩
theorem map_erase {α β : Type} (f : α → β) : ∀ (l : List α) (j : Nat), (l.map f).eraseIdx j = (l.eraseIdx j).map f
  | [], j => by simp
  | a :: r, 0 => by simp
  | a :: r, j + 1 => by
    have ih := map_erase f r j
    simp [ih]
theorem erase_filter : ∀ {l : List Nat} {j x : Nat}, l.Nodup → l[j]? = some x → l.eraseIdx j = l.filter fun y => y != x
  | [], j, x, _, h => by simp at h
  | a :: r, 0, x, hn, h => by
    have e : a = x := by simpa using h
    subst e
    rw [List.eraseIdx_zero, List.tail_cons, List.filter_cons, if_neg (by simp)]
    rw [List.nodup_cons] at hn
    symm
    rw [List.filter_eq_self]
    intro y hy
    simp only [bne_iff_ne, ne_eq]
    intro z
    subst z
    exact hn.1 hy
  | a :: r, j + 1, x, hn, h => by
    rw [List.nodup_cons] at hn
    have h' : r[j]? = some x := by simpa using h
    have hx : x ∈ r := List.mem_of_getElem? h'
    rw [List.eraseIdx_cons_succ, erase_filter hn.2 h', List.filter_cons, if_pos]
    simp only [bne_iff_ne, ne_eq]
    intro z
    subst z
    exact hn.1 hx
def sp_sweep_cell (CC CS : Addr) : Sp := fun vs H Q _ => ∃ B H0 s D c n, vs = [.ref (B .store), refC B c] ∧ RepA CC CS B H0 H s (idsS s) D ∧ Good s D ∧ s.words.length < 1000000 ∧ s.phase = .sweep n ∧ s.cells.find? (fun c => c.old && decide (n ≤ c.id)) = some c ∧
  ∀ H' D' t k, s.step = some (t, true, k) → Good t D' → RepA CC CS B H0 H' t (idsS t) D' → Q .non H'
def sp_sweep_step (CC CS : Addr) : Sp := fun vs H Q _ => ∃ B H0 s D n, vs = [.ref (B .store)] ∧ RepA CC CS B H0 H s (idsS s) D ∧ Good s D ∧ s.made ≤ 1000 ∧ s.words.length < 1000000 ∧ s.phase = .sweep n ∧
  (∀ H', s.step = none → Good { s with phase := .rest } D → RepA CC CS B H0 H' { s with phase := .rest } (idsS s) D → Q (.int 0) H') ∧
  (∀ H' D' t k, s.step = some (t, true, k) → Good t D' → RepA CC CS B H0 H' t (idsS t) D' → Q (.int 1) H')
/-! ### steps -/
theorem step_phase {s t : Sta} {b : Bool} {k : Nat} (h : s.step = some (t, b, k)) : t.phase ≠ .rest := by
  unfold Kg93.State.step at h
  split at h
  · simp only [Option.some.injEq, Prod.mk.injEq] at h
    rw [← h.1]
    intro z
    cases z
  · next hp =>
    split at h
    · simp only [Option.some.injEq, Prod.mk.injEq] at h
      rw [← h.1]
      show s.phase ≠ _
      rw [hp]
      intro z
      cases z
    · simp only at h
      split at h
      · simp only [Option.some.injEq, Prod.mk.injEq] at h
        rw [← h.1]
        intro z
        cases z
      · simp only [Option.some.injEq, Prod.mk.injEq] at h
        rw [← h.1]
        show s.phase ≠ _
        rw [hp]
        intro z
        cases z
  · split at h
    · cases h
    · split at h
      · simp only [Option.some.injEq, Prod.mk.injEq] at h
        rw [← h.1]
        intro z
        cases z
      · simp only [Option.some.injEq, Prod.mk.injEq] at h
        rw [← h.1]
        intro z
        cases z
theorem Good.stepM {s t : Sta} {D : List Nat} (g : Good s D) (hp : s.phase = .mark) {b : Bool} {k : Nat} (h : s.step = some (t, b, k)) : Good t D := by
  unfold Kg93.State.step at h
  rw [hp] at h
  simp only at h
  split at h
  · next c hc =>
    simp only [Option.some.injEq, Prod.mk.injEq] at h
    exact h.1 ▸ g.blacken hp (List.mem_of_find?_eq_some hc)
  · next hn =>
    have hn' : ∀ c ∈ s.cells, c.old = true → c.colour ≠ .grey := fun c hc ho e => by
      have := List.find?_eq_none.mp hn c hc
      simp [ho, e] at this
    split at h
    · next hr =>
      simp only [Option.some.injEq, Prod.mk.injEq] at h
      exact h.1 ▸ g.toSweep hp hn' hr
    · simp only [Option.some.injEq, Prod.mk.injEq] at h
      exact h.1 ▸ g.shade hp _
theorem step_cells {s t : Sta} {D : List Nat} (g : Good s D) {b : Bool} {k : Nat} (h : s.step = some (t, b, k)) : k + t.cells.length = s.cells.length := by
  unfold Kg93.State.step at h
  split at h
  · simp only [Option.some.injEq, Prod.mk.injEq] at h
    rw [← h.1, ← h.2.2]
    show 0 + (s.cells.map _).length = _
    rw [List.length_map, Nat.zero_add]
  · split at h
    · simp only [Option.some.injEq, Prod.mk.injEq] at h
      rw [← h.1, ← h.2.2]
      show 0 + ((s.cells.map _).map _).length = _
      rw [List.length_map, List.length_map, Nat.zero_add]
    · simp only at h
      split at h
      · simp only [Option.some.injEq, Prod.mk.injEq] at h
        rw [← h.1, ← h.2.2]
        show 0 + (s.cells.map _).length = _
        rw [List.length_map, Nat.zero_add]
      · simp only [Option.some.injEq, Prod.mk.injEq] at h
        rw [← h.1, ← h.2.2]
        show 0 + (s.cells.map _).length = _
        rw [List.length_map, Nat.zero_add]
  · split at h
    · cases h
    · next n hp c hc =>
      have hcm : c ∈ s.cells := List.mem_of_find?_eq_some hc
      split at h
      · simp only [Option.some.injEq, Prod.mk.injEq] at h
        rw [← h.1, ← h.2.2]
        show 1 + (s.cells.filter fun d => d.id != c.id).length = _
        have e := filter_part (fun d : Kg93.Cell => d.id != c.id) s.cells
        have e2 : (s.cells.filter fun d => !(d.id != c.id)).length = 1 := by
          have h1 : ∀ d ∈ s.cells.filter (fun d => !(d.id != c.id)), d = c := by
            intro d hd
            obtain ⟨a, b⟩ := List.mem_filter.mp hd
            exact g.sorted.uniq a hcm (by simpa using b)
          have h2 : c ∈ s.cells.filter (fun d => !(d.id != c.id)) := List.mem_filter.mpr ⟨hcm, by simp⟩
          have h3 : (s.cells.filter fun d => !(d.id != c.id)).Pairwise fun a b => a.id < b.id := g.sorted.filter _
          match hl : s.cells.filter (fun d => !(d.id != c.id)) with
          | [] => rw [hl] at h2; cases h2
          | [d] => rw [hl]; rfl
          | d :: d' :: r =>
            rw [hl] at h1 h3
            have z1 := h1 d (List.mem_cons_self ..)
            have z2 := h1 d' (List.mem_cons_of_mem _ (List.mem_cons_self ..))
            have z3 := (List.pairwise_cons.mp h3).1 d' (List.mem_cons_self ..)
            rw [z1, z2] at z3
            omega
        omega
      · simp only [Option.some.injEq, Prod.mk.injEq] at h
        rw [← h.1, ← h.2.2]
        show 0 + (s.cells.map _).length = _
        rw [List.length_map, Nat.zero_add]
theorem slice_cells : ∀ (f n : Nat) (s : Sta) (D : List Nat), Good s D → (Kg93.State.slice f n s).2.2 + (Kg93.State.slice f n s).1.cells.length = s.cells.length
  | 0, n, s, D, g => by cases n <;> simp [Kg93.State.slice]
  | f + 1, 0, s, D, g => by simp [Kg93.State.slice]
  | f + 1, n + 1, s, D, g => by
    unfold Kg93.State.slice
    cases h : s.step with
    | none => simp
    | some x =>
      obtain ⟨t, b, k⟩ := x
      obtain ⟨D', g'⟩ := g.step h
      have h1 := step_cells g h
      cases b with
      | true =>
        have ih := slice_cells f n t D' g'
        show (Kg93.State.slice f n t).2.2 + k + _ = _
        dsimp only
        omega
      | false =>
        have ih := slice_cells f (n + 1) t D' g'
        show (Kg93.State.slice f (n + 1) t).2.2 + k + _ = _
        dsimp only
        omega
section
variable {P : Program} {w : World} {K : PySem.W.Frag} {mg : Str → Option Value} {base : Heap} {CC CS : Addr}
theorem cal_sweep_cell (F : Def K mg "sweep_cell" s_sweep_cell ["store", "cell"]) (T : Txt K mg CC CS) (c_tell_last_word : Cal P w K mg base 1 "tell_last_word" (sp_tell_last_word CC CS)) : Cal P w K mg base 2 "sweep_cell" (sp_sweep_cell CC CS) := by
  refine F.cal sc_sweep_cell (fun vs H Q E h => ?_) (fun f cdv A outer sh H vs Q E hr h => ?_)
  · obtain ⟨B, H0, s, D, c, n, rfl, _⟩ := h
    rfl
  · obtain ⟨B, H0, s, D, c, n, rfl, R, g, hwl, hp, hf, cont⟩ := h
    refine ⟨_, (pss_cons (ps_fld (pv 0) (pe_fld (pv 1) rfl) rfl) (pss_one (ps_if (pt_cmpR op_eq (pe_fld (pv 1) rfl) (C8.pe_gc rfl T.k_WHITE) (nomark _)) (pss_cons (ps_expr (C8.pe_c c_tell_last_word hr (by decide) rfl (pa_cons (pv 0) (pa_cons (pv 1) pa_nil)))) (pss_one (ps_expr (pe_bm PySem.F.plainAttrs_list PySem.F.slot_list_remove PySem.F.type_list_remove (mt_removeC T.eqC (hu_of hr)) (pe_fld (pv 0) rfl) (pa_cons (pv 1) pa_nil))))) (pss_one (ps_fld (pv 1) (C8.pe_gc rfl T.k_WHITE) rfl))))), ?_⟩
    have hcm : c ∈ s.cells := List.mem_of_find?_eq_some hf
    have hcn : c.old = true ∧ n ≤ c.id := by simpa using List.find?_some hf
    have hat := g.atc hcm
    obtain ⟨dx, sw, hsw, hst⟩ := R.store
    obtain ⟨dc, hcell⟩ := R.cell hat
    rw [hp] at hst
    have hstep : ∀ x, (if c.colour = .white then some (({ s with phase := .sweep (c.id + 1), cells := s.cells.filter (fun d => d.id != c.id), remembered := s.remembered.filter (fun i => i != c.id), words := s.words ++ c.word.toList } : Sta), true, 1)
        else some (({ s.put { c with colour := .white } with phase := .sweep (c.id + 1) } : Sta), true, 0)) = x → s.step = x := by
      intro x hx
      rw [← hx]
      unfold Kg93.State.step
      rw [hp]
      show (match s.cells.find? fun c => c.old && decide (n ≤ c.id) with | none => _ | some c => _) = _
      rw [hf]
    -- store.swept = cell.place
    refine ⟨_, rfl, B (.cell c.id), CC, dc, _, _, rfl, hcell, T.isC.cl, T.n_place, cf_place, _, rfl, B .store, CS, dx, _, rfl, hst, T.cS, T.m_swept, (by show 6 < 1000; decide), ?_⟩
    rw [pf_swept]
    have R1 := R.setPhase (dx := dx) (.sweep (c.id + 1)) (sw := (c.id : Int)) (fun m e => by cases e; omega)
    have R1' : RepA CC CS B H0 (upd H (B .store) (.ins CS dx (storeF (B .vars) (B .cells) (B .told) s.made (phN (.sweep n)) (c.id : Int)))) { s with phase := .sweep (c.id + 1) } (idsS s) D := R1
    have hat1 : ({ s with phase := .sweep (c.id + 1) } : Sta).at_ c.id = some c := hat
    obtain ⟨dc1, hcell1⟩ := R1'.cell hat1
    refine ⟨_, rfl, B (.cell c.id), CC, dc1, _, _, rfl, hcell1, T.isC.cl, T.n_colour, cf_colour, scal_col _ _, _, rfl, ?_⟩
    have ew : decide (colV c = V.int 0) = decide (c.colour = .white) := by
      rw [dec_white, hcn.1]
      cases c.colour <;> rfl
    rw [ew]
    by_cases hw : c.colour = .white
    · rw [decide_eq_true hw]
      refine iteT ?_
      -- tell_last_word(store, cell)
      refine ⟨_, rfl, _, rfl, B, H0, { s with phase := .sweep (c.id + 1) }, idsS s, D, c, rfl, R1', hat1, hwl, fun H2 R2 => ?_⟩
      -- store.cells.remove(cell)
      obtain ⟨dx2, sw2, hsw2, hst2⟩ := R2.store
      obtain ⟨j, hj⟩ : ∃ j, (idsS s)[j]? = some c.id := List.mem_iff_getElem?.mp (List.mem_map.mpr ⟨c, hcm, rfl⟩)
      have hcl : H2 (B .cells) = some (.lst (((idsS s).map fun i => B (.cell i)).map V.ref)) := by
        rw [List.map_map]
        exact R2.cells
      have hvalid : ∀ i ∈ idsS s, Own ({ s with phase := .sweep (c.id + 1), words := s.words ++ c.word.toList } : Sta) D (.cell i) := by
        intro i hi
        obtain ⟨d, hd, rfl⟩ := List.mem_map.mp hi
        exact .inl (show (s.at_ d.id).isSome = true by rw [g.atc hd]; rfl)
      refine ⟨_, rfl, B .store, CS, dx2, _, _, rfl, hst2, T.cS, T.m_cells, sf_cells, .inl ⟨rfl, _, SqL.of hcl⟩, _, rfl, B .cells, B (.cell c.id), _, j, rfl, rfl, hcl, ?_, ?_, ?_, ?_⟩
      · intro b hb
        obtain ⟨i, hi, rfl⟩ := List.mem_map.mp hb
        obtain ⟨d, hd, rfl⟩ := List.mem_map.mp hi
        have hatd : ({ s with phase := .sweep (c.id + 1), words := s.words ++ c.word.toList } : Sta).at_ d.id = some d := g.atc hd
        obtain ⟨dd, hdd⟩ := R2.cell hatd
        exact ⟨dd, _, hdd⟩
      · rw [List.getElem?_map, hj]
        rfl
      · intro m hmj he
        rw [List.getElem?_map] at he
        obtain ⟨i, hi, hi2⟩ := Option.map_eq_some_iff.mp he
        have hii := R2.inj _ _ (hvalid i (List.mem_of_getElem? hi)) (hvalid c.id (List.mem_of_getElem? hj)) hi2
        injection hii with hii
        subst hii
        refine nodup_take (ids_nodup g) hj ?_
        rw [List.mem_iff_getElem?]
        exact ⟨m, by rw [List.getElem?_take, if_pos hmj]; exact hi⟩
      · have R3 := R2.setCells ((idsS s).eraseIdx j)
        have el : (((idsS s).map fun i => B (.cell i)).eraseIdx j).map V.ref = ((idsS s).eraseIdx j).map fun i => V.ref (B (.cell i)) := by
          rw [map_erase, List.map_map]
          rfl
        rw [el]
        have hfree := g.free hp hf hw
        refine cont _ (c.id :: D) _ 1 (hstep _ (if_pos hw)) hfree ?_
        have ei : idsS { s with phase := .sweep (c.id + 1), cells := s.cells.filter (fun d => d.id != c.id), remembered := s.remembered.filter (fun i => i != c.id), words := s.words ++ c.word.toList } = (idsS s).eraseIdx j := by
          rw [erase_filter (ids_nodup g) hj]
          show (s.cells.filter (fun d => d.id != c.id)).map (·.id) = (s.cells.map (·.id)).filter fun y => y != c.id
          rw [List.filter_map]
          rfl
        rw [ei]
        have hatf : ∀ i, ({ s with phase := .sweep (c.id + 1), cells := s.cells.filter (fun d => d.id != c.id), remembered := s.remembered.filter (fun i => i != c.id), words := s.words ++ c.word.toList } : Sta).at_ i = (s.at_ i).filter (fun d => d.id != c.id) := fun i => g.sorted.at_filter _ i
        refine R3.drop rfl rfl rfl rfl (fun i d hd => ?_) (fun i d hd => ?_) (fun i hi => ?_) (fun i hi => ?_)
        · rw [hatf] at hd
          exact (Option.filter_eq_some_iff.mp hd).1
        · rw [hatf] at hd
          obtain ⟨h1, h2⟩ := Option.filter_eq_some_iff.mp hd
          have hne : i ≠ c.id := by
            rw [at_id h1] at h2
            simpa using h2
          show (s.remembered.filter (fun i => i != c.id)).contains i = s.remembered.contains i
          rw [Bool.eq_iff_iff, List.contains_iff_mem, List.contains_iff_mem, List.mem_filter]
          simp [hne]
        · rcases List.mem_cons.mp hi with rfl | hi
          · exact .inr ⟨c, hat, hcn.1⟩
          · exact .inl hi
        · rw [hatf]
          rcases List.mem_cons.mp hi with rfl | hi
          · rw [hat]
            simp
          · rw [R.nd i hi]
            rfl
    · rw [decide_eq_false hw]
      refine iteF ?_
      refine ⟨_, rfl, B (.cell c.id), CC, dc1, _, rfl, hcell1, T.isC.cl, T.n_colour, (by show 8 < 1000; decide), ?_⟩
      have epf : putF "colour" (.int 0) (cellF (B (.flds c.id)) (({ s with phase := .sweep (c.id + 1) } : Sta).remembered.contains c.id) c) = _ := pf_colour .white hcn.1
      rw [epf]
      have R2 := R1'.putCell (dx := dc1) (c' := { c with colour := .white }) hat1 rfl rfl (rem := s.remembered) (fun _ _ => rfl)
      refine cont _ D _ 0 (hstep _ (if_neg hw)) (g.pass hp hf hw) ?_
      rw [show idsS ({ s.put { c with colour := .white } with phase := .sweep (c.id + 1) } : Sta) = idsS s from put_ids s _]
      exact R2
theorem cal_sweep_step (F : Def K mg "sweep_step" s_sweep_step ["store"]) (T : Txt K mg CC CS) (c_sweep_cell : Cal P w K mg base 2 "sweep_cell" (sp_sweep_cell CC CS)) : Cal P w K mg base 3 "sweep_step" (sp_sweep_step CC CS) := by
  refine F.cal sc_sweep_step (fun vs H Q E h => ?_) (fun f cdv A outer sh H vs Q E hr h => ?_)
  · obtain ⟨B, H0, s, D, n, rfl, _⟩ := h
    rfl
  · obtain ⟨B, H0, s, D, n, rfl, R, g, hm, hwl, hp, k0, k1⟩ := h
    refine ⟨_, (pss_cons (ps_setLc (i := 1) (own := [("cell", 2)]) (g := gName 2) (tt := (tAnd (tNot (tB (tFld K (tVar 2) "young"))) (tTest (tOp _ (tFld K (tVar 2) "place") (tFld K (tVar 0) "swept"))))) (te := (tVar 2)) rfl sc_sweep_step.nd rfl rfl (sw_true rfl rfl rfl (by decide +kernel)) (pi_list (pe_fld (pv 0) rfl)) (blkOk_by (own := [("cell", 2)]) (N := ["store", "ahead", "cell"]) (sc := defScope s_sweep_step) (by decide +kernel)) (fun _ _ _ _ _ => pg_name (i := 2) sc_sweep_step.nd rfl (Or.inl rfl)) (fun _ _ _ _ _ => pts_one (PW.pt (pw_and (pt_not (pt_val (pe_fld (pv 2) rfl))) (pw_and1 (pt_cmpR op_gt (pe_fld (pv 2) rfl) (pe_fld (pv 0) rfl) (nomark _)))))) (fun _ _ _ _ _ => (pv 2))) (pss_cons (ps_if (pt_cmpR op_eq (pe_callB call_len_seq (by rfl) T.b_len PySem.boot_len (pa_cons (pv 1) pa_nil)) pe_int (nomark _)) (pss_cons (ps_fld (pv 0) (C8.pe_gc rfl T.k_RESTS) rfl) (pss_one (ps_ret pe_int))) pss_nil) (pss_cons (ps_expr (C8.pe_c c_sweep_cell hr (by decide) rfl (pa_cons (pv 0) (pa_cons (pe_ix ix_list (pv 1) pe_int (fun _ _ => rfl)) pa_nil)))) (pss_one (ps_ret pe_int))))), ?_⟩
    obtain ⟨dx, sw, hsw, hst⟩ := R.store
    have hcount := g.count
    have hlen : s.cells.length < sizeLine := Nat.lt_of_le_of_lt (Nat.le_trans hcount hm) (by decide)
    -- ahead = [..]
    refine ⟨_, rfl, B .store, CS, dx, _, _, rfl, hst, T.cS, T.m_cells, sf_cells, B .cells, rfl, ⟨_, cells_sq R⟩, fun p hp1 => ?_⟩
    refine lc_rep s.cells (refC B) R hp1 (fun o H' R' => cells_sq R') (fun c => c.old && decide (n ≤ c.id)) (refC B) hlen ?_ ?_
    · intro c hc o H' R' Y N hY hN
      obtain ⟨dc, hcell⟩ := R'.cell (g.atc hc)
      obtain ⟨dx', sw', hsw', hst'⟩ := R'.store
      have esw := hsw' n hp
      refine ⟨rfl, _, rfl, B (.cell c.id), CC, dc, _, _, rfl, hcell, T.isC.cl, T.n_young, cf_young, _, rfl, ?_⟩
      cases ho : c.old with
      | false =>
        rw [ho] at hN
        exact iteF (iteF (hN rfl))
      | true =>
        rw [ho, Bool.true_and] at hY hN
        refine iteT ⟨_, rfl, B (.cell c.id), CC, dc, _, _, rfl, hcell, T.isC.cl, T.n_place, cf_place, _, rfl, B .store, CS, dx', _, _, rfl, hst', T.cS, T.m_swept, sf_swept, _, _, rfl, rfl, _, rfl, ?_⟩
        have e : decide (sw' < (c.id : Int)) = decide (n ≤ c.id) := decide_eq_decide.mpr (by omega)
        show if decide (sw' < (c.id : Int)) = true then _ else _
        rw [e]
        cases z : decide (n ≤ c.id) with
        | true => exact iteT ⟨_, rfl, hY z⟩
        | false => exact iteF (hN z)
    intro H1 R1
    have hp10 : H0 p = none := R.same.free hp1
    have hl : H1 p = some (.lst ((s.cells.filter fun c => c.old && decide (n ≤ c.id)).map (refC B))) := R1.same p _ upd_same
    refine ⟨_, rfl, p, _, rfl, .inl (SqL.of hl), rfl, _, rfl, ?_⟩
    have hfind : s.cells.find? (fun c => c.old && decide (n ≤ c.id)) = (s.cells.filter fun c => c.old && decide (n ≤ c.id)).head? := by rw [List.head?_filter]
    cases hgr : s.cells.filter fun c => c.old && decide (n ≤ c.id) with
    | nil =>
      rw [hgr] at hfind
      refine iteT ?_
      obtain ⟨dx1, sw1, hsw1, hst1⟩ := R1.store
      refine ⟨_, rfl, B .store, CS, dx1, _, rfl, hst1, T.cS, T.m_phase, (by show 6 < 1000; decide), ?_⟩
      rw [pf_phase]
      have R2 := (R1.weak (same_upd hp10)).setPhase (dx := dx1) .rest (sw := sw1) (fun n e => by cases e)
      have hnone : s.cells.find? (fun c => c.old && decide (n ≤ c.id)) = none := hfind
      refine k0 _ ?_ (g.toRest hp hnone) R2
      unfold Kg93.State.step
      rw [hp]
      show (match s.cells.find? fun c => c.old && decide (n ≤ c.id) with | none => _ | some c => _) = _
      rw [hnone]
    | cons c r =>
      rw [hgr] at hl hfind
      refine ite2 (fun q => ?_) (fun _ => ?_)
      · have := of_decide_eq_true q
        injection this with this
        rw [List.length_map, List.length_cons] at this
        omega
      refine ⟨_, rfl, _, rfl, p, _, _, _, rfl, rfl, SqL.of hl, at0 (v := refC B c) rfl, ?_⟩
      refine ⟨B, _, s, D, c, n, rfl, R1, g, hwl, hp, hfind, fun H2 D2 t k hst2 g2 R2 => ?_⟩
      exact k1 H2 D2 t k hst2 g2 (R2.weak (same_upd hp10))
end
end Gc
set_option Elab.async false
set_option maxRecDepth 100000
set_option maxHeartbeats 4000000
namespace Gc
open PySem PySem.Spec PyProof.Rows L2
abbrev s_call_slice : Stmt := top 91
theorem sc_call_slice : FnScope ["store", "numbers", "cells_before", "worked"] ["store", "numbers"] (defScope s_call_slice) := ⟨rfl, rfl, rfl, by decide +kernel, rfl, by decide +kernel, by decide +kernel⟩
structure TxtT (K : PySem.W.Frag) (mg : Str → Option Value) (CC CS : Addr) : Prop extends TxtS K mg CC CS where
  k_MOST_UNITS : KInt mg "MOST_UNITS" 1000
  k_MOST_SEEN : KInt mg "MOST_SEEN" 60
  k_TOO_MANY_SEEN : KInt mg "TOO_MANY_SEEN" (-7)
def cSlice (ns : List Int) (c : Kg93.Call) : Prop := ∃ n, ns = [n] ∧ c = .slice n
/-! ### a slice -/
/-- how far a slice is: m units worked, the state t; what is still to come is told by the specification from there on -/
def Run (r : Sta × Nat × Nat) (n0 : Nat) (t : Sta) (m μ : Nat) : Prop :=
  (t.phase ≠ .rest ∧ ∃ n f, m + n = n0 ∧ need n t ≤ f ∧ r.1 = (Kg93.State.slice f n t).1 ∧ r.2.1 = m + (Kg93.State.slice f n t).2.1 ∧ μ = need n t) ∨ (t.phase = .rest ∧ m ≤ n0 ∧ r.1 = t ∧ r.2.1 = m ∧ μ = 0)
theorem Run.le {r : Sta × Nat × Nat} {n0 m μ : Nat} {t : Sta} (h : Run r n0 t m μ) : m ≤ n0 := by
  rcases h with ⟨_, n, f, h, _⟩ | ⟨_, h, _⟩ <;> omega
theorem Run.full {r : Sta × Nat × Nat} {n0 μ : Nat} {t : Sta} (h : Run r n0 t n0 μ) : r.1 = t ∧ r.2.1 = n0 := by
  rcases h with ⟨_, n, f, h, _, h1, h2, _⟩ | ⟨_, _, h1, h2, _⟩
  · have : n = 0 := by omega
    subst this
    rw [slice_zero] at h1 h2
    exact ⟨h1, h2⟩
  · exact ⟨h1, h2⟩
theorem Run.rest {r : Sta × Nat × Nat} {n0 m μ : Nat} {t : Sta} (h : Run r n0 t m μ) (hp : t.phase = .rest) : r.1 = t ∧ r.2.1 = m := by
  rcases h with ⟨h, _⟩ | ⟨_, _, h1, h2, _⟩
  · exact absurd hp h
  · exact ⟨h1, h2⟩
theorem Run.end_ {r : Sta × Nat × Nat} {n0 m μ : Nat} {t : Sta} (h : Run r n0 t m μ) (hm : m < n0) (hp : t.phase ≠ .rest) (hs : t.step = none) : Run r n0 { t with phase := .rest } m 0 ∧ 0 < μ := by
  rcases h with ⟨_, n, f, h, hf, h1, h2, rfl⟩ | ⟨h, _⟩
  · obtain ⟨n, rfl⟩ : ∃ k, n = k + 1 := ⟨n - 1, by omega⟩
    rw [slice_end hf hs] at h1 h2
    refine ⟨.inr ⟨rfl, by omega, h1, h2, rfl⟩, ?_⟩
    show 0 < 3 * n + rank t
    have := rank_pos t
    omega
  · exact absurd h hp
theorem Run.step {r : Sta × Nat × Nat} {n0 m μ : Nat} {t u : Sta} {b : Bool} {k : Nat} (h : Run r n0 t m μ) (hm : m < n0) (hp : t.phase ≠ .rest) (hs : t.step = some (u, b, k)) : ∃ μ', Run r n0 u (m + if b = true then 1 else 0) μ' ∧ μ' < μ := by
  rcases h with ⟨_, n, f, h, hf, h1, h2, rfl⟩ | ⟨h, _⟩
  · obtain ⟨n, rfl⟩ : ∃ k, n = k + 1 := ⟨n - 1, by omega⟩
    have hneed := step_need (n := n) hs
    cases b with
    | true =>
      obtain ⟨f', hf', e⟩ := slice_unit hf hs
      rw [e] at h1 h2
      rw [if_pos rfl] at hneed
      refine ⟨need n u, .inl ⟨step_phase hs, n, f', by rw [if_pos rfl]; omega, hf', h1, ?_, rfl⟩, by omega⟩
      rw [h2, if_pos rfl]
      show m + ((Kg93.State.slice f' n u).2.1 + 1) = _
      omega
    | false =>
      obtain ⟨f', hf', e⟩ := slice_more hf hs
      rw [e] at h1 h2
      rw [if_neg (by simp)] at hneed
      refine ⟨need (n + 1) u, .inl ⟨step_phase hs, n + 1, f', by rw [if_neg (by simp)]; omega, hf', h1, ?_, rfl⟩, by omega⟩
      rw [h2, if_neg (by simp)]
      rfl
  · exact absurd h hp
def sp_work_slice (CC CS : Addr) : Sp := fun vs H Q _ => ∃ (B : Role → Addr) (H0 : Hp) (s : Sta) (D : List Nat) (n : Nat), vs = [.ref (B .store), .int n] ∧ RepA CC CS B H0 H s (idsS s) D ∧ Good s D ∧ Wd s ∧ s.made ≤ 1000 ∧ 1 ≤ n ∧
  ∀ H' B' D', B' .store = B .store → Good (Kg93.State.slice (3 * n + 3) n s).1 D' → Wd (Kg93.State.slice (3 * n + 3) n s).1 → RepA CC CS B' H0 H' (Kg93.State.slice (3 * n + 3) n s).1 (idsS (Kg93.State.slice (3 * n + 3) n s).1) D' → Q (.int ((Kg93.State.slice (3 * n + 3) n s).2.1 : Nat)) H'
theorem phN_rest (p : Kg93.Phase) : decide (V.int (phN p) = V.int 0) = decide (p = .rest) := by
  cases p <;> rfl
theorem Wd.lt {s : Sta} (w : Wd s) (hm : s.made ≤ 1000) : s.words.length < 1000000 := by
  unfold Wd at w
  omega
section
variable {P : Program} {w : World} {K : PySem.W.Frag} {mg : Str → Option Value} {base : Heap} {CC CS : Addr}
theorem cal_work_slice (F : Def K mg "work_slice" s_work_slice ["store", "units"]) (T : Txt K mg CC CS) (c_begin_to_mark : Cal P w K mg base 4 "begin_to_mark" (sp_begin_to_mark CC CS)) (c_mark_step : Cal P w K mg base 5 "mark_step" (sp_mark_step CC CS)) (c_sweep_step : Cal P w K mg base 3 "sweep_step" (sp_sweep_step CC CS)) : Cal P w K mg base 6 "work_slice" (sp_work_slice CC CS) := by
  refine F.cal sc_work_slice (fun vs H Q E h => ?_) (fun f cdv A outer sh H vs Q E hr h => ?_)
  · obtain ⟨B, H0, s, D, n, rfl, _⟩ := h
    rfl
  · obtain ⟨B, H0, s, D, n, rfl, R, g, wd, hm, hn, cont⟩ := h
    refine ⟨_, (pss_cons (ps_if (pt_cmpR op_eq (pe_fld (pv 0) rfl) (C8.pe_gc rfl T.k_RESTS) (nomark _)) (pss_one (ps_expr (C8.pe_c c_begin_to_mark hr (by decide) rfl (pa_cons (pv 0) pa_nil)))) pss_nil) (pss_cons (ps_set (i := 2) sc_work_slice.nd rfl (Or.inl rfl) pe_int) (pss_cons (ps_while PassesOwn.never (PW.pt (pw_and (pt_cmpR op_lt (pv 2) (pv 1) (nomark _)) (pw_and1 (pt_cmpR op_ne (pe_fld (pv 0) rfl) (C8.pe_gc rfl T.k_RESTS) (nomark _))))) (pss_one (ps_aug (i := 2) sc_work_slice.nd rfl (Or.inl rfl) (pe_ifExp (pt_cmpR op_eq (pe_fld (pv 0) rfl) (C8.pe_gc rfl T.k_MARKS) (nomark _)) (C8.pe_c c_mark_step hr (by decide) rfl (pa_cons (pv 0) pa_nil)) (C8.pe_c c_sweep_step hr (by decide) rfl (pa_cons (pv 0) pa_nil))) ip_add))) (pss_one (ps_ret (pv 2)))))), ?_⟩
    have hneed := need_enough n s
    generalize hr0 : Kg93.State.slice (3 * n + 3) n s = r at cont
    -- the loop, from any state on
    have loop : ∀ (H1 : Hp) (t : Sta) (μ : Nat), RepA CC CS B H0 H1 t (idsS t) D → Good t D → Wd t → t.made ≤ 1000 → Run r n t 0 μ →
        tSeq (tWhile (tAnd (tTest (tOp (rI0 fun i j => .bl (decide (i < j))) (tVar 2) (tVar 1))) (tTest (tOp rNe (tFld K (tVar 0) "phase") (tC (.int 0))))) (tAug 2 (tIf (tTest (tOp rEq (tFld K (tVar 0) "phase") (tC (.int 1)))) (tCall (sp_mark_step CC CS) [] E0 (tCons (tVar 0) tNil)) (tCall (sp_sweep_step CC CS) [] E0 (tCons (tVar 0) tNil))) (ipI fun i j => i + j))) (tRet (tVar 2))
          { nx := fun _ H' => Q .non H', rt := Q } [some (.ref (B .store)), some (.int n), some (.int 0)] H1 := by
      intro H1 t0 μ0 R1 g1 w1 hm1 run1
      refine ⟨fun μ σ H' => ∃ (m : Nat) (t : Sta) (B' : Role → Addr) (D' : List Nat), σ = [some (.ref (B .store)), some (.int n), some (.int m)] ∧ B' .store = B .store ∧ Good t D' ∧ Wd t ∧ t.made ≤ 1000 ∧ RepA CC CS B' H0 H' t (idsS t) D' ∧ Run r n t m μ,
        ⟨_, 0, t0, B, D, rfl, rfl, g1, w1, hm1, R1, run1⟩, ?_⟩
      rintro μ σ H' ⟨m, t, B', D', rfl, hBs, gt, wt, hmt, R', run⟩
      have hle := run.le
      refine ⟨_, rfl, _, rfl, _, _, rfl, rfl, _, rfl, ?_⟩
      by_cases hmn : m = n
      · refine ite2 (fun q => absurd (of_decide_eq_true q) (by omega)) (fun _ => ?_)
        subst hmn
        obtain ⟨e1, e2⟩ := run.full
        refine iteF ⟨_, rfl, ?_⟩
        have := cont H' B' D' hBs (by rw [e1]; exact gt) (by rw [e1]; exact wt) (by rw [e1]; exact R')
        rw [e2] at this
        exact this
      · have hlt : m < n := by omega
        refine ite2 (fun _ => ?_) (fun q => absurd (decide_eq_true (by omega)) q)
        obtain ⟨dx, sw, hsw, hst⟩ := R'.store
        rw [hBs] at hst
        refine ⟨_, rfl, B .store, CS, dx, _, _, rfl, hst, T.cS, T.m_phase, sf_phase, rfl, _, rfl, ?_⟩
        have ep : (!decide (V.int (phN t.phase) = V.int 0)) = !decide (t.phase = .rest) := congrArg _ (phN_rest _)
        rw [ep]
        by_cases hpr : t.phase = .rest
        · rw [decide_eq_true hpr]
          obtain ⟨e1, e2⟩ := run.rest hpr
          refine iteF ⟨_, rfl, ?_⟩
          have := cont H' B' D' hBs (by rw [e1]; exact gt) (by rw [e1]; exact wt) (by rw [e1]; exact R')
          rw [e2] at this
          exact this
        · rw [decide_eq_false hpr]
          refine iteT ?_
          refine ⟨fun σ' H2 => ∃ (μ' m' : Nat) (t' : Sta) (B2 : Role → Addr) (D2 : List Nat), μ' < μ ∧ σ' = [some (.ref (B .store)), some (.int n), some (.int m')] ∧ B2 .store = B .store ∧ Good t' D2 ∧ Wd t' ∧ t'.made ≤ 1000 ∧ RepA CC CS B2 H0 H2 t' (idsS t') D2 ∧ Run r n t' m' μ',
            fun σ' H2 ⟨μ', m', t', B2, D2, h0, h1, h2, h3, h4, h5, h6, h7⟩ => ⟨μ', h0, m', t', B2, D2, h1, h2, h3, h4, h5, h6, h7⟩, ?_⟩
          refine ⟨_, rfl, _, rfl, B .store, CS, dx, _, _, rfl, hst, T.cS, T.m_phase, sf_phase, rfl, _, rfl, ?_⟩
          rw [phN_mark]
          cases hph : t.phase with
          | rest => exact absurd hph hpr
          | mark =>
            refine iteT ⟨_, rfl, B', H0, t, D', congrArg (fun a => [V.ref a]) hBs.symm, R', gt, hmt, hph, fun H3 B3 u b hB3 hstep R3 => ?_⟩
            obtain ⟨μ', run', hlt'⟩ := run.step hlt hpr hstep
            refine ⟨_, _, rfl, rfl, μ', m + (if b = true then 1 else 0), u, B3, D', hlt', ?_, hB3.trans hBs, gt.stepM hph hstep, wt.step gt hstep, by rw [step_made hstep]; exact hmt, R3, run'⟩
            cases b <;> rfl
          | sweep k =>
            refine iteF ⟨_, rfl, B', H0, t, D', k, congrArg (fun a => [V.ref a]) hBs.symm, R', gt, hmt, wt.lt hmt, hph, fun H3 hnone g3 R3 => ?_, fun H3 D3 u kk hstep g3 R3 => ?_⟩
            · obtain ⟨run', hpos⟩ := run.end_ hlt hpr hnone
              refine ⟨_, _, rfl, rfl, 0, m, { t with phase := .rest }, B', D', hpos, ?_, hBs, g3, wt, hmt, R3, run'⟩
              show [_, _, some (V.int ((m : Int) + 0))] = _
              rw [Int.add_zero]
            · obtain ⟨μ', run', hlt'⟩ := run.step hlt hpr hstep
              rw [if_pos rfl] at run'
              exact ⟨_, _, rfl, rfl, μ', m + 1, u, B', D3, hlt', rfl, hBs, g3, wt.step gt hstep, by rw [step_made hstep]; exact hmt, R3, run'⟩
    obtain ⟨dx, sw, hsw, hst⟩ := R.store
    refine ⟨_, rfl, B .store, CS, dx, _, _, rfl, hst, T.cS, T.m_phase, sf_phase, rfl, _, rfl, ?_⟩
    rw [phN_rest]
    by_cases hpr : s.phase = .rest
    · rw [decide_eq_true hpr]
      refine iteT ⟨_, rfl, B, H0, s, D, rfl, R, g, hm, hpr, fun H1 R1 => ?_⟩
      obtain ⟨n', rfl⟩ : ∃ k, n = k + 1 := ⟨n - 1, by omega⟩
      have hstep : s.step = some (({ s with phase := .mark } : Sta).shade s.roots, false, 0) := by
        unfold Kg93.State.step
        rw [hpr]
      obtain ⟨f', hf', e⟩ := slice_more hneed hstep
      rw [hr0] at e
      refine loop H1 (({ s with phase := .mark } : Sta).shade s.roots) _ ?_ (g.start hpr _) (wd.step g hstep) (by rw [step_made hstep]; exact hm) (.inl ⟨step_phase hstep, n' + 1, f', by omega, hf', by rw [e], by rw [e, Nat.zero_add], rfl⟩)
      rw [shade_ids]
      exact R1
    · rw [decide_eq_false hpr]
      exact iteF (loop H s _ R g wd hm (.inl ⟨hpr, n, 3 * n + 3, by omega, hneed, by rw [hr0], by rw [hr0, Nat.zero_add], rfl⟩))
/-- a slice's answer -/
theorem cal_call_slice (F : Def K mg "call_slice" s_call_slice ["store", "numbers"]) (T : TxtT K mg CC CS) (c_work_slice : Cal P w K mg base 6 "work_slice" (sp_work_slice CC CS)) : Cal P w K mg base 7 "call_slice" (spC CC CS cSlice) := by
  refine F.cal sc_call_slice (fun vs H Q E h => spC_len h) (fun f cdv A outer sh H vs Q E hr h => ?_)
  obtain ⟨B, H0, s, D, nl, ns, c, rfl, hnl, R, g, wd, hm, ⟨n, rfl, rfl⟩, ret⟩ := h
  refine ⟨_, (pss_cons (ps_if (pt_not (pt_chain op_le op_le pe_int (pe_ix ix_list (pv 1) pe_int (fun _ _ => rfl)) (C8.pe_gc rfl T.k_MOST_UNITS))) (pss_one (ps_ret (pe_lst (pa_cons (C8.pe_gc rfl T.k_NOT_AS_TOLD) pa_nil)))) pss_nil) (pss_cons (ps_set (i := 2) sc_call_slice.nd rfl (Or.inl rfl) (pe_callB call_len_seq (by rfl) T.b_len PySem.boot_len (pa_cons (pe_fld (pv 0) rfl) pa_nil))) (pss_cons (ps_set (i := 3) sc_call_slice.nd rfl (Or.inl rfl) (C8.pe_c c_work_slice hr (by decide) rfl (pa_cons (pv 0) (pa_cons (pe_ix ix_list (pv 1) pe_int (fun _ _ => rfl)) pa_nil)))) (pss_one (ps_ret (pe_lst (pa_cons (pv 3) (pa_cons (pe_fld (pv 0) rfl) (pa_cons (pe_op op_sub (pv 2) (pe_callB call_len_seq (by rfl) T.b_len PySem.boot_len (pa_cons (pe_fld (pv 0) rfl) pa_nil))) pa_nil))))))))), ?_⟩
  have hnlH : H nl = some (.lst ([n].map V.int)) := R.same nl _ hnl
  have es : Kg93.spec s (.slice n) = if n < 1 ∨ 1000 < n then (s, Kg93.num (-1)) else ((Kg93.State.slice (3 * n.toNat + 3) n.toNat s).1, ⟨((Kg93.State.slice (3 * n.toNat + 3) n.toNat s).2.1 : Int), [(Kg93.State.slice (3 * n.toNat + 3) n.toNat s).1.phase.told, ((Kg93.State.slice (3 * n.toNat + 3) n.toNat s).2.2 : Int)]⟩) := rfl
  rw [es] at ret
  refine ⟨_, rfl, nl, _, _, _, rfl, rfl, SqL.of hnlH, rfl, _, _, rfl, rfl, _, rfl, ?_⟩
  by_cases h1 : 1 ≤ n
  · refine ite2 (fun _ => ?_) (fun q => absurd (decide_eq_true h1) q)
    refine ⟨_, _, rfl, rfl, _, rfl, ?_⟩
    by_cases h2 : n ≤ 1000
    · refine ite2 (fun q => ?_) (fun _ => ?_)
      · have q' : (!decide (n ≤ 1000)) = true := q
        rw [decide_eq_true h2] at q'
        cases q'
      rw [if_neg (by omega)] at ret
      obtain ⟨dx, sw, hsw, hst⟩ := R.store
      have en : (n : Int) = (n.toNat : Int) := by omega
      refine ⟨_, rfl, B .store, CS, dx, _, _, rfl, hst, T.cS, T.m_cells, sf_cells, B .cells, _, rfl, .inl (cells_sq R), ?_⟩
      refine ⟨_, rfl, _, rfl, nl, _, _, _, rfl, rfl, SqL.of hnlH, rfl, B, H0, s, D, n.toNat, by rw [← en]; rfl, R, g, wd, by omega, by omega, fun H1 B1 D1 hB1 g1 w1 R1 => ?_⟩
      have hcells := slice_cells (3 * n.toNat + 3) n.toNat s D g
      generalize Kg93.State.slice (3 * n.toNat + 3) n.toNat s = r at ret g1 w1 R1 hcells
      obtain ⟨dx1, sw1, hsw1, hst1⟩ := R1.store
      rw [hB1] at hst1
      refine ⟨_, rfl, _, rfl, B .store, CS, dx1, _, _, rfl, hst1, T.cS, T.m_phase, sf_phase, _, rfl, _, rfl, B .store, CS, dx1, _, _, rfl, hst1, T.cS, T.m_cells, sf_cells, B1 .cells, _, rfl, .inl (cells_sq R1), _, _, rfl, rfl, by show 3 ≤ 2 ^ 24; decide, fun p hp => ?_⟩
      refine ret.now hB1 R1 g1 w1 hp ?_
      have e3 : (((s.cells.map (refC B)).length : Nat) : Int) - (((r.1.cells.map (refC B1)).length : Nat) : Int) = (r.2.2 : Int) := by
        rw [List.length_map, List.length_map]
        omega
      show [V.int _, V.int (phN r.1.phase), V.int ((((s.cells.map (refC B)).length : Nat) : Int) - (((r.1.cells.map (refC B1)).length : Nat) : Int))] = [V.int _, V.int _, V.int _]
      rw [e3]
      cases r.1.phase <;> rfl
    · rw [if_pos (by omega)] at ret
      refine ite2 (fun _ => ?_) (fun q => ?_)
      · exact ⟨by show 1 ≤ 2 ^ 24; decide, fun p hp => ret.now rfl R g wd hp rfl⟩
      · exfalso
        apply q
        show (!decide (n ≤ 1000)) = true
        rw [decide_eq_false h2]
        rfl
  · rw [if_pos (by omega)] at ret
    refine ite2 (fun q => absurd (of_decide_eq_true q) h1) (fun _ => ?_)
    refine ⟨_, rfl, iteT ⟨by show 1 ≤ 2 ^ 24; decide, fun p hp => ret.now rfl R g wd hp rfl⟩⟩
end
end Gc
set_option Elab.async false
set_option maxRecDepth 100000
set_option maxHeartbeats 4000000
namespace Gc
open PySem PySem.Spec PyProof.Rows L2
abbrev s_call_found : Stmt := top 87
theorem sc_call_found : FnScope ["store", "numbers", "cell", "key", "has_key"] ["store", "numbers"] (defScope s_call_found) := ⟨rfl, rfl, rfl, by decide +kernel, rfl, by decide +kernel, by decide +kernel⟩
abbrev s_call_last : Stmt := top 88
theorem sc_call_last : FnScope ["store", "numbers", "cell"] ["store", "numbers"] (defScope s_call_last) := ⟨rfl, rfl, rfl, by decide +kernel, rfl, by decide +kernel, by decide +kernel⟩
abbrev s_call_words : Stmt := top 89
theorem sc_call_words : FnScope ["store", "numbers", "told"] ["store", "numbers"] (defScope s_call_words) := ⟨rfl, rfl, rfl, by decide +kernel, rfl, by decide +kernel, by decide +kernel⟩
abbrev s_call_same : Stmt := top 94
theorem sc_call_same : FnScope ["store", "numbers", "held"] ["store", "numbers"] (defScope s_call_same) := ⟨rfl, rfl, rfl, by decide +kernel, rfl, by decide +kernel, by decide +kernel⟩
def cFound (ns : List Int) (c : Kg93.Call) : Prop := ∃ v u k, ns = [v, u, k] ∧ isVar v = true ∧ isVar u = true ∧ isVar k = true ∧ c = .found v u k
def cLast (ns : List Int) (c : Kg93.Call) : Prop := ∃ u z, ns = [u, z] ∧ isVar u = true ∧ c = .last u z
def cWords (ns : List Int) (c : Kg93.Call) : Prop := ns = [] ∧ c = .words
def cSame (ns : List Int) (c : Kg93.Call) : Prop := ∃ u v, ns = [u, v] ∧ isVar u = true ∧ isVar v = true ∧ c = .same u v
theorem RepA.cell_inj {CC CS : Addr} {B : Role → Addr} {H0 H : Hp} {s : Sta} {lst : List Nat} {D : List Nat} (R : RepA CC CS B H0 H s lst D) {i j : Nat} (hi : (s.at_ i).isSome = true) (hj : (s.at_ j).isSome = true) : decide (B (.cell i) = B (.cell j)) = decide (i = j) := by
  refine decide_eq_decide.mpr ⟨fun e => ?_, fun e => by rw [e]⟩
  have := R.inj _ _ (.inl (show Valid s (.cell i) from hi)) (.inl (show Valid s (.cell j) from hj)) e
  injection this
theorem RepA.eqV {CC CS : Addr} {B : Role → Addr} {H0 H : Hp} {s : Sta} {lst : List Nat} {D : List Nat} (R : RepA CC CS B H0 H s lst D) {i : Nat} (hi : (s.at_ i).isSome = true) {v : Vl} (hv : AliveV s v) :
    EqV CC H (V.ref (B (.cell i))) (vV (adB B) v) (decide (v = .cell i)) := by
  obtain ⟨c, hc⟩ := Option.isSome_iff_exists.mp hi
  obtain ⟨dc, hcell⟩ := R.cell hc
  cases v with
  | none_ => exact .inr (.inl ⟨_, dc, _, rfl, hcell, .inl rfl, by simp⟩)
  | num z => exact .inr (.inl ⟨_, dc, _, rfl, hcell, .inr ⟨z, rfl⟩, by simp⟩)
  | cell j =>
    obtain ⟨d, hd⟩ := Option.isSome_iff_exists.mp (hv j rfl)
    obtain ⟨dd, hdc⟩ := R.cell hd
    refine .inl ⟨_, _, dc, dd, _, _, rfl, rfl, hcell, hdc, ?_⟩
    show _ = decide (B (.cell i) = B (.cell j))
    rw [R.cell_inj hi (hv j rfl)]
    refine decide_eq_decide.mpr ⟨fun e => by injection e with e; exact e.symm, fun e => by rw [e]⟩
theorem RepA.eqVL {CC CS : Addr} {B : Role → Addr} {H0 H : Hp} {s : Sta} {lst : List Nat} {D : List Nat} (R : RepA CC CS B H0 H s lst D) {i : Nat} (hi : (s.at_ i).isSome = true) {v : Vl} (hv : AliveV s v) (hn : ∀ z, v ≠ .num z) :
    EqV CC H (vV (adB B) v) (V.ref (B (.cell i))) (decide (v = .cell i)) := by
  obtain ⟨c, hc⟩ := Option.isSome_iff_exists.mp hi
  obtain ⟨dc, hcell⟩ := R.cell hc
  cases v with
  | none_ => exact .inr (.inr ⟨_, dc, _, rfl, hcell, rfl, by simp⟩)
  | num z => exact absurd rfl (hn z)
  | cell j =>
    obtain ⟨d, hd⟩ := Option.isSome_iff_exists.mp (hv j rfl)
    obtain ⟨dd, hdc⟩ := R.cell hd
    refine .inl ⟨_, _, dd, dc, _, _, rfl, rfl, hdc, hcell, ?_⟩
    show _ = decide (B (.cell j) = B (.cell i))
    rw [R.cell_inj (hv j rfl) hi]
    refine decide_eq_decide.mpr ⟨fun e => by injection e, fun e => by rw [e]⟩
section
variable {P : Program} {w : World} {K : PySem.W.Frag} {mg : Str → Option Value} {base : Heap} {CC CS : Addr}
theorem cal_call_found (F : Def K mg "call_found" s_call_found ["store", "numbers"]) (T : TxtS K mg CC CS) (c_is_cell : Cal P w K mg base 1 "is_cell" (sp_is_cell CC)) (c_is_cell_of : Cal P w K mg base 2 "is_cell_of" (sp_is_cell_of CC)) : Cal P w K mg base 3 "call_found" (spC CC CS cFound) := by
  refine F.cal sc_call_found (fun vs H Q E h => spC_len h) (fun f cdv A outer sh H vs Q E hr h => ?_)
  obtain ⟨B, H0, s, D, nl, ns, c, rfl, hnl, R, g, wd, hm, ⟨v, u, k, rfl, hv, hu, hk, rfl⟩, ret⟩ := h
  refine ⟨_, (pss_cons (ps_set (i := 2) sc_call_found.nd rfl (Or.inl rfl) (pe_ix ix_list (pe_fld (pv 0) rfl) (pe_ix ix_list (pv 1) pe_int (fun _ _ => rfl)) (fun _ _ => rfl))) (pss_cons (ps_set (i := 3) sc_call_found.nd rfl (Or.inl rfl) (pe_ix ix_list (pe_fld (pv 0) rfl) (pe_ix ix_list (pv 1) pe_int (fun _ _ => rfl)) (fun _ _ => rfl))) (pss_cons (ps_if (PW.pt (pw_or (pt_not (pt_val (C8.pe_c c_is_cell_of hr (by decide) rfl (pa_cons (C8.pe_gc rfl T.k_KEYED) (pa_cons (pv 2) pa_nil))))) (pw_or1 (pt_not (pt_val (C8.pe_c c_is_cell hr (by decide) rfl (pa_cons (pv 3) pa_nil))))))) (pss_one (ps_ret (pe_lst (pa_cons (C8.pe_gc rfl T.k_NO_SUCH_CELL) pa_nil)))) pss_nil) (pss_cons (ps_set (i := 4) sc_call_found.nd rfl (Or.inl rfl) (pe_cmpR (op_eqC T.eqC (Nat.lt_of_succ_lt (hu_of hr))) (pe_ix ix_list (pe_fld (pv 2) rfl) pe_int (fun _ _ => rfl)) (pv 3) (nomark _))) (pss_cons (ps_asg (pe_ifExp (pt_val (pv 4)) (pe_ix ix_list (pe_fld (pv 2) rfl) pe_int (fun _ _ => rfl)) pe_non) (pg_sub (pe_fld (pv 0) rfl) (pe_ix ix_list (pv 1) pe_int (fun _ _ => rfl)) set_list)) (pss_one (ps_ret (pe_ifExp (pt_val (pv 4)) (pe_lst (pa_cons pe_int pa_nil)) (pe_lst (pa_cons pe_int pa_nil)))))))))), ?_⟩
  have hnlH : H nl = some (.lst ([v, u, k].map V.int)) := R.same nl _ hnl
  obtain ⟨dx, sw, hsw, hst⟩ := R.store
  have es : Kg93.spec s (.found v u k) = (match cellV s (s.var u.toNat), cellV s (s.var k.toNat) with
      | some c, some d => if c.kind ≠ .keyed then (s, Kg93.num (-3)) else match c.fields with
        | [.cell i, x] => if i = d.id then (s.setVar v.toNat x, Kg93.num 1) else (s.setVar v.toNat .none_, Kg93.num 0)
        | _ => (s.setVar v.toNat .none_, Kg93.num 0)
      | _, _ => (s, Kg93.num (-3))) := by
    rw [← of_eq, ← of_eq]
    show (match Kg93.var? v, Kg93.var? u, Kg93.var? k with | some v, some u, some k => _ | _, _, _ => _) = _
    rw [var_some hv, var_some hu, var_some hk]
    rfl
  rw [es] at ret
  have halk := g.aliveVar k.toNat
  refine ⟨_, rfl, B .store, CS, dx, _, _, rfl, hst, T.cS, T.m_variables, sf_variables, _, rfl, nl, _, _, _, rfl, rfl, SqL.of hnlH, rfl, B .vars, _, _, _, rfl, rfl, SqL.of R.vars, var_get g.v16 hu, ?_⟩
  refine ⟨_, rfl, B .store, CS, dx, _, _, rfl, hst, T.cS, T.m_variables, sf_variables, _, rfl, nl, _, _, _, rfl, rfl, SqL.of hnlH, rfl, B .vars, _, _, _, rfl, rfl, SqL.of R.vars, var_get g.v16 hk, ?_⟩
  refine ⟨_, rfl, 2, _, _, rfl, R.isKV .keyed (g.aliveVar u.toNat), _, rfl, ?_⟩
  cases hc : cellV s (s.var u.toNat) with
  | none =>
    rw [hc] at ret
    exact iteT (iteT ⟨by show 1 ≤ 2 ^ 24; decide, fun p hp => ret.now rfl R g wd hp rfl⟩)
  | some c =>
    rw [hc] at ret
    obtain ⟨hcm, hsafe, hvar⟩ := g.of_some ((of_eq s u.toNat).trans hc)
    by_cases hkd : c.kind = .keyed
    · have e1 : (!((some c).any fun c => decide (c.kind = .keyed))) = false := by
        show (!decide (c.kind = .keyed)) = false
        rw [decide_eq_true hkd]; rfl
      rw [e1]
      refine iteF ⟨_, rfl, _, _, rfl, R.isC (halk.held D), _, rfl, ?_⟩
      cases hkc : s.var k.toNat with
      | none_ =>
        rw [hkc] at ret
        exact iteT ⟨by show 1 ≤ 2 ^ 24; decide, fun p hp => ret.now rfl R g wd hp rfl⟩
      | num z =>
        rw [hkc] at ret
        exact iteT ⟨by show 1 ≤ 2 ^ 24; decide, fun p hp => ret.now rfl R g wd hp rfl⟩
      | cell j =>
        have hj : (s.at_ j).isSome = true := halk j hkc
        obtain ⟨d, hd⟩ := Option.isSome_iff_exists.mp hj
        have hdid := at_id hd
        have ekv : cellV s (.cell j) = some d := hd
        rw [hkc, ekv] at ret
        have ret1 : Ret CC CS B H0 Q (if c.kind ≠ .keyed then (s, Kg93.num (-3)) else match c.fields with
          | [.cell i, x] => if i = d.id then (s.setVar v.toNat x, Kg93.num 1) else (s.setVar v.toNat .none_, Kg93.num 0)
          | _ => (s.setVar v.toNat .none_, Kg93.num 0)) := ret
        rw [if_neg (by simp [hkd])] at ret1
        refine iteF ?_
        have hat : s.at_ c.id = some c := g.atc hcm
        obtain ⟨dc, hcell⟩ := R.cell hat
        have eslot : (vV (adB B) (s.var u.toNat)) = V.ref (B (.cell c.id)) := by rw [hvar]; rfl
        have hfs := g.keyed hcm hkd
        have hfl : H (B (.flds c.id)) = some (.lst [vV (adB B) (f0 c), vV (adB B) (f1 c)]) := by
          have := R.flds hat
          rw [hfs] at this
          exact this
        have hm0 : f0 c ∈ c.fields := by rw [hfs]; exact List.mem_cons_self ..
        have hm1 : f1 c ∈ c.fields := by rw [hfs]; exact List.mem_cons_of_mem _ (List.mem_cons_self ..)
        have hsafeF : ∀ i, Kg93.V.cell i ∈ c.fields → SafeId s i := fun i hi => g.flds c hcm hsafe i hi
        have hal0 : AliveV s (f0 c) := fun i e => by
          obtain ⟨d2, a, b, _⟩ := hsafeF i (e ▸ hm0)
          rw [← b, g.atc a]; rfl
        have hnum : ∀ z, f0 c ≠ .num z := by
          intro z e
          have hsh := g.shape c hcm
          unfold Shape at hsh
          rw [hkd] at hsh
          unfold f0 at e
          rcases hsh with q | ⟨a, b, q⟩ <;> (rw [q] at e; cases e)
        -- has_key = cell.fields[0] == key
        refine ⟨_, rfl, B (.cell c.id), CC, dc, _, _, eslot, hcell, T.isC.cl, T.n_fields, cf_fields, B (.flds c.id), _, _, _, rfl, rfl, SqL.of hfl, at0 (v := vV (adB B) (f0 c)) rfl, _, rfl, _, R.eqVL hj hal0 hnum, ?_⟩
        -- the two ways
        have ret2 : Ret CC CS B H0 Q (if f0 c = .cell j then (s.setVar v.toNat (f1 c), Kg93.num 1) else (s.setVar v.toNat .none_, Kg93.num 0)) := by
          rw [hfs] at ret1
          have hsh := g.shape c hcm
          unfold Shape at hsh
          rw [hkd] at hsh
          cases ef : f0 c with
          | none_ =>
            rw [ef] at ret1
            rw [if_neg (by intro z; cases z)]
            exact ret1
          | num z => exact absurd ef (hnum z)
          | cell i =>
            rw [ef] at ret1
            have ret3 : Ret CC CS B H0 Q (if i = d.id then (s.setVar v.toNat (f1 c), Kg93.num 1) else (s.setVar v.toNat .none_, Kg93.num 0)) := ret1
            rw [hdid] at ret3
            by_cases z : i = j
            · rw [if_pos z] at ret3
              rw [if_pos (by rw [z])]
              exact ret3
            · rw [if_neg z] at ret3
              rw [if_neg (fun y => z (by injection y))]
              exact ret3
        by_cases hq : f0 c = .cell j
        · rw [decide_eq_true hq]
          rw [if_pos hq] at ret2
          obtain ⟨h1, h2⟩ := set_var_list (ad := adB B) g.v16 hv (f1 c)
          refine ⟨_, rfl, _, rfl, iteT ⟨_, rfl, B (.cell c.id), CC, dc, _, _, eslot, hcell, T.isC.cl, T.n_fields, cf_fields, B (.flds c.id), _, _, _, rfl, rfl, SqL.of hfl, at_of (j := 1) (v := vV (adB B) (f1 c)) rfl rfl, _, rfl, B .store, CS, dx, _, _, rfl, hst, T.cS, T.m_variables, sf_variables, _, rfl, nl, _, _, _, rfl, rfl, SqL.of hnlH, rfl, B .vars, _, _, v.toNat, rfl, rfl, R.vars, h1, ?_⟩⟩
          have R1 := R.setVar v.toNat (f1 c)
          rw [← h2] at R1
          refine ⟨_, rfl, _, rfl, iteT ⟨by show 1 ≤ 2 ^ 24; decide, fun p hp => ret2.now rfl R1 (g.setVar (fun i e => hsafeF i (e ▸ hm1))) wd hp rfl⟩⟩
        · rw [decide_eq_false hq]
          rw [if_neg hq] at ret2
          obtain ⟨h1, h2⟩ := set_var_list (ad := adB B) g.v16 hv .none_
          refine ⟨_, rfl, _, rfl, iteF ⟨_, rfl, B .store, CS, dx, _, _, rfl, hst, T.cS, T.m_variables, sf_variables, _, rfl, nl, _, _, _, rfl, rfl, SqL.of hnlH, rfl, B .vars, _, _, v.toNat, rfl, rfl, R.vars, h1, ?_⟩⟩
          have R1 := R.setVar v.toNat .none_
          rw [← h2] at R1
          refine ⟨_, rfl, _, rfl, iteF ⟨by show 1 ≤ 2 ^ 24; decide, fun p hp => ret2.now rfl R1 (g.setVar (fun i e => by cases e)) wd hp rfl⟩⟩
    · have e1 : (!((some c).any fun c => decide (c.kind = .keyed))) = true := by
        show (!decide (c.kind = .keyed)) = true
        rw [decide_eq_false hkd]; rfl
      rw [e1]
      have ret1 : Ret CC CS B H0 Q (s, Kg93.num (-3)) := by
        cases hkv : cellV s (s.var k.toNat) with
        | none => rw [hkv] at ret; exact ret
        | some d =>
          rw [hkv] at ret
          have ret2 : Ret CC CS B H0 Q (if c.kind ≠ .keyed then (s, Kg93.num (-3)) else match c.fields with
            | [.cell i, x] => if i = d.id then (s.setVar v.toNat x, Kg93.num 1) else (s.setVar v.toNat .none_, Kg93.num 0)
            | _ => (s.setVar v.toNat .none_, Kg93.num 0)) := ret
          rw [if_pos hkd] at ret2
          exact ret2
      exact iteT (iteT ⟨by show 1 ≤ 2 ^ 24; decide, fun p hp => ret1.now rfl R g wd hp rfl⟩)
theorem cal_call_last (F : Def K mg "call_last" s_call_last ["store", "numbers"]) (T : TxtS K mg CC CS) (c_may_be_held : Cal P w K mg base 1 "may_be_held" sp_may_be_held) (c_is_cell : Cal P w K mg base 1 "is_cell" (sp_is_cell CC)) : Cal P w K mg base 2 "call_last" (spC CC CS cLast) := by
  refine F.cal sc_call_last (fun vs H Q E h => spC_len h) (fun f cdv A outer sh H vs Q E hr h => ?_)
  obtain ⟨B, H0, s, D, nl, ns, c, rfl, hnl, R, g, wd, hm, ⟨u, z, rfl, hu, rfl⟩, ret⟩ := h
  refine ⟨_, (pss_cons (ps_if (pt_not (pt_val (C8.pe_c c_may_be_held hr (by decide) rfl (pa_cons (pe_ix ix_list (pv 1) pe_int (fun _ _ => rfl)) pa_nil)))) (pss_one (ps_ret (pe_lst (pa_cons (C8.pe_gc rfl T.k_NOT_AS_TOLD) pa_nil)))) pss_nil) (pss_cons (ps_set (i := 2) sc_call_last.nd rfl (Or.inl rfl) (pe_ix ix_list (pe_fld (pv 0) rfl) (pe_ix ix_list (pv 1) pe_int (fun _ _ => rfl)) (fun _ _ => rfl))) (pss_cons (ps_if (pt_not (pt_val (C8.pe_c c_is_cell hr (by decide) rfl (pa_cons (pv 2) pa_nil)))) (pss_one (ps_ret (pe_lst (pa_cons (C8.pe_gc rfl T.k_NO_SUCH_CELL) pa_nil)))) pss_nil) (pss_cons (ps_fld (pv 2) (pe_ix ix_list (pv 1) pe_int (fun _ _ => rfl)) rfl) (pss_one (ps_ret (pe_lst (pa_cons pe_int pa_nil)))))))), ?_⟩
  have hnlH : H nl = some (.lst ([u, z].map V.int)) := R.same nl _ hnl
  obtain ⟨dx, sw, hsw, hst⟩ := R.store
  have es : Kg93.spec s (.last u z) = if Kg93.small z = false then (s, Kg93.num (-1)) else (match cellV s (s.var u.toNat) with
      | some c => (s.put { c with word := some z }, Kg93.num 0)
      | none => (s, Kg93.num (-3))) := by
    rw [← of_eq]
    show (match Kg93.var? u with | some u => _ | none => _) = _
    rw [var_some hu]
    rfl
  rw [es] at ret
  refine ⟨_, rfl, nl, _, _, _, rfl, rfl, SqL.of hnlH, rfl, z, rfl, _, rfl, ?_⟩
  cases hz : Kg93.small z with
  | false =>
    rw [hz, if_pos rfl] at ret
    exact iteT ⟨by show 1 ≤ 2 ^ 24; decide, fun p hp => ret.now rfl R g wd hp rfl⟩
  | true =>
    rw [hz, if_neg (by simp)] at ret
    refine iteF ?_
    have hal := g.aliveVar u.toNat
    refine ⟨_, rfl, B .store, CS, dx, _, _, rfl, hst, T.cS, T.m_variables, sf_variables, _, rfl, nl, _, _, _, rfl, rfl, SqL.of hnlH, rfl, B .vars, _, _, _, rfl, rfl, SqL.of R.vars, var_get g.v16 hu, ?_⟩
    refine ⟨_, rfl, _, _, rfl, R.isC (hal.held D), _, rfl, ?_⟩
    cases hvu : s.var u.toNat with
    | none_ =>
      rw [hvu] at ret
      exact iteT ⟨by show 1 ≤ 2 ^ 24; decide, fun p hp => ret.now rfl R g wd hp rfl⟩
    | num q =>
      rw [hvu] at ret
      exact iteT ⟨by show 1 ≤ 2 ^ 24; decide, fun p hp => ret.now rfl R g wd hp rfl⟩
    | cell j =>
      obtain ⟨d, hd⟩ := Option.isSome_iff_exists.mp (hal j hvu)
      have hdid := at_id hd
      have ekv : cellV s (.cell j) = some d := hd
      rw [hvu, ekv] at ret
      have ret1 : Ret CC CS B H0 Q (s.put { d with word := some z }, Kg93.num 0) := ret
      refine iteF ?_
      obtain ⟨dc, hcell⟩ := R.cell hd
      refine ⟨_, rfl, nl, _, _, _, rfl, rfl, SqL.of hnlH, rfl, _, rfl, B (.cell j), CC, dc, _, rfl, hcell, T.isC.cl, T.n_word, (by show 8 < 1000; decide), ?_⟩
      have epf : putF "word" (.int z) (cellF (B (.flds j)) (s.remembered.contains j) d) = cellF (B (.flds j)) (s.remembered.contains j) { d with word := some z } := pl_word
      rw [epf]
      have R1 : RepA CC CS B H0 _ (s.put { d with word := some z }) (idsS s) D := R.putCell (dx := dc) (c' := { d with word := some z }) hd hdid rfl (rem := s.remembered) (fun _ _ => rfl)
      have eids : idsS (s.put { d with word := some z }) = idsS s := put_ids s _
      have w2 : Wd (s.put { d with word := some z }) := by
        unfold Wd at wd ⊢
        show s.words.length + (s.cells.map _).length ≤ s.made
        rw [List.length_map]
        exact wd
      refine ⟨by show 1 ≤ 2 ^ 24; decide, fun p hp => ret1.now rfl ?_ (g.word (at_in hd) _) w2 hp rfl⟩
      show RepA CC CS B H0 _ (s.put { d with word := some z }) (idsS (s.put { d with word := some z })) D
      rw [eids]
      exact R1
theorem pf_told {vl cl tl : Addr} {made : Nat} {ph sw : Int} (p : Addr) : putF "told" (.ref p) (storeF vl cl tl made ph sw) = storeF vl cl p made ph sw :=
  (put_past (by decide +kernel)).trans (congrArg _ ((put_past (by decide +kernel)).trans (congrArg _ ((put_past (by decide +kernel)).trans (congrArg _ ((put_past (by decide +kernel)).trans (congrArg _ ((put_past (by decide +kernel)).trans (congrArg _ put_here)))))))))
theorem cal_call_words (F : Def K mg "call_words" s_call_words ["store", "numbers"]) (T : TxtS K mg CC CS) : Cal P w K mg base 1 "call_words" (spC CC CS cWords) := by
  refine F.cal sc_call_words (fun vs H Q E h => spC_len h) (fun f cdv A outer sh H vs Q E hr h => ?_)
  obtain ⟨B, H0, s, D, nl, ns, c, rfl, hnl, R, g, wd, hm, ⟨rfl, rfl⟩, ret⟩ := h
  refine ⟨_, (pss_cons (ps_set (i := 2) sc_call_words.nd rfl (Or.inl rfl) (pe_fld (pv 0) rfl)) (pss_cons (ps_fld (pv 0) (pe_lst pa_nil) rfl) (pss_one (ps_ret (pe_op op_cat (pe_lst (pa_cons (pe_callB call_len_seq (by rfl) T.b_len PySem.boot_len (pa_cons (pv 2) pa_nil)) pa_nil)) (pv 2)))))), ?_⟩
  obtain ⟨dx, sw, hsw, hst⟩ := R.store
  -- told = store.told
  refine ⟨_, rfl, B .store, CS, dx, _, _, rfl, hst, T.cS, T.m_told, sf_told, ?_⟩
  -- store.told = []
  refine ⟨Nat.zero_le _, fun tl htl => ?_⟩
  have hold : H (B .told) = some (.lst (s.words.map V.int)) := R.told
  have nt : B .told ≠ tl := ne_of_none hold htl
  have hH0old : H0 (B .told) = none := R.out .told (.inl trivial)
  have R1 : RepA CC CS B (upd H0 tl (.lst (([] : List Int).map V.int))) _ s (idsS s) D := R.fresh htl
  obtain ⟨dx1, sw1, hsw1, hst1⟩ := R1.store
  refine ⟨_, rfl, B .store, CS, dx1, _, rfl, hst1, T.cS, T.m_told, (by show 6 < 1000; decide), ?_⟩
  rw [pf_told]
  have hns : B .told ≠ B .store := fun e => by
    have := R.inj .told .store (.inl trivial) (.inl trivial) e
    cases this
  have R2 := R1.moveTold (dx := dx1) (R.same.free htl) hsw1
  obtain ⟨B2, hB2, R2'⟩ : ∃ B2 : Role → Addr, B2 .store = B .store ∧ RepA CC CS B2 H0 _ { s with words := [] } (idsS s) D := ⟨_, if_neg (fun z => by cases z), R2⟩
  have hold2 : (upd (upd H tl (.lst [])) (B .store) (.ins CS dx1 (storeF (B .vars) (B .cells) tl s.made (phN s.phase) sw1))) (B .told) = some (.lst (s.words.map V.int)) := by
    rw [upd_ne hns, upd_ne nt]
    exact hold
  have hwl : s.words.length ≤ 1000 := by unfold Wd at wd; omega
  -- [len(told)] + told
  refine ⟨_, rfl, B .told, _, rfl, .inl (SqL.of hold2), by show 1 ≤ 2 ^ 24; decide, fun l1 hl1 => ?_⟩
  have n1 : B .told ≠ l1 := ne_of_none hold2 hl1
  have R3 := R2'.fresh (o := .lst [V.int ((s.words.map V.int).length : Nat)]) hl1
  have hl10 : H0 l1 = none := R2'.same.free hl1
  refine ⟨_, rfl, l1, B .told, _, _, rfl, rfl, upd_same, Eq.trans (upd_ne n1) hold2, ?_, fun p hp => ?_⟩
  · rw [List.length_map]
    exact Nat.le_trans (Nat.add_le_add (Nat.le_refl 1) hwl) (by decide)
  have R4 := R3.weak (same_upd hl10)
  have g2 : Good { s with words := [] } D := g.words []
  have w2 : Wd { s with words := [] } := by
    unfold Wd at wd ⊢
    show 0 + s.cells.length ≤ s.made
    omega
  have es : Kg93.spec s .words = ({ s with words := [] }, ⟨(s.words.length : Int), s.words⟩) := rfl
  rw [es] at ret
  refine ret.now hB2 R4 g2 w2 hp ?_
  show [V.int ((s.words.map V.int).length : Nat)] ++ s.words.map V.int = V.int (s.words.length : Int) :: s.words.map V.int
  rw [List.length_map]
  rfl
theorem cal_call_same (F : Def K mg "call_same" s_call_same ["store", "numbers"]) (T : TxtS K mg CC CS) (c_is_cell : Cal P w K mg base 1 "is_cell" (sp_is_cell CC)) : Cal P w K mg base 2 "call_same" (spC CC CS cSame) := by
  refine F.cal sc_call_same (fun vs H Q E h => spC_len h) (fun f cdv A outer sh H vs Q E hr h => ?_)
  obtain ⟨B, H0, s, D, nl, ns, c, rfl, hnl, R, g, wd, hm, ⟨u, v, rfl, hu, hv, rfl⟩, ret⟩ := h
  refine ⟨_, (pss_cons (ps_set (i := 2) sc_call_same.nd rfl (Or.inl rfl) (pe_ix ix_list (pe_fld (pv 0) rfl) (pe_ix ix_list (pv 1) pe_int (fun _ _ => rfl)) (fun _ _ => rfl))) (pss_one (ps_ret (pe_ifExp (PW.pt (pw_and (pt_val (C8.pe_c c_is_cell hr (by decide) rfl (pa_cons (pv 2) pa_nil))) (pw_and1 (pt_cmpR (op_eqC T.eqC (Nat.lt_of_succ_lt (hu_of hr))) (pv 2) (pe_ix ix_list (pe_fld (pv 0) rfl) (pe_ix ix_list (pv 1) pe_int (fun _ _ => rfl)) (fun _ _ => rfl)) (nomark _))))) (pe_lst (pa_cons pe_int pa_nil)) (pe_lst (pa_cons pe_int pa_nil)))))), ?_⟩
  have hnlH : H nl = some (.lst ([u, v].map V.int)) := R.same nl _ hnl
  obtain ⟨dx, sw, hsw, hst⟩ := R.store
  have es : Kg93.spec s (.same u v) = (s, Kg93.num (match s.var u.toNat, s.var v.toNat with
      | .cell i, .cell j => if i = j then 1 else 0
      | _, _ => 0)) := by
    show (match Kg93.var? u, Kg93.var? v with | some u, some v => _ | _, _ => _) = _
    rw [var_some hu, var_some hv]
    rfl
  rw [es] at ret
  have hal := g.aliveVar u.toNat
  have halv := g.aliveVar v.toNat
  refine ⟨_, rfl, B .store, CS, dx, _, _, rfl, hst, T.cS, T.m_variables, sf_variables, _, rfl, nl, _, _, _, rfl, rfl, SqL.of hnlH, rfl, B .vars, _, _, _, rfl, rfl, SqL.of R.vars, var_get g.v16 hu, ?_⟩
  refine ⟨_, rfl, _, _, rfl, R.isC (hal.held D), _, rfl, ?_⟩
  cases hvu : s.var u.toNat with
  | none_ =>
    rw [hvu] at ret
    exact iteF (iteF ⟨by show 1 ≤ 2 ^ 24; decide, fun p hp => ret.now rfl R g wd hp rfl⟩)
  | num z =>
    rw [hvu] at ret
    exact iteF (iteF ⟨by show 1 ≤ 2 ^ 24; decide, fun p hp => ret.now rfl R g wd hp rfl⟩)
  | cell i =>
    rw [hvu] at ret
    refine iteT ⟨_, rfl, _, rfl, B .store, CS, dx, _, _, rfl, hst, T.cS, T.m_variables, sf_variables, _, rfl, nl, _, _, _, rfl, rfl, SqL.of hnlH, at_of (j := 1) (v := V.int v) rfl rfl, B .vars, _, _, _, rfl, rfl, SqL.of R.vars, var_get g.v16 hv, _, R.eqV (hal i hvu) halv, _, rfl, ?_⟩
    have ea : ∀ x, (match Kg93.V.cell i, x with | .cell i, .cell j => if i = j then (1 : Int) else 0 | _, _ => 0) = if x = Kg93.V.cell i then 1 else 0 := by
      intro x
      cases x with
      | none_ => rw [if_neg (by intro z; cases z)]
      | num z => rw [if_neg (by intro z; cases z)]
      | cell j =>
        show (if i = j then (1 : Int) else 0) = _
        by_cases z : i = j
        · rw [if_pos z, if_pos (by rw [z])]
        · rw [if_neg z, if_neg (fun y => z (by injection y with y; exact y.symm))]
    have ret2 : Ret CC CS B H0 Q (s, Kg93.num (if s.var v.toNat = Kg93.V.cell i then 1 else 0)) := by
      have := ret
      rw [ea] at this
      exact this
    by_cases q : s.var v.toNat = Kg93.V.cell i
    · rw [decide_eq_true q]
      rw [if_pos q] at ret2
      exact iteT ⟨by show 1 ≤ 2 ^ 24; decide, fun p hp => ret2.now rfl R g wd hp rfl⟩
    · rw [decide_eq_false q]
      rw [if_neg q] at ret2
      exact iteF ⟨by show 1 ≤ 2 ^ 24; decide, fun p hp => ret2.now rfl R g wd hp rfl⟩
end
end Gc
set_option Elab.async false
set_option maxRecDepth 100000
set_option maxHeartbeats 4000000
namespace Gc
open PySem PySem.Spec PyProof.Rows L2
abbrev s_count_old : Stmt := top 68
theorem sc_count_old : FnScope ["store"] ["store"] (defScope s_count_old) := ⟨rfl, rfl, rfl, by decide +kernel, rfl, by decide +kernel, by decide +kernel⟩
abbrev s_count_remembered : Stmt := top 69
theorem sc_count_remembered : FnScope ["store", "cell"] ["store"] (defScope s_count_remembered) := ⟨rfl, rfl, rfl, by decide +kernel, rfl, by decide +kernel, by decide +kernel⟩
abbrev s_count_coloured : Stmt := top 70
theorem sc_count_coloured : FnScope ["store", "colour", "cell"] ["store", "colour"] (defScope s_count_coloured) := ⟨rfl, rfl, rfl, by decide +kernel, rfl, by decide +kernel, by decide +kernel⟩
abbrev s_call_young : Stmt := top 90
theorem sc_call_young : FnScope ["store", "numbers", "cells_before", "old_before"] ["store", "numbers"] (defScope s_call_young) := ⟨rfl, rfl, rfl, by decide +kernel, rfl, by decide +kernel, by decide +kernel⟩
abbrev s_call_counts : Stmt := top 92
theorem sc_call_counts : FnScope ["store", "numbers", "ages", "colours", "colour"] ["store", "numbers"] (defScope s_call_counts) := ⟨rfl, rfl, rfl, by decide +kernel, rfl, by decide +kernel, by decide +kernel⟩
def cYoung (ns : List Int) (c : Kg93.Call) : Prop := ns = [] ∧ c = .young
def cCounts (ns : List Int) (c : Kg93.Call) : Prop := ns = [] ∧ c = .counts
/-! ### numbers of cells -/
theorem olds_eq (s : Sta) : ((s.cells.length : Nat) : Int) - (s.young.length : Nat) = (s.olds.length : Nat) := by
  have := filter_part (fun c : Kg93.Cell => c.old) s.cells
  have e1 : s.olds = s.cells.filter fun c => c.old := rfl
  have e2 : s.young = s.cells.filter fun c => !c.old := rfl
  rw [e1, e2]
  omega
theorem rem_count {s : Sta} {D : List Nat} (g : Good s D) : (s.cells.filter fun c => s.remembered.contains c.id).length = s.remembered.length := by
  have hnd : ((s.cells.filter fun c => s.remembered.contains c.id).map (·.id)).Nodup := by
    rw [List.Nodup, List.pairwise_map]
    exact List.Pairwise.imp (fun h e => by omega) (g.sorted.filter _)
  have h1 := nodup_len (m := s.remembered) hnd (fun x hx => by
    obtain ⟨c, hc, rfl⟩ := List.mem_map.mp hx
    simpa using (List.mem_filter.mp hc).2)
  have h2 := nodup_len (m := (s.cells.filter fun c => s.remembered.contains c.id).map (·.id)) g.remNd (fun x hx => by
    obtain ⟨c, hc, e, _⟩ := g.remOk x hx
    exact List.mem_map.mpr ⟨c, List.mem_filter.mpr ⟨hc, by rw [e]; simpa using hx⟩, e⟩)
  rw [List.length_map] at h1 h2
  omega
theorem col_count (s : Sta) (k : Kg93.Colour) : (s.cells.filter fun c => c.old && c.colour == k).length = (s.olds.filter fun c => c.colour == k).length := by
  show _ = ((s.cells.filter fun c => c.old).filter fun c => c.colour == k).length
  rw [List.filter_filter]
  congr 1
  refine List.filter_congr fun c _ => Bool.and_comm _ _
theorem round_counts {s : Sta} {D : List Nat} (g : Good s D) : s.round.2.1 + s.round.1.cells.length = s.cells.length ∧ s.round.1.olds.length = s.olds.length + s.round.2.2.1 ∧ s.round.2.2.2 = s.round.1.young.length := by
  refine ⟨?_, ?_, rfl⟩
  · have e3 := filter_part (fun c : Kg93.Cell => gone s c.id) s.cells
    have e1 : s.round.2.1 = (s.cells.filter fun c => gone s c.id).length := rfl
    rw [round_cells, List.length_map, e1]
    exact e3
  · have e1 : s.round.2.2.1 = (s.round.1.cells.filter fun c => c.old && s.isYoung c.id).length := rfl
    have e2 : s.round.1.olds = s.round.1.cells.filter fun c => c.old := rfl
    have e3 := filter_part (fun c : Kg93.Cell => s.isYoung c.id) (s.round.1.cells.filter fun c => c.old)
    rw [List.filter_filter, List.filter_filter] at e3
    have e4 : (s.round.1.cells.filter fun c => s.isYoung c.id && c.old) = s.round.1.cells.filter fun c => c.old && s.isYoung c.id := List.filter_congr fun c _ => Bool.and_comm _ _
    have e5 : (s.round.1.cells.filter fun c => !s.isYoung c.id && c.old).length = s.olds.length := by
      rw [round_cells, List.filter_map, List.length_map, List.filter_filter]
      show _ = (s.cells.filter fun c => c.old).length
      congr 1
      refine List.filter_congr fun c hc => ?_
      show ((!s.isYoung (leftF s c).id && (leftF s c).old) && !gone s c.id) = c.old
      rw [leftF_id, g.young hc]
      cases ho : c.old with
      | false => rfl
      | true =>
        have h1 : gone s c.id = false := by
          unfold gone
          rw [g.young hc, ho]
          rfl
        rw [h1, leftF_old_eq ho]
        rfl
    rw [e4, e5, ← e1] at e3
    rw [e2]
    omega
def sp_count_old (CC CS : Addr) : Sp := fun vs H Q _ => ∃ B H0 s D, vs = [.ref (B .store)] ∧ RepA CC CS B H0 H s (idsS s) D ∧ Good s D ∧ s.made ≤ 1000 ∧
  ∀ H', RepA CC CS B H0 H' s (idsS s) D → Q (.int (s.olds.length : Nat)) H'
def sp_count_remembered (CC CS : Addr) : Sp := fun vs H Q _ => ∃ B H0 s D, vs = [.ref (B .store)] ∧ RepA CC CS B H0 H s (idsS s) D ∧ Good s D ∧ s.made ≤ 1000 ∧
  ∀ H', RepA CC CS B H0 H' s (idsS s) D → Q (.int (s.remembered.length : Nat)) H'
def sp_count_coloured (CC CS : Addr) : Sp := fun vs H Q _ => ∃ B H0 s D k, vs = [.ref (B .store), .int (colN k)] ∧ RepA CC CS B H0 H s (idsS s) D ∧ Good s D ∧ s.made ≤ 1000 ∧
  ∀ H', RepA CC CS B H0 H' s (idsS s) D → Q (.int ((s.olds.filter fun c => c.colour == k).length : Nat)) H'
/-- a comprehension over a tuple, whose turns may make objects -/
theorem lc_repT2 {α : Type} {K : PySem.W.Frag} {CC CS : Addr} {B : Role → Addr} {H0 H1 : Hp} {s : Sta} {lst Dd : List Nat} {a D : Addr} (ys : List α) (φ : α → V) {g : TG} {te : TE} {vs : List Nat} {σ : L2.St} {Qd : Hp → Prop}
    (R1 : RepA CC CS B H0 H1 s lst Dd) (hD : H1 D = none) (hx : ∀ o H', RepA CC CS B (upd H0 D o) H' s lst Dd → SqT K H' a (ys.map φ)) (out : α → V) (hlen : ys.length < sizeLine)
    (turn : ∀ y ∈ ys, ∀ o H', RepA CC CS B (upd H0 D o) H' s lst Dd → ∀ (Y : V → Hp → Prop), (∀ H'', RepA CC CS B (upd H0 D o) H'' s lst Dd → Y (out y) H'') →
      g (φ y) (wipe σ vs) H' fun σ2 H2 => wipe σ2 vs = wipe σ vs ∧ te σ2 H2 Y)
    (fin : ∀ H', RepA CC CS B (upd H0 D (.lst (ys.map out))) H' s lst Dd → Qd H')
    (gm : ∀ x σ H Q Q', (∀ σ2 H2, Q σ2 H2 → Q' σ2 H2) → g x σ H Q → g x σ H Q') :
    ∃ W : Nat → Nat → Hp → Prop, (∃ m, W 0 m (upd H1 D (.lst []))) ∧ ∀ i m H, W i m H →
      ((Itt K a).stop i H ∧ Qd H) ∨ ((Itt K a).go i H ∧ ∃ Nx : Hp → Prop, (∀ H', Nx H' → ∃ m', m' < m ∧ W (i + 1) m' H') ∧ ∀ x H', (Itt K a).yld i H x H' → g x (wipe σ vs) H' fun σ2 H2 => wipe σ2 vs = wipe σ vs ∧ tYes σ2 H2 fun b H3 =>
        if b = true then te σ2 H3 fun y H4 => ∃ acc, H4 D = some (.lst acc) ∧ acc.length < sizeLine ∧ Nx (upd H4 D (.lst (acc ++ [y]))) else Nx H3) := by
  refine lc_tup (K := K) (a := a) (xs := ys.map φ) (fun i H' => RepA CC CS B (upd H0 D (.lst ((ys.take i).map out))) H' s lst Dd) ?_ (fun i H' _ R => hx _ _ R) ?_ ?_
  · exact R1.fresh hD
  · intro i x H' hi R
    rw [List.getElem?_map] at hi
    obtain ⟨y, hy, rfl⟩ := Option.map_eq_some_iff.mp hi
    have e : (ys.take (i + 1)).map out = (ys.take i).map out ++ [out y] := by
      rw [take_more hy, List.map_append]
      rfl
    refine gm _ _ _ _ _ (fun σ2 H2 h => ⟨h.1, by unfold tYes; simp only [if_true]; exact h.2⟩) (turn y (List.mem_of_getElem? hy) _ H' R _ fun H'' R'' => ?_)
    refine ⟨_, R''.same D _ upd_same, ?_, ?_⟩
    · rw [List.length_map, List.length_take]
      omega
    · rw [e]
      have := R''.tmp (o := .lst ((ys.take i).map out ++ [out y])) (p := D) upd_same
      rw [upd_upd] at this
      exact this
  · intro H' R
    rw [List.length_map, List.take_length] at R
    exact fin H' R
section
variable {P : Program} {w : World} {K : PySem.W.Frag} {mg : Str → Option Value} {base : Heap} {CC CS : Addr}
theorem cal_count_old (F : Def K mg "count_old" s_count_old ["store"]) (T : TxtS K mg CC CS) (c_count_young : Cal P w K mg base 1 "count_young" (sp_count_young CC CS)) : Cal P w K mg base 2 "count_old" (sp_count_old CC CS) := by
  refine F.cal sc_count_old (fun vs H Q E h => ?_) (fun f cdv A outer sh H vs Q E hr h => ?_)
  · obtain ⟨B, H0, s, D, rfl, _⟩ := h
    rfl
  · obtain ⟨B, H0, s, D, rfl, R, g, hm, cont⟩ := h
    refine ⟨_, (pss_one (ps_ret (pe_op op_sub (pe_callB call_len_seq (by rfl) T.b_len PySem.boot_len (pa_cons (pe_fld (pv 0) rfl) pa_nil)) (C8.pe_c c_count_young hr (by decide) rfl (pa_cons (pv 0) pa_nil))))), ?_⟩
    obtain ⟨dx, sw, hsw, hst⟩ := R.store
    refine ⟨_, rfl, B .store, CS, dx, _, _, rfl, hst, T.cS, T.m_cells, sf_cells, B .cells, _, rfl, .inl (cells_sq R), _, rfl, B, H0, s, D, rfl, R, g, hm, fun H' R' => ⟨_, _, rfl, rfl, ?_⟩⟩
    have e := olds_eq s
    show Q (.int ((((s.cells.map (refC B)).length : Nat) : Int) - (s.young.length : Nat))) H'
    rw [List.length_map, e]
    exact cont H' R'
theorem cal_count_remembered (F : Def K mg "count_remembered" s_count_remembered ["store"]) (T : TxtS K mg CC CS) : Cal P w K mg base 1 "count_remembered" (sp_count_remembered CC CS) := by
  refine F.cal sc_count_remembered (fun vs H Q E h => ?_) (fun f cdv A outer sh H vs Q E hr h => ?_)
  · obtain ⟨B, H0, s, D, rfl, _⟩ := h
    rfl
  · obtain ⟨B, H0, s, D, rfl, R, g, hm, cont⟩ := h
    refine ⟨_, (pss_one (ps_ret (pe_callB call_len_seq (by rfl) T.b_len PySem.boot_len (pa_cons (pe_lc (own := [("cell", 1)]) (g := gName 1) (tt := (tB (tFld K (tVar 1) "remembered"))) (te := (tVar 1)) rfl sc_count_remembered.nd (pi_list (pe_fld (pv 0) rfl)) (blkOk_by (own := [("cell", 1)]) (N := ["store", "cell"]) (sc := defScope s_count_remembered) (by decide +kernel)) (fun _ _ _ _ _ => pg_name (i := 1) sc_count_remembered.nd rfl (Or.inl rfl)) (fun _ _ _ _ _ => pts_one (pt_val (pe_fld (pv 1) rfl))) (fun _ _ _ _ _ => (pv 1))) pa_nil)))), ?_⟩
    obtain ⟨dx, sw, hsw, hst⟩ := R.store
    refine ⟨_, rfl, B .store, CS, dx, _, _, rfl, hst, T.cS, T.m_cells, sf_cells, B .cells, rfl, ⟨_, cells_sq R⟩, fun p hp => ?_⟩
    refine lc_rep s.cells (refC B) R hp (fun o H' R' => cells_sq R') (fun c => s.remembered.contains c.id) (refC B) (Nat.lt_of_le_of_lt (Nat.le_trans g.count hm) (by decide)) ?_ ?_
    · intro c hc o H' R' Y N hY hN
      obtain ⟨dc, hcell⟩ := R'.cell (g.atc hc)
      refine ⟨rfl, _, rfl, B (.cell c.id), CC, dc, _, _, rfl, hcell, T.isC.cl, T.n_remembered, cf_remembered, _, rfl, ?_⟩
      cases q : s.remembered.contains c.id with
      | true => exact iteT ⟨_, rfl, hY q⟩
      | false => exact iteF (hN q)
    · intro H1 R1
      refine ⟨p, _, rfl, .inl (SqL.of (R1.same p _ upd_same)), ?_⟩
      rw [List.length_map, rem_count g]
      exact cont H1 (R1.weak (same_upd (R.same.free hp)))
theorem cal_count_coloured (F : Def K mg "count_coloured" s_count_coloured ["store", "colour"]) (T : TxtS K mg CC CS) : Cal P w K mg base 1 "count_coloured" (sp_count_coloured CC CS) := by
  refine F.cal sc_count_coloured (fun vs H Q E h => ?_) (fun f cdv A outer sh H vs Q E hr h => ?_)
  · obtain ⟨B, H0, s, D, k, rfl, _⟩ := h
    rfl
  · obtain ⟨B, H0, s, D, k, rfl, R, g, hm, cont⟩ := h
    refine ⟨_, (pss_one (ps_ret (pe_callB call_len_seq (by rfl) T.b_len PySem.boot_len (pa_cons (pe_lc (own := [("cell", 2)]) (g := gName 2) (tt := (tTest (tOp _ (tFld K (tVar 2) "colour") (tVar 1)))) (te := (tVar 2)) rfl sc_count_coloured.nd (pi_list (pe_fld (pv 0) rfl)) (blkOk_by (own := [("cell", 2)]) (N := ["store", "colour", "cell"]) (sc := defScope s_count_coloured) (by decide +kernel)) (fun _ _ _ _ _ => pg_name (i := 2) sc_count_coloured.nd rfl (Or.inl rfl)) (fun _ _ _ _ _ => pts_one (pt_cmpR op_eq (pe_fld (pv 2) rfl) (pv 1) (nomark _))) (fun _ _ _ _ _ => (pv 2))) pa_nil)))), ?_⟩
    obtain ⟨dx, sw, hsw, hst⟩ := R.store
    refine ⟨_, rfl, B .store, CS, dx, _, _, rfl, hst, T.cS, T.m_cells, sf_cells, B .cells, rfl, ⟨_, cells_sq R⟩, fun p hp => ?_⟩
    refine lc_rep s.cells (refC B) R hp (fun o H' R' => cells_sq R') (fun c => c.old && c.colour == k) (refC B) (Nat.lt_of_le_of_lt (Nat.le_trans g.count hm) (by decide)) ?_ ?_
    · intro c hc o H' R' Y N hY hN
      obtain ⟨dc, hcell⟩ := R'.cell (g.atc hc)
      refine ⟨rfl, _, rfl, B (.cell c.id), CC, dc, _, _, rfl, hcell, T.isC.cl, T.n_colour, cf_colour, _, rfl, scal_col _ _, _, rfl, ?_⟩
      have e : decide (colV c = V.int (colN k)) = (c.old && c.colour == k) := by
        rw [colV_eq c k]
        cases c.old <;> cases c.colour <;> cases k <;> rfl
      rw [e]
      cases q : (c.old && c.colour == k) with
      | true => exact iteT ⟨_, rfl, hY q⟩
      | false => exact iteF (hN q)
    · intro H1 R1
      refine ⟨p, _, rfl, .inl (SqL.of (R1.same p _ upd_same)), ?_⟩
      rw [List.length_map, col_count]
      exact cont H1 (R1.weak (same_upd (R.same.free hp)))
theorem cal_call_young (F : Def K mg "call_young" s_call_young ["store", "numbers"]) (T : TxtS K mg CC CS) (c_count_old : Cal P w K mg base 2 "count_old" (sp_count_old CC CS)) (c_count_young : Cal P w K mg base 1 "count_young" (sp_count_young CC CS)) (c_round_of_the_young : Cal P w K mg base 6 "round_of_the_young" (sp_round_of_the_young CC CS)) : Cal P w K mg base 7 "call_young" (spC CC CS cYoung) := by
  refine F.cal sc_call_young (fun vs H Q E h => spC_len h) (fun f cdv A outer sh H vs Q E hr h => ?_)
  obtain ⟨B, H0, s, D, nl, ns, c, rfl, hnl, R, g, wd, hm, ⟨rfl, rfl⟩, ret⟩ := h
  refine ⟨_, (pss_cons (ps_set (i := 2) sc_call_young.nd rfl (Or.inl rfl) (pe_callB call_len_seq (by rfl) T.b_len PySem.boot_len (pa_cons (pe_fld (pv 0) rfl) pa_nil))) (pss_cons (ps_set (i := 3) sc_call_young.nd rfl (Or.inl rfl) (C8.pe_c c_count_old hr (by decide) rfl (pa_cons (pv 0) pa_nil))) (pss_cons (ps_expr (C8.pe_c c_round_of_the_young hr (by decide) rfl (pa_cons (pv 0) pa_nil))) (pss_one (ps_ret (pe_lst (pa_cons (pe_op op_sub (pv 2) (pe_callB call_len_seq (by rfl) T.b_len PySem.boot_len (pa_cons (pe_fld (pv 0) rfl) pa_nil))) (pa_cons (pe_op op_sub (C8.pe_c c_count_old hr (by decide) rfl (pa_cons (pv 0) pa_nil)) (pv 3)) (pa_cons (C8.pe_c c_count_young hr (by decide) rfl (pa_cons (pv 0) pa_nil)) pa_nil))))))))), ?_⟩
  obtain ⟨dx, sw, hsw, hst⟩ := R.store
  have hwl : s.words.length ≤ 900000 := by unfold Wd at wd; omega
  refine ⟨_, rfl, B .store, CS, dx, _, _, rfl, hst, T.cS, T.m_cells, sf_cells, B .cells, _, rfl, .inl (cells_sq R), ?_⟩
  refine ⟨_, rfl, B, H0, s, D, rfl, R, g, by omega, fun H1 R1 => ?_⟩
  refine ⟨_, rfl, B, H0, s, D, rfl, R1, g, by omega, hwl, fun H2 B2 hB2 hBc R2 => ?_⟩
  obtain ⟨dx2, sw2, hsw2, hst2⟩ := R2.store
  rw [hB2] at hst2
  have g2 := g.round
  obtain ⟨n1, n2, n3⟩ := round_counts g
  refine ⟨_, rfl, _, rfl, B .store, CS, dx2, _, _, rfl, hst2, T.cS, T.m_cells, sf_cells, B2 .cells, _, rfl, .inl (cells_sq R2), _, _, rfl, rfl, ?_⟩
  refine ⟨_, rfl, B2, H0, s.round.1, D, congrArg (fun a => [V.ref a]) hB2.symm, R2, g2, by rw [round_made]; omega, fun H3 R3 => ?_⟩
  refine ⟨_, rfl, _, _, rfl, rfl, _, rfl, B2, H0, s.round.1, D, congrArg (fun a => [V.ref a]) hB2.symm, R3, g2, by rw [round_made]; omega, fun H4 R4 => ?_⟩
  refine ⟨by show 3 ≤ 2 ^ 24; decide, fun p hp => ?_⟩
  have es : Kg93.spec s .young = (s.round.1, ⟨(s.round.2.1 : Int), [(s.round.2.2.1 : Int), (s.round.2.2.2 : Int)]⟩) := rfl
  rw [es] at ret
  refine ret.now hB2 R4 g2 wd.round hp ?_
  have e1 : (((s.cells.map (refC B)).length : Nat) : Int) - (((s.round.1.cells.map (refC B2)).length : Nat) : Int) = (s.round.2.1 : Int) := by
    rw [List.length_map, List.length_map]
    omega
  have e2 : ((s.round.1.olds.length : Nat) : Int) - ((s.olds.length : Nat) : Int) = (s.round.2.2.1 : Int) := by omega
  show [V.int ((((s.cells.map (refC B)).length : Nat) : Int) - (((s.round.1.cells.map (refC B2)).length : Nat) : Int)), V.int (((s.round.1.olds.length : Nat) : Int) - ((s.olds.length : Nat) : Int)), V.int ((s.round.1.young.length : Nat) : Int)] = [V.int _, V.int _, V.int _]
  rw [e1, e2, n3]
theorem cal_call_counts (F : Def K mg "call_counts" s_call_counts ["store", "numbers"]) (T : TxtS K mg CC CS) (c_count_old : Cal P w K mg base 2 "count_old" (sp_count_old CC CS)) (c_count_young : Cal P w K mg base 1 "count_young" (sp_count_young CC CS)) (c_count_remembered : Cal P w K mg base 1 "count_remembered" (sp_count_remembered CC CS)) (c_count_coloured : Cal P w K mg base 1 "count_coloured" (sp_count_coloured CC CS)) : Cal P w K mg base 3 "call_counts" (spC CC CS cCounts) := by
  refine F.cal sc_call_counts (fun vs H Q E h => spC_len h) (fun f cdv A outer sh H vs Q E hr h => ?_)
  obtain ⟨B, H0, s, D, nl, ns, c, rfl, hnl, R, g, wd, hm, ⟨rfl, rfl⟩, ret⟩ := h
  refine ⟨_, (pss_cons (ps_set (i := 2) sc_call_counts.nd rfl (Or.inl rfl) (pe_lst (pa_cons (C8.pe_c c_count_young hr (by decide) rfl (pa_cons (pv 0) pa_nil)) (pa_cons (C8.pe_c c_count_old hr (by decide) rfl (pa_cons (pv 0) pa_nil)) (pa_cons (C8.pe_c c_count_remembered hr (by decide) rfl (pa_cons (pv 0) pa_nil)) pa_nil))))) (pss_cons (ps_setLc (i := 3) (own := [("colour", 4)]) (g := gName 4) (tt := tYes) (te := (tCall _ [] E0 (tCons (tVar 0) (tCons (tVar 4) tNil)))) rfl sc_call_counts.nd rfl rfl (sw_true rfl rfl rfl (by decide +kernel)) (pi_tup (pe_tup (pa_cons (C8.pe_gc rfl T.k_WHITE) (pa_cons (C8.pe_gc rfl T.k_GREY) (pa_cons (C8.pe_gc rfl T.k_BLACK) pa_nil))))) (blkOk_by (own := [("colour", 4)]) (N := ["store", "numbers", "ages", "colours", "colour"]) (sc := defScope s_call_counts) (by decide +kernel)) (fun _ _ _ _ _ => pg_name (i := 4) sc_call_counts.nd rfl (Or.inl rfl)) (fun _ _ _ _ _ => pts_nil) (fun _ _ _ _ _ => (C8.pe_c c_count_coloured hr (by decide) rfl (pa_cons (pv 0) (pa_cons (pv 4) pa_nil))))) (pss_one (ps_ret (pe_op op_cat (pe_op op_cat (pe_op op_cat (pe_lst (pa_cons (pe_callB call_len_seq (by rfl) T.b_len PySem.boot_len (pa_cons (pe_fld (pv 0) rfl) pa_nil)) pa_nil)) (pv 2)) (pv 3)) (pe_lst (pa_cons (pe_fld (pv 0) rfl) pa_nil))))))), ?_⟩
  have hm' : s.made ≤ 1000 := by omega
  -- ages
  refine ⟨_, rfl, B, H0, s, D, rfl, R, g, hm', fun H1 R1 => ?_⟩
  refine ⟨_, rfl, B, H0, s, D, rfl, R1, g, hm', fun H2 R2 => ?_⟩
  refine ⟨_, rfl, B, H0, s, D, rfl, R2, g, hm', fun H3 R3 => ?_⟩
  refine ⟨by show 3 ≤ 2 ^ 24; decide, fun la hla => ?_⟩
  have R4 := R3.fresh (o := .lst [V.int (s.young.length : Nat), V.int (s.olds.length : Nat), V.int (s.remembered.length : Nat)]) hla
  have hla0 : H0 la = none := R3.same.free hla
  -- (WHITE, GREY, BLACK)
  refine ⟨by show 3 ≤ 2 ^ 24; decide, fun tu htu => ?_⟩
  have R5 := R4.fresh (o := .tup ([Kg93.Colour.white, .grey, .black].map fun k => V.int (colN k))) htu
  have htu0 := R4.same.free htu
  have hlaH : (upd (upd H3 la (.lst [V.int (s.young.length : Nat), V.int (s.olds.length : Nat), V.int (s.remembered.length : Nat)])) tu (.tup ([Kg93.Colour.white, .grey, .black].map fun k => V.int (colN k)))) la = some (.lst [V.int (s.young.length : Nat), V.int (s.olds.length : Nat), V.int (s.remembered.length : Nat)]) := by
    rw [upd_ne (ne_of_none upd_same htu)]
    exact upd_same
  refine ⟨tu, rfl, ⟨_, SqT.of (R5.same tu _ upd_same)⟩, fun lc hlc => ?_⟩
  have n1 : tu ≠ lc := ne_of_none (R5.same tu _ upd_same) hlc
  have hlc0 := R5.same.free hlc
  refine lc_repT2 [Kg93.Colour.white, .grey, .black] (fun k => V.int (colN k)) R5 hlc (fun o H' R' => SqT.of (R'.same tu _ (by rw [upd_ne n1]; exact upd_same))) (fun k => V.int ((s.olds.filter fun c => c.colour == k).length : Nat)) (by decide) ?_ ?_ gName_mono
  · intro k _ o H' R' Y hY
    exact ⟨rfl, _, rfl, _, rfl, B, _, s, D, k, rfl, R', g, hm', fun H'' R'' => hY H'' R''⟩
  intro H6 R6
  have nla : la ≠ lc := ne_of_none hlaH hlc
  have ntl : la ≠ tu := ne_of_none (H := upd H3 la _) upd_same htu
  have hla6 : H6 la = some (.lst [V.int (s.young.length : Nat), V.int (s.olds.length : Nat), V.int (s.remembered.length : Nat)]) := R6.same la _ (by rw [upd_ne nla, upd_ne ntl]; exact upd_same)
  have hlc6 := R6.same lc _ upd_same
  -- [len(store.cells)] + ages + colours + [store.phase]
  obtain ⟨dx6, sw6, hsw6, hst6⟩ := R6.store
  refine ⟨_, rfl, B .store, CS, dx6, _, _, rfl, hst6, T.cS, T.m_cells, sf_cells, B .cells, _, rfl, .inl (cells_sq R6), by show 1 ≤ 2 ^ 24; decide, fun l1 hl1 => ?_⟩
  have R7 := R6.fresh (o := .lst [V.int ((s.cells.map (refC B)).length : Nat)]) hl1
  have hl10 := R6.same.free hl1
  have m1 : la ≠ l1 := ne_of_none hla6 hl1
  refine ⟨_, rfl, l1, la, _, _, rfl, rfl, upd_same, Eq.trans (upd_ne m1) hla6, by show 1 + 3 ≤ 2 ^ 24; decide, fun l2 hl2 => ?_⟩
  have R8 := R7.fresh (o := .lst ([V.int ((s.cells.map (refC B)).length : Nat)] ++ [V.int (s.young.length : Nat), V.int (s.olds.length : Nat), V.int (s.remembered.length : Nat)])) hl2
  have hl20 := R7.same.free hl2
  have hlc7 : (upd H6 l1 (.lst [V.int ((s.cells.map (refC B)).length : Nat)])) lc = _ := Eq.trans (upd_ne (ne_of_none hlc6 hl1)) hlc6
  have m2 : lc ≠ l2 := ne_of_none hlc7 hl2
  refine ⟨_, rfl, l2, lc, _, _, rfl, rfl, upd_same, Eq.trans (upd_ne m2) hlc7, by show 4 + 3 ≤ 2 ^ 24; decide, fun l3 hl3 => ?_⟩
  have R9 := R8.fresh (o := .lst ([V.int ((s.cells.map (refC B)).length : Nat)] ++ [V.int (s.young.length : Nat), V.int (s.olds.length : Nat), V.int (s.remembered.length : Nat)] ++ [Kg93.Colour.white, .grey, .black].map fun k => V.int ((s.olds.filter fun c => c.colour == k).length : Nat))) hl3
  have hl30 := R8.same.free hl3
  obtain ⟨dx9, sw9, hsw9, hst9⟩ := R9.store
  refine ⟨_, rfl, B .store, CS, dx9, _, _, rfl, hst9, T.cS, T.m_phase, sf_phase, by show 1 ≤ 2 ^ 24; decide, fun l4 hl4 => ?_⟩
  have R10 := R9.fresh (o := .lst [V.int (phN s.phase)]) hl4
  have hl40 := R9.same.free hl4
  have m4 : l3 ≠ l4 := ne_of_none (R9.same l3 _ upd_same) hl4
  refine ⟨l3, l4, _, _, rfl, rfl, Eq.trans (upd_ne m4) upd_same, upd_same, by show 7 + 1 ≤ 2 ^ 24; decide, fun p hp => ?_⟩
  have es : Kg93.spec s .counts = (s, ⟨(s.cells.length : Int), [(s.young.length : Int), (s.olds.length : Int), (s.remembered.length : Int), ((s.olds.filter fun c => c.colour == .white).length : Int), ((s.olds.filter fun c => c.colour == .grey).length : Int), ((s.olds.filter fun c => c.colour == .black).length : Int), s.phase.told]⟩) := rfl
  rw [es] at ret
  have R11 : RepA CC CS B H0 _ s (idsS s) D := (((((((R10.weak (same_upd hl40)).weak (same_upd hl30)).weak (same_upd hl20)).weak (same_upd hl10)).weak (same_upd hlc0)).weak (same_upd htu0)).weak (same_upd hla0))
  refine ret.now rfl R11 g wd hp ?_
  show V.int ((s.cells.map (refC B)).length : Nat) :: [_, _, _, _, _, _, V.int (phN s.phase)] = V.int _ :: [_, _, _, _, _, _, V.int s.phase.told]
  rw [List.length_map]
  cases s.phase <;> rfl
end
end Gc
set_option Elab.async false
set_option maxRecDepth 100000
set_option maxHeartbeats 4000000
namespace Gc
open PySem PySem.Spec PyProof.Rows L2
abbrev s_see : Stmt := top 36
theorem sc_see : FnScope ["seen", "places", "held"] ["seen", "places", "held"] (defScope s_see) := ⟨rfl, rfl, rfl, by decide +kernel, rfl, by decide +kernel, by decide +kernel⟩
abbrev s_cells_seen : Stmt := top 37
theorem sc_cells_seen : FnScope ["held", "seen", "places", "at", "cell", "inner"] ["held"] (defScope s_cells_seen) := ⟨rfl, rfl, rfl, by decide +kernel, rfl, by decide +kernel, by decide +kernel⟩
/-! ### what is seen -/
def keepsI (s : Sta) (i : Nat) : List Nat := ((s.at_ i).map Kg93.Cell.keeps).getD []
theorem follow_ok {s : Sta} {D : List Nat} (g : Good s D) : ∀ (f : Nat) (l : List Nat) (i : Nat), SeenOk s l → s.cells.length ≤ f + i → (∀ j c : Nat, j < i → l[j]? = some c → ∀ x ∈ keepsI s c, x ∈ l) →
    SeenOk s (Kg93.follow s f l i) ∧ (∀ x ∈ l, x ∈ Kg93.follow s f l i) ∧ ∀ c ∈ Kg93.follow s f l i, ∀ x ∈ keepsI s c, x ∈ Kg93.follow s f l i
  | 0, l, i, hl, hf, hc => by
    refine ⟨hl, fun x hx => hx, fun c hcm x hx => ?_⟩
    obtain ⟨j, hj⟩ := List.mem_iff_getElem?.mp hcm
    have h1 : j < l.length := (List.getElem?_eq_some_iff.mp hj).1
    have h2 := hl.len
    exact hc j c (by omega) hj x hx
  | f + 1, l, i, hl, hf, hc => by
    cases e : l[i]? with
    | none =>
      have hi : l.length ≤ i := List.getElem?_eq_none_iff.mp e
      rw [follow_end hi]
      refine ⟨hl, fun x hx => hx, fun c hcm x hx => ?_⟩
      obtain ⟨j, hj⟩ := List.mem_iff_getElem?.mp hcm
      have h1 : j < l.length := (List.getElem?_eq_some_iff.mp hj).1
      exact hc j c (by omega) hj x hx
    | some c =>
      have e2 : Kg93.follow s (f + 1) l i = Kg93.follow s f (Kg93.addAll l (keepsI s c)) (i + 1) := by
        show (match l[i]? with | none => l | some c => _) = _
        rw [e]
        rfl
      have hn := hl.next g (List.mem_of_getElem? e)
      have hpre : ∀ j x : Nat, l[j]? = some x → (Kg93.addAll l (keepsI s c))[j]? = some x := by
        have : ∀ (m l : List Nat) (j x : Nat), l[j]? = some x → (Kg93.addAll l m)[j]? = some x := by
          intro m
          induction m with
          | nil => intro l j x h; exact h
          | cons y m ih =>
            intro l j x h
            refine ih _ j x ?_
            show (if l.contains y = true then l else l ++ [y])[j]? = some x
            split
            · exact h
            · rw [List.getElem?_append_left (List.getElem?_eq_some_iff.mp h).1]
              exact h
        exact this _ _
      have ih := follow_ok g f (Kg93.addAll l (keepsI s c)) (i + 1) hn (by omega) (fun j d hj hd x hx => by
        have hi : i < l.length := (List.getElem?_eq_some_iff.mp e).1
        by_cases q : j = i
        · subst q
          rw [hpre j c e] at hd
          cases hd
          exact addAll_mem.mpr (.inr hx)
        · have hjl : j < l.length := by omega
          have hl1 := List.getElem?_eq_getElem hjl
          rw [hpre j _ hl1] at hd
          cases hd
          exact addAll_mem.mpr (.inl (hc j _ (by omega) hl1 x hx)))
      rw [e2]
      exact ⟨ih.1, fun x hx => ih.2.1 x (addAll_mem.mpr (.inl hx)), ih.2.2⟩
def addOne (l : List Nat) : Vl → List Nat
  | .cell i => if l.contains i = true then l else l ++ [i]
  | _ => l
theorem addAll_ids : ∀ (vs : List Vl) (l : List Nat), Kg93.addAll l (Kg93.idsOf vs) = vs.foldl addOne l
  | [], l => rfl
  | v :: vs, l => by
    cases v with
    | none_ => exact addAll_ids vs l
    | num z => exact addAll_ids vs l
    | cell i =>
      rw [List.foldl_cons, ← addAll_ids vs]
      rfl
theorem SeenOk.one {s : Sta} {l : List Nat} (h : SeenOk s l) {v : Vl} (hv : ∀ i, v = .cell i → SafeId s i) : SeenOk s (addOne l v) := by
  cases v with
  | none_ => exact h
  | num z => exact h
  | cell i =>
    show SeenOk s (if l.contains i = true then l else l ++ [i])
    split
    · exact h
    · next q =>
      refine ⟨?_, fun j hj => ?_⟩
      · rw [List.nodup_append]
        refine ⟨h.nd, by simp, ?_⟩
        intro a ha b hb e
        rw [List.mem_singleton] at hb
        subst hb e
        exact q (by simpa using ha)
      · rcases List.mem_append.mp hj with hj | hj
        · exact h.safe j hj
        · rw [List.mem_singleton] at hj
          exact hj ▸ hv i rfl
theorem SeenOk.fold {s : Sta} : ∀ (vs : List Vl) {l : List Nat}, SeenOk s l → (∀ v ∈ vs, ∀ i, v = .cell i → SafeId s i) → SeenOk s (vs.foldl addOne l)
  | [], _, h, _ => h
  | v :: vs, _, h, hv => SeenOk.fold vs (h.one (hv v (List.mem_cons_self ..))) fun x hx => hv x (List.mem_cons_of_mem _ hx)
def seenV (s : Sta) (v : Vl) : List Nat := Kg93.follow s s.cells.length (addOne [] v) 0
theorem seen_var (s : Sta) (u : Nat) : Kg93.seen s u = seenV s (s.var u) := by
  unfold Kg93.seen seenV
  cases s.var u with
  | none_ => exact (follow_end (Nat.le_refl _)).symm
  | num z => exact (follow_end (Nat.le_refl _)).symm
  | cell i => rfl
structure SeenD (kvs : Kd) (l : List Nat) : Prop where
  keys : ∀ i : Nat, hasK kvs i = l.contains i
  len : kvs.length ≤ l.length
theorem SeenD.put {kvs : Kd} {l : List Nat} (h : SeenD kvs l) (i : Nat) (y : V) : SeenD (putK kvs (Sum.inl (i : Int)) y) (l ++ [i]) := by
  refine ⟨fun j => ?_, ?_⟩
  · rw [hasK_put, h.keys, Bool.eq_iff_iff]
    simp only [Bool.or_eq_true, decide_eq_true_eq, List.contains_iff_mem, List.mem_append, List.mem_singleton]
    constructor
    · rintro (e | e)
      · exact .inr (by omega)
      · exact .inl e
    · rintro (e | e)
      · exact .inr e
      · exact .inl (by omega)
  · have h1 := length_putK kvs (Sum.inl (i : Int)) y
    have h2 := h.len
    rw [List.length_append, List.length_singleton]
    omega
abbrev refI (B : Role → Addr) (i : Nat) : V := .ref (B (.cell i))
def sp_see (CC CS : Addr) : Sp := fun vs H Q _ => ∃ (B : Role → Addr) (H0 : Hp) (s : Sta) (lst D : List Nat) (sl pd : Addr) (l : List Nat) (kvs : Kd) (v : Vl), vs = [.ref sl, .ref pd, vV (adB B) v] ∧ H0 sl = some (.lst (l.map (refI B))) ∧ H0 pd = some (.dK kvs) ∧ SeenD kvs l ∧ l.length ≤ 2000 ∧ RepA CC CS B H0 H s lst D ∧ AliveV s v ∧
  ∀ H' kvs', SeenD kvs' (addOne l v) → RepA CC CS B (upd (upd H0 pd (.dK kvs')) sl (.lst ((addOne l v).map (refI B)))) H' s lst D → Q .non H'
def sp_cells_seen (CC CS : Addr) : Sp := fun vs H Q _ => ∃ (B : Role → Addr) (H0 : Hp) (s : Sta) (D : List Nat) (v : Vl), vs = [vV (adB B) v] ∧ RepA CC CS B H0 H s (idsS s) D ∧ Good s D ∧ s.made ≤ 1000 ∧ (∀ i, v = .cell i → SafeId s i) ∧
  ∀ H' p, H0 p = none → RepA CC CS B (upd H0 p (.lst ((seenV s v).map (refI B)))) H' s (idsS s) D → Q (.ref p) H'
theorem two_back {H0 : Hp} {a b : Addr} {oa ob : HO} (ha : H0 a = some oa) (hb : H0 b = some ob) : upd (upd H0 a oa) b ob = H0 := by
  funext c
  unfold upd
  by_cases q : c = b
  · rw [if_pos q, q, hb]
  · rw [if_neg q]
    by_cases q2 : c = a
    · rw [if_pos q2, q2, ha]
    · rw [if_neg q2]
theorem two_put {H0 : Hp} {a b : Addr} {oa oa' ob ob' : HO} (n : a ≠ b) : upd (upd (upd (upd H0 a oa) b ob) a oa') b ob' = upd (upd H0 a oa') b ob' := by
  funext c
  unfold upd
  by_cases q : c = b
  · simp only [if_pos q]
  · by_cases q2 : c = a
    · simp only [if_neg q, if_pos q2]
    · simp only [if_neg q, if_neg q2]
theorem safe_alive {s : Sta} {D : List Nat} (g : Good s D) {v : Vl} (h : ∀ i, v = .cell i → SafeId s i) : AliveV s v := fun j e => by
  obtain ⟨d, a, b, _⟩ := h j e
  rw [← b, g.atc a]
  rfl
section
variable {P : Program} {w : World} {K : PySem.W.Frag} {mg : Str → Option Value} {base : Heap} {CC CS : Addr}
theorem cal_see (F : Def K mg "see" s_see ["seen", "places", "held"]) (T : Txt K mg CC CS) (c_is_cell : Cal P w K mg base 1 "is_cell" (sp_is_cell CC)) : Cal P w K mg base 2 "see" (sp_see CC CS) := by
  refine F.cal sc_see (fun vs H Q E h => ?_) (fun f cdv A outer sh H vs Q E hr h => ?_)
  · obtain ⟨B, H0, s, lst, D, sl, pd, l, kvs, v, rfl, _⟩ := h
    rfl
  · obtain ⟨B, H0, s, lst, D, sl, pd, l, kvs, v, rfl, hsl, hpd, sd, hlen, R, hal, cont⟩ := h
    refine ⟨_, (pss_one (ps_if (PW.pt (pw_and (pt_val (C8.pe_c c_is_cell hr (by decide) rfl (pa_cons (pv 2) pa_nil))) (pw_and1 (pt_cmp (pc_dnotin (hu_of hr) (pe_fld (pv 2) rfl) (pv 1)) rfl)))) (pss_cons (ps_dput (hu_of hr) (pv 1) (pe_fld (pv 2) rfl) pe_bl rfl) (pss_one (ps_expr (pe_bm PySem.F.plainAttrs_list PySem.F.slot_list_append PySem.F.type_list_append mt_append (pv 0) (pa_cons (pv 2) pa_nil))))) pss_nil)), ?_⟩
    have same : addOne l v = l → Q .non H := fun e => cont H kvs (by rw [e]; exact sd) (by rw [e, two_back hpd hsl]; exact R)
    refine ⟨_, rfl, _, _, rfl, R.isC (hal.held D), _, rfl, ?_⟩
    cases v with
    | none_ => exact iteF (iteF (same rfl))
    | num z => exact iteF (iteF (same rfl))
    | cell i =>
      obtain ⟨c, hc⟩ := Option.isSome_iff_exists.mp (hal i rfl)
      have hid := at_id hc
      obtain ⟨dc, hcell⟩ := R.cell hc
      have hslH : H sl = some (.lst (l.map (refI B))) := R.same sl _ hsl
      have hpdH : H pd = some (.dK kvs) := R.same pd _ hpd
      have nps : pd ≠ sl := ne_of hpd hsl (by intro z; cases z)
      refine iteT ⟨_, rfl, B (.cell i), CC, dc, _, _, rfl, hcell, T.isC.cl, T.n_place, cf_place, _, rfl, pd, _, rfl, DGet.k (k := Sum.inl (c.id : Int)) hpdH, _, rfl, ?_⟩
      have eb : (!(valV kvs (Sum.inl (c.id : Int))).isSome) = !l.contains i := by
        have := sd.keys c.id
        unfold hasK at this
        rw [this, hid]
      rw [eb]
      cases hci : l.contains i with
      | true => exact iteF (same (if_pos hci))
      | false =>
        have eo : addOne l (.cell i) = l ++ [i] := if_neg (by rw [hci]; simp)
        rw [eo] at cont
        have hl := sd.len
        refine iteT ⟨_, rfl, _, rfl, B (.cell i), CC, dc, _, _, rfl, hcell, T.isC.cl, T.n_place, cf_place, pd, _, rfl, DPut.k (k := Sum.inl (c.id : Int)) hpdH (by show kvs.length < 2 ^ 24; omega), ?_⟩
        rw [hid]
        have hsl1 : (upd H pd (.dK (putK kvs (Sum.inl (i : Int)) (V.bl true)))) sl = some (.lst (l.map (refI B))) := by rw [upd_ne nps.symm]; exact hslH
        refine ⟨_, rfl, .inl ⟨rfl, _, SqL.of hsl1⟩, _, rfl, sl, _, _, rfl, rfl, hsl1, by rw [List.length_map]; exact Nat.lt_of_le_of_lt hlen (by decide), ?_⟩
        refine cont _ _ (sd.put i (V.bl true)) ?_
        have R1 := R.tmp (p := pd) (o := .dK (putK kvs (Sum.inl (i : Int)) (V.bl true))) hpd
        have R2 := R1.tmp (p := sl) (o := .lst (l.map (refI B) ++ [refI B i])) (by rw [upd_ne nps.symm]; exact hsl)
        rw [List.map_append]
        exact R2
theorem cal_cells_seen (F : Def K mg "cells_seen" s_cells_seen ["held"]) (T : Txt K mg CC CS) (c_see : Cal P w K mg base 2 "see" (sp_see CC CS)) : Cal P w K mg base 3 "cells_seen" (sp_cells_seen CC CS) := by
  refine F.cal sc_cells_seen (fun vs H Q E h => ?_) (fun f cdv A outer sh H vs Q E hr h => ?_)
  · obtain ⟨B, H0, s, D, v, rfl, _⟩ := h
    rfl
  · obtain ⟨B, H0, s, D, v, rfl, R, g, hm, hsafe, cont⟩ := h
    refine ⟨_, (pss_cons (ps_set (i := 1) sc_cells_seen.nd rfl (Or.inl rfl) (pe_lst pa_nil)) (pss_cons (ps_set (i := 2) sc_cells_seen.nd rfl (Or.inl rfl) pe_dnewK) (pss_cons (ps_expr (C8.pe_c c_see hr (by decide) rfl (pa_cons (pv 1) (pa_cons (pv 2) (pa_cons (pv 0) pa_nil))))) (pss_cons (ps_set (i := 3) sc_cells_seen.nd rfl (Or.inl rfl) pe_int) (pss_cons (ps_while PassesOwn.never (pt_cmpR op_lt (pv 3) (pe_callB call_len_seq (by rfl) T.b_len PySem.boot_len (pa_cons (pv 1) pa_nil)) (nomark _)) (pss_cons (ps_set (i := 4) sc_cells_seen.nd rfl (Or.inl rfl) (pe_ix ix_list (pv 1) (pv 3) (fun _ _ => rfl))) (pss_cons (ps_if (pt_cmpR op_eq (pe_fld (pv 4) rfl) (C8.pe_gc rfl T.k_PLAIN) (nomark _)) (pss_one (ps_for PassesOwn.never rfl (pi_list (pe_fld (pv 4) rfl)) (pg_name (i := 5) sc_cells_seen.nd rfl (Or.inl rfl)) (pss_one (ps_expr (C8.pe_c c_see hr (by decide) rfl (pa_cons (pv 1) (pa_cons (pv 2) (pa_cons (pv 5) pa_nil)))))))) pss_nil) (pss_one (ps_aug (i := 3) sc_cells_seen.nd rfl (Or.inl rfl) pe_int ip_add))))) (pss_one (ps_ret (pv 1)))))))), ?_⟩
    have hcount := g.count
    -- seen = []; places = {}
    refine ⟨Nat.zero_le _, fun sl hsl => ?_⟩
    have R1 := R.fresh (o := .lst []) hsl
    have hsl0 : H0 sl = none := R.same.free hsl
    intro pd hpd
    have R2 := R1.fresh (o := .dK []) hpd
    have hpd1 : (upd H0 sl (.lst [])) pd = none := R1.same.free hpd
    have nps : pd ≠ sl := fun z => by rw [z, upd_same] at hpd1; cases hpd1
    have hpd0 : H0 pd = none := by rw [upd_ne nps] at hpd1; exact hpd1
    have sd0 : SeenD [] [] := ⟨fun i => rfl, Nat.le_refl _⟩
    have esw : ∀ (kvs : Kd) (o : HO), upd (upd (upd (upd H0 sl (.lst [])) pd (.dK [])) pd (.dK kvs)) sl o = upd (upd H0 pd (.dK kvs)) sl o := by
      intro kvs o
      funext c
      unfold upd
      by_cases q : c = sl
      · simp only [if_pos q]
      · by_cases q2 : c = pd
        · simp only [if_neg q, if_pos q2]
        · simp only [if_neg q, if_neg q2]
    -- see(seen, places, held)
    refine ⟨_, rfl, _, rfl, _, rfl, B, _, s, _, D, sl, pd, [], [], v, rfl, by rw [upd_ne nps.symm]; exact upd_same, upd_same, sd0, Nat.zero_le _, R2, safe_alive g hsafe, fun H3 kvs3 sd3 R3 => ?_⟩
    rw [esw] at R3
    have ok0 : SeenOk s (addOne [] v) := SeenOk.one ⟨List.nodup_nil, fun i hi => nomatch hi⟩ hsafe
    -- the loop
    refine ⟨fun m σ H' => ∃ (i ff : Nat) (l : List Nat) (kvs : Kd) (v4 v5 : Option V), m = s.cells.length - i ∧ σ = [some (vV (adB B) v), some (.ref sl), some (.ref pd), some (.int i), v4, v5] ∧ SeenOk s l ∧ SeenD kvs l ∧ i ≤ l.length ∧ s.cells.length ≤ ff + i ∧ seenV s v = Kg93.follow s ff l i ∧ RepA CC CS B (upd (upd H0 pd (.dK kvs)) sl (.lst (l.map (refI B)))) H' s (idsS s) D,
      ⟨_, 0, s.cells.length, addOne [] v, kvs3, none, none, rfl, rfl, ok0, sd3, Nat.zero_le _, Nat.le_refl _, rfl, R3⟩, ?_⟩
    rintro m σ H' ⟨i, ff, l, kvs, v4, v5, rfl, rfl, ok, sd, hil, hff, hfol, R'⟩
    have hsl' : H' sl = some (.lst (l.map (refI B))) := R'.same sl _ upd_same
    refine ⟨_, rfl, _, rfl, sl, _, rfl, .inl (SqL.of hsl'), _, _, rfl, rfl, _, rfl, ?_⟩
    have hlen := ok.len
    by_cases hlt : i < l.length
    · refine ite2 (fun _ => ?_) (fun q => absurd (decide_eq_true (by rw [List.length_map]; omega)) q)
      obtain ⟨j, hj⟩ : ∃ j, l[i]? = some j := ⟨_, List.getElem?_eq_getElem hlt⟩
      have hjm : j ∈ l := List.mem_of_getElem? hj
      obtain ⟨c, hcm, hid, hcs⟩ := ok.safe j hjm
      have hat : s.at_ j = some c := g.at_iff.mpr ⟨hcm, hid⟩
      obtain ⟨f', hf', hfol2⟩ := follow_step ok hff hj
      rw [hat] at hfol2
      have hfl : ∀ v ∈ c.fields, ∀ i, v = .cell i → SafeId s i := fun v hv i e => g.flds c hcm hcs i (e ▸ hv)
      refine ⟨fun σ' H2 => ∃ (l2 : List Nat) (kvs2 : Kd) (v4 v5 : Option V), σ' = [some (vV (adB B) v), some (.ref sl), some (.ref pd), some (.int ((i + 1 : Nat) : Int)), v4, v5] ∧ SeenOk s l2 ∧ SeenD kvs2 l2 ∧ i + 1 ≤ l2.length ∧ seenV s v = Kg93.follow s f' l2 (i + 1) ∧ RepA CC CS B (upd (upd H0 pd (.dK kvs2)) sl (.lst (l2.map (refI B)))) H2 s (idsS s) D,
        fun σ' H2 ⟨l2, kvs2, v4, v5, h1, h2, h3, h4, h5, h6⟩ => ⟨s.cells.length - (i + 1), by omega, i + 1, f', l2, kvs2, v4, v5, rfl, h1, h2, h3, h4, hf', h5, h6⟩, ?_⟩
      -- cell = seen[at]
      have ag : atI (l.map (refI B)) (i : Int) = some (refI B j) := atI_nat (by rw [List.getElem?_map, hj]; rfl)
      refine ⟨_, rfl, _, rfl, sl, _, _, _, rfl, rfl, SqL.of hsl', ag, ?_⟩
      obtain ⟨dc, hcell⟩ := R'.cell hat
      refine ⟨_, rfl, B (.cell j), CC, dc, _, _, rfl, hcell, T.isC.cl, T.n_kind, cf_kind, rfl, _, rfl, ?_⟩
      have ek : decide (V.int (kindN c.kind) = V.int 0) = decide (c.kind = .plain) := dec_kind c .plain
      rw [ek]
      by_cases hpl : c.kind = .plain
      · rw [decide_eq_true hpl]
        have ekp : (Option.map Kg93.Cell.keeps (some c)).getD [] = Kg93.idsOf c.fields := if_pos hpl
        rw [ekp, addAll_ids] at hfol2
        -- for inner in cell.fields: see(..)
        refine iteT ⟨_, rfl, B (.cell j), CC, dc, _, _, rfl, hcell, T.isC.cl, T.n_fields, cf_fields, B (.flds j), rfl, ⟨_, SqL.of (R'.flds hat)⟩,
          for_list (K := K) (a := B (.flds j)) (xs := c.fields.map (vV (adB B))) (fun k σ H2 => ∃ (kvs2 : Kd) (v5 : Option V), σ = [some (vV (adB B) v), some (.ref sl), some (.ref pd), some (.int i), some (refI B j), v5] ∧ SeenD kvs2 ((c.fields.take k).foldl addOne l) ∧ RepA CC CS B (upd (upd H0 pd (.dK kvs2)) sl (.lst (((c.fields.take k).foldl addOne l).map (refI B)))) H2 s (idsS s) D)
          ⟨kvs, v5, rfl, sd, R'⟩ (fun k σ H2 _ ⟨_, _, _, _, R2⟩ => SqL.of (R2.flds hat)) ?_ ?_⟩
        · rintro k x σ H2 hk ⟨kvs2, v5', rfl, sd2, R2⟩
          rw [List.getElem?_map] at hk
          obtain ⟨y, hy, rfl⟩ := Option.map_eq_some_iff.mp hk
          have hym := List.mem_of_getElem? hy
          have ok2 : SeenOk s ((c.fields.take k).foldl addOne l) := SeenOk.fold _ ok fun x hx => hfl x (List.mem_of_mem_take hx)
          have hl2 := ok2.len
          have estep : (c.fields.take (k + 1)).foldl addOne l = addOne ((c.fields.take k).foldl addOne l) y := by
            rw [take_more hy, List.foldl_append]
            rfl
          refine ⟨_, rfl, _, rfl, _, rfl, B, _, s, _, D, sl, pd, (c.fields.take k).foldl addOne l, kvs2, y, rfl, upd_same, by rw [upd_ne nps]; exact upd_same, sd2, by omega, R2, safe_alive g (hfl y hym), fun H3 kvs3 sd3 R3 => ?_⟩
          rw [two_put nps] at R3
          refine ⟨kvs3, _, rfl, ?_, ?_⟩
          · rw [estep]; exact sd3
          · rw [estep]; exact R3
        · rintro σ H2 ⟨kvs2, v5', rfl, sd2, R2⟩
          rw [List.length_map, List.take_length] at sd2 R2
          have ok2 : SeenOk s (c.fields.foldl addOne l) := SeenOk.fold _ ok hfl
          have hge : l.length ≤ (c.fields.foldl addOne l).length := by
            rw [← addAll_ids]
            exact addAll_le
          exact ⟨_, rfl, _, _, rfl, rfl, c.fields.foldl addOne l, kvs2, _, _, rfl, ok2, sd2, by omega, hfol.trans hfol2, R2⟩
      · rw [decide_eq_false hpl]
        have ekp : (Option.map Kg93.Cell.keeps (some c)).getD [] = [] := if_neg hpl
        rw [ekp] at hfol2
        refine iteF ⟨_, rfl, _, _, rfl, rfl, l, kvs, _, _, rfl, ok, sd, by omega, hfol.trans hfol2, R'⟩
    · refine ite2 (fun q => absurd (of_decide_eq_true q) (by rw [List.length_map]; omega)) (fun _ => ?_)
      rw [follow_end (Nat.not_lt.mp hlt)] at hfol
      refine ⟨_, rfl, cont H' sl hsl0 ?_⟩
      rw [hfol]
      refine R'.weak ?_
      intro b o e
      by_cases z : b = sl
      · subst z
        rw [upd_same] at e ⊢
        exact e
      · rw [upd_ne z] at e ⊢
        rw [upd_ne (ne_of_none e hpd0)]
        exact e
end
end Gc
set_option Elab.async false
set_option maxRecDepth 100000
set_option maxHeartbeats 4000000
namespace Gc
open PySem PySem.Spec PyProof.Rows L2
abbrev s_tell_held : Stmt := top 38
theorem sc_tell_held : FnScope ["held", "numbered"] ["held", "numbered"] (defScope s_tell_held) := ⟨rfl, rfl, rfl, by decide +kernel, rfl, by decide +kernel, by decide +kernel⟩
abbrev s_tell_cell : Stmt := top 39
theorem sc_tell_cell : FnScope ["cell", "numbered", "told", "held"] ["cell", "numbered"] (defScope s_tell_cell) := ⟨rfl, rfl, rfl, by decide +kernel, rfl, by decide +kernel, by decide +kernel⟩
abbrev s_tell_shape : Stmt := top 40
theorem sc_tell_shape : FnScope ["held", "seen", "numbered", "at", "cell", "told"] ["held", "seen"] (defScope s_tell_shape) := ⟨rfl, rfl, rfl, by decide +kernel, rfl, by decide +kernel, by decide +kernel⟩
abbrev s_call_shape : Stmt := top 93
theorem sc_call_shape : FnScope ["store", "numbers", "held", "seen"] ["store", "numbers"] (defScope s_call_shape) := ⟨rfl, rfl, rfl, by decide +kernel, rfl, by decide +kernel, by decide +kernel⟩
def cShape (ns : List Int) (c : Kg93.Call) : Prop := ∃ u, ns = [u] ∧ isVar u = true ∧ c = .shape u
/-! ### told -/
def NumD (kvs : Kd) (l m : List Nat) : Prop := ∀ i ∈ m, valV kvs (Sum.inl (i : Int)) = some (.int (l.idxOf i : Nat))
def toldC (l : List Nat) (c : Cl) : List Int := if c.kind = .plain then 0 :: (c.fields.length : Int) :: c.fields.flatMap (Kg93.toldV l) else [c.kind.told]
def toldI (s : Sta) (l : List Nat) (i : Nat) : List Int := match s.at_ i with
  | some c => toldC l c
  | none => []
theorem toldV_len (l : List Nat) (v : Vl) : (Kg93.toldV l v).length ≤ 2 := by
  cases v <;> simp [Kg93.toldV]
theorem flatN_len {α : Type} {f : α → List Int} {n : Nat} (h : ∀ a, (f a).length ≤ n) : ∀ l : List α, (l.flatMap f).length ≤ n * l.length
  | [] => by simp
  | a :: l => by
    have h1 := flatN_len h l
    have h2 := h a
    rw [List.flatMap_cons, List.length_append, List.length_cons, Nat.mul_succ]
    omega
theorem toldC_len (l : List Nat) {c : Cl} (h6 : c.fields.length ≤ 6) : (toldC l c).length ≤ 14 := by
  unfold toldC
  split
  · have := flatN_len (toldV_len l) c.fields
    simp only [List.length_cons]
    omega
  · simp
def sp_tell_held (CC CS : Addr) : Sp := fun vs H Q _ => ∃ (B : Role → Addr) (H0 : Hp) (s : Sta) (lst D : List Nat) (nd : Addr) (kvs : Kd) (l : List Nat) (v : Vl), vs = [vV (adB B) v, .ref nd] ∧ H0 nd = some (.dK kvs) ∧ NumD kvs l l ∧ RepA CC CS B H0 H s lst D ∧ AliveV s v ∧ (∀ i, v = .cell i → i ∈ l) ∧
  ∀ H' p, H0 p = none → RepA CC CS B (upd H0 p (.lst ((Kg93.toldV l v).map V.int))) H' s lst D → Q (.ref p) H'
def sp_tell_cell (CC CS : Addr) : Sp := fun vs H Q _ => ∃ (B : Role → Addr) (H0 : Hp) (s : Sta) (lst D : List Nat) (nd : Addr) (kvs : Kd) (l : List Nat) (c : Cl), vs = [refC B c, .ref nd] ∧ H0 nd = some (.dK kvs) ∧ NumD kvs l l ∧ RepA CC CS B H0 H s lst D ∧ s.at_ c.id = some c ∧ (∀ v ∈ c.fields, AliveV s v) ∧ (c.kind = .plain → ∀ i, Kg93.V.cell i ∈ c.fields → i ∈ l) ∧ c.fields.length ≤ 6 ∧
  ∀ H' p, H0 p = none → RepA CC CS B (upd H0 p (.lst ((toldC l c).map V.int))) H' s lst D → Q (.ref p) H'
def sp_tell_shape (CC CS : Addr) : Sp := fun vs H Q _ => ∃ (B : Role → Addr) (H0 : Hp) (s : Sta) (D : List Nat) (sl : Addr) (l : List Nat) (v : Vl), vs = [vV (adB B) v, .ref sl] ∧ H0 sl = some (.lst (l.map (refI B))) ∧ RepA CC CS B H0 H s (idsS s) D ∧ Good s D ∧ l.length ≤ 60 ∧ SeenOk s l ∧ (∀ c ∈ l, ∀ x ∈ keepsI s c, x ∈ l) ∧ (∀ i, v = .cell i → i ∈ l) ∧
  ∀ H' p, H0 p = none → RepA CC CS B (upd H0 p (.lst ((Kg93.toldV l v ++ l.flatMap (toldI s l)).map V.int))) H' s (idsS s) D → Q (.ref p) H'
/-- a loop over enumerate of a list -/
theorem for_enumL {K : PySem.W.Frag} {a : Addr} {xs : List V} {g : TG} {tb : TS} {D : Ends} {σ : L2.St} {H : Hp} (Pv : Nat → L2.St → Hp → Prop) (h0 : Pv 0 σ H) (hq : ∀ i σ H, Pv i σ H → SqL K H a xs)
    (hs : ∀ (i : Nat) (x : V) (T : Addr) (σ : L2.St) (H : Hp), xs[i]? = some x → Pv i σ H → H T = none → g (.ref T) σ (upd H T (.tup [.int (i : Nat), x])) fun σ2 H2 => tb { D with nx := Pv (i + 1), ct := Pv (i + 1), bk := D.nx } σ2 H2) (hd : ∀ σ H, Pv xs.length σ H → D.nx σ H) :
    ∃ W : Nat → Nat → L2.St → Hp → Prop, (∃ m, W 0 m σ H) ∧ ∀ i m σ H, W i m σ H →
      ((Ite K a).stop i H ∧ D.nx σ H) ∨ ((Ite K a).go i H ∧ ∃ N : L2.St → Hp → Prop, (∀ σ' H', N σ' H' → ∃ m', m' < m ∧ W (i + 1) m' σ' H') ∧ ∀ v H', (Ite K a).yld i H v H' → g v σ H' fun σ2 H2 => tb { D with nx := N, ct := N, bk := D.nx } σ2 H2) := by
  refine ⟨fun i m σ H => m = xs.length - i ∧ i ≤ xs.length ∧ Pv i σ H, ⟨xs.length, rfl, Nat.zero_le _, h0⟩, ?_⟩
  rintro i m σ H ⟨rfl, hi, p⟩
  have qx := hq i σ H p
  by_cases hlt : i < xs.length
  · have hx : xs[i]? = some xs[i] := List.getElem?_eq_getElem hlt
    refine .inr ⟨⟨xs, _, qx, hx⟩, Pv (i + 1), fun σ' H' p' => ⟨xs.length - (i + 1), by omega, rfl, hlt, p'⟩, fun v H' y => ?_⟩
    obtain ⟨T, x', rfl, hT, rfl, f1⟩ := y
    exact hs i x' T σ H (f1 xs qx) p hT
  · have e : i = xs.length := by omega
    subst e
    exact .inl ⟨⟨xs, qx, Nat.le_refl _⟩, hd σ H p⟩
/-- the list at t grows by the list at p, which goes -/
theorem grown {CC CS : Addr} {B : Role → Addr} {H0 H : Hp} {s : Sta} {lst D : List Nat} {t p : Addr} {o o2 o' : HO} (R : RepA CC CS B (upd (upd H0 t o) p o2) H s lst D) (hp : (upd H0 t o) p = none) : RepA CC CS B (upd H0 t o') (upd H t o') s lst D := by
  have n : p ≠ t := fun z => by rw [z, upd_same] at hp; cases hp
  have hp0 : H0 p = none := by rw [upd_ne n] at hp; exact hp
  have R1 := R.tmp (p := t) (o := o') (by rw [upd_ne n.symm]; exact upd_same)
  refine R1.weak ?_
  intro b u e
  by_cases z : b = t
  · subst z
    rw [upd_same] at e ⊢
    exact e
  · rw [upd_ne z] at e ⊢
    rw [upd_ne (ne_of_none e hp0), upd_ne z]
    exact e
section
variable {P : Program} {w : World} {K : PySem.W.Frag} {mg : Str → Option Value} {base : Heap} {CC CS : Addr}
theorem cal_tell_held (F : Def K mg "tell_held" s_tell_held ["held", "numbered"]) (T : Txt K mg CC CS) (c_is_cell : Cal P w K mg base 1 "is_cell" (sp_is_cell CC)) : Cal P w K mg base 2 "tell_held" (sp_tell_held CC CS) := by
  refine F.cal sc_tell_held (fun vs H Q E h => ?_) (fun f cdv A outer sh H vs Q E hr h => ?_)
  · obtain ⟨B, H0, s, lst, D, nd, kvs, l, v, rfl, _⟩ := h
    rfl
  · obtain ⟨B, H0, s, lst, D, nd, kvs, l, v, rfl, hnd, num, R, hal, hin, cont⟩ := h
    refine ⟨_, (pss_cons (ps_if (pt_cmpR op_isN (pv 0) pe_non (nomark _)) (pss_one (ps_ret (pe_lst (pa_cons pe_int pa_nil)))) pss_nil) (pss_one (ps_ret (pe_ifExp (pt_val (C8.pe_c c_is_cell hr (by decide) rfl (pa_cons (pv 0) pa_nil))) (pe_lst (pa_cons pe_int (pa_cons (pe_dget (hu_of hr) (pv 1) (pe_fld (pv 0) rfl) (fun _ _ => rfl)) pa_nil))) (pe_lst (pa_cons pe_int (pa_cons (pv 0) pa_nil))))))), ?_⟩
    have hndH : H nd = some (.dK kvs) := R.same nd _ hnd
    refine ⟨_, rfl, rfl, _, rfl, ?_⟩
    cases v with
    | none_ => exact iteT ⟨by show 1 ≤ 2 ^ 24; decide, fun p hp => cont _ p (R.same.free hp) (R.fresh hp)⟩
    | num z =>
      refine iteF ⟨_, rfl, _, _, rfl, R.isC (hal.held D), _, rfl, ?_⟩
      exact iteF ⟨_, rfl, by show 2 ≤ 2 ^ 24; decide, fun p hp => cont _ p (R.same.free hp) (R.fresh hp)⟩
    | cell i =>
      obtain ⟨c, hc⟩ := Option.isSome_iff_exists.mp (hal i rfl)
      have hid := at_id hc
      obtain ⟨dc, hcell⟩ := R.cell hc
      refine iteF ⟨_, rfl, _, _, rfl, R.isC (hal.held D), _, rfl, ?_⟩
      have hg : DGet H nd (.int (c.id : Int)) (some (.int (l.idxOf i : Nat))) := by
        have h1 := DGet.k (k := Sum.inl (c.id : Int)) hndH
        rw [hid, num i (hin i rfl)] at h1
        rw [hid]
        exact h1
      exact iteT ⟨_, rfl, _, rfl, B (.cell i), CC, dc, _, _, rfl, hcell, T.isC.cl, T.n_place, cf_place, nd, _, rfl, hg, by show 2 ≤ 2 ^ 24; decide, fun p hp => cont _ p (R.same.free hp) (R.fresh hp)⟩
theorem cal_tell_cell (F : Def K mg "tell_cell" s_tell_cell ["cell", "numbered"]) (T : Txt K mg CC CS) (c_tell_held : Cal P w K mg base 2 "tell_held" (sp_tell_held CC CS)) : Cal P w K mg base 3 "tell_cell" (sp_tell_cell CC CS) := by
  refine F.cal sc_tell_cell (fun vs H Q E h => ?_) (fun f cdv A outer sh H vs Q E hr h => ?_)
  · obtain ⟨B, H0, s, lst, D, nd, kvs, l, c, rfl, _⟩ := h
    rfl
  · obtain ⟨B, H0, s, lst, D, nd, kvs, l, c, rfl, hnd, num, R, hat, hal, hin, h6, cont⟩ := h
    refine ⟨_, (pss_cons (ps_if (pt_cmpR op_ne (pe_fld (pv 0) rfl) (C8.pe_gc rfl T.k_PLAIN) (nomark _)) (pss_one (ps_ret (pe_lst (pa_cons (pe_fld (pv 0) rfl) pa_nil)))) pss_nil) (pss_cons (ps_set (i := 2) sc_tell_cell.nd rfl (Or.inl rfl) (pe_lst (pa_cons (pe_fld (pv 0) rfl) (pa_cons (pe_callB call_len_seq (by rfl) T.b_len PySem.boot_len (pa_cons (pe_fld (pv 0) rfl) pa_nil)) pa_nil)))) (pss_cons (ps_for PassesOwn.never rfl (pi_list (pe_fld (pv 0) rfl)) (pg_name (i := 3) sc_tell_cell.nd rfl (Or.inl rfl)) (pss_one (ps_expr (pe_bm PySem.F.plainAttrs_list PySem.F.slot_list_extend PySem.F.type_list_extend mt_extend (pv 2) (pa_cons (C8.pe_c c_tell_held hr (by decide) rfl (pa_cons (pv 3) (pa_cons (pv 1) pa_nil))) pa_nil))))) (pss_one (ps_ret (pv 2)))))), ?_⟩
    obtain ⟨dc, hcell⟩ := R.cell hat
    refine ⟨_, rfl, B (.cell c.id), CC, dc, _, _, rfl, hcell, T.isC.cl, T.n_kind, cf_kind, rfl, _, rfl, ?_⟩
    have ek : (!decide (V.int (kindN c.kind) = V.int 0)) = !decide (c.kind = .plain) := congrArg _ (dec_kind c .plain)
    rw [ek]
    by_cases hpl : c.kind = .plain
    · rw [decide_eq_true hpl]
      refine iteF ?_
      -- told = [cell.kind, len(cell.fields)]
      refine ⟨_, rfl, B (.cell c.id), CC, dc, _, _, rfl, hcell, T.isC.cl, T.n_kind, cf_kind, _, rfl, B (.cell c.id), CC, dc, _, _, rfl, hcell, T.isC.cl, T.n_fields, cf_fields, B (.flds c.id), _, rfl, .inl (SqL.of (R.flds hat)), by show 2 ≤ 2 ^ 24; decide, fun tl htl => ?_⟩
      have htl0 : H0 tl = none := R.same.free htl
      have e0 : [V.int (kindN c.kind), V.int ((c.fields.map (vV (adB B))).length : Nat)] = ([0, (c.fields.length : Int)] ++ (c.fields.take 0).flatMap (Kg93.toldV l)).map V.int := by
        rw [hpl, List.length_map]
        rfl
      have R1 := R.fresh (o := .lst [V.int (kindN c.kind), V.int ((c.fields.map (vV (adB B))).length : Nat)]) htl
      obtain ⟨dc1, hcell1⟩ := R1.cell hat
      have nnt : nd ≠ tl := ne_of_none (R.same nd _ hnd) htl
      refine ⟨_, rfl, B (.cell c.id), CC, dc1, _, _, rfl, hcell1, T.isC.cl, T.n_fields, cf_fields, B (.flds c.id), rfl, ⟨_, SqL.of (R1.flds hat)⟩,
        for_list (K := K) (a := B (.flds c.id)) (xs := c.fields.map (vV (adB B))) (fun k σ H2 => ∃ v3 : Option V, σ = [some (refC B c), some (.ref nd), some (.ref tl), v3] ∧ RepA CC CS B (upd H0 tl (.lst (([0, (c.fields.length : Int)] ++ (c.fields.take k).flatMap (Kg93.toldV l)).map V.int))) H2 s lst D)
        ⟨none, rfl, by rw [← e0]; exact R1⟩ (fun k σ H2 _ ⟨_, _, R2⟩ => SqL.of (R2.flds hat)) ?_ ?_⟩
      · rintro k x σ H2 hk ⟨v3, rfl, R2⟩
        rw [List.getElem?_map] at hk
        obtain ⟨y, hy, rfl⟩ := Option.map_eq_some_iff.mp hk
        have hym := List.mem_of_getElem? hy
        have htl2 : H2 tl = some (.lst (([0, (c.fields.length : Int)] ++ (c.fields.take k).flatMap (Kg93.toldV l)).map V.int)) := R2.same tl _ upd_same
        have estep : [0, (c.fields.length : Int)] ++ (c.fields.take (k + 1)).flatMap (Kg93.toldV l) = [0, (c.fields.length : Int)] ++ (c.fields.take k).flatMap (Kg93.toldV l) ++ Kg93.toldV l y := by
          rw [take_more hy, List.flatMap_append, List.append_assoc]
          congr 2
          simp
        refine ⟨_, rfl, .inl ⟨rfl, _, SqL.of htl2⟩, _, rfl, _, rfl, B, _, s, lst, D, nd, kvs, l, y, rfl, by rw [upd_ne nnt]; exact hnd, num, R2, hal y hym, fun i e => hin hpl i (e ▸ hym), fun H3 p hp R3 => ?_⟩
        have hp3 : H3 p = some (.lst ((Kg93.toldV l y).map V.int)) := R3.same p _ upd_same
        have npt : p ≠ tl := fun z => by rw [z, upd_same] at hp; cases hp
        have htl3 : H3 tl = some (.lst (([0, (c.fields.length : Int)] ++ (c.fields.take k).flatMap (Kg93.toldV l)).map V.int)) := R3.same tl _ (by rw [upd_ne npt.symm]; exact upd_same)
        refine ⟨tl, p, _, _, rfl, rfl, htl3, hp3, ?_, ?_⟩
        · rw [List.length_map, List.length_map, List.length_append]
          have h1 := flatN_len (toldV_len l) (c.fields.take k)
          have h2 := toldV_len l y
          have h3 : (c.fields.take k).length ≤ 6 := by rw [List.length_take]; omega
          show 2 + _ + _ ≤ 2 ^ 24
          omega
        · refine ⟨_, rfl, ?_⟩
          rw [estep, List.map_append]
          exact grown R3 hp
      · rintro σ H2 ⟨v3, rfl, R2⟩
        rw [List.length_map, List.take_length] at R2
        have ec : toldC l c = [0, (c.fields.length : Int)] ++ c.fields.flatMap (Kg93.toldV l) := by
          unfold toldC
          rw [if_pos hpl]
          rfl
        refine ⟨_, rfl, cont H2 tl htl0 ?_⟩
        rw [ec]
        exact R2
    · rw [decide_eq_false hpl]
      refine iteT ⟨_, rfl, B (.cell c.id), CC, dc, _, _, rfl, hcell, T.isC.cl, T.n_kind, cf_kind, by show 1 ≤ 2 ^ 24; decide, fun p hp => cont _ p (R.same.free hp) ?_⟩
      have ec : (toldC l c).map V.int = [V.int (kindN c.kind)] := by
        unfold toldC
        rw [if_neg hpl]
        cases c.kind <;> rfl
      rw [ec]
      exact R.fresh hp
theorem cal_tell_shape (F : Def K mg "tell_shape" s_tell_shape ["held", "seen"]) (T : Txt K mg CC CS) (c_tell_held : Cal P w K mg base 2 "tell_held" (sp_tell_held CC CS)) (c_tell_cell : Cal P w K mg base 3 "tell_cell" (sp_tell_cell CC CS)) : Cal P w K mg base 4 "tell_shape" (sp_tell_shape CC CS) := by
  refine F.cal sc_tell_shape (fun vs H Q E h => ?_) (fun f cdv A outer sh H vs Q E hr h => ?_)
  · obtain ⟨B, H0, s, D, sl, l, v, rfl, _⟩ := h
    rfl
  · obtain ⟨B, H0, s, D, sl, l, v, rfl, hsl, R, g, h60, ok, hclosed, hin, cont⟩ := h
    refine ⟨_, (pss_cons (ps_set (i := 2) sc_tell_shape.nd rfl (Or.inl rfl) pe_dnewK) (pss_cons (ps_for PassesOwn.never rfl (pi_enum (by rfl) T.b_enumerate (pa_cons (pv 1) pa_nil)) (pg_tup rfl (pgs_cons (pg_name (i := 3) sc_tell_shape.nd rfl (Or.inl rfl)) (pgs_cons (pg_name (i := 4) sc_tell_shape.nd rfl (Or.inl rfl)) pgs_nil))) (pss_one (ps_dput (hu_of hr) (pv 2) (pe_fld (pv 4) rfl) (pv 3) rfl))) (pss_cons (ps_set (i := 5) sc_tell_shape.nd rfl (Or.inl rfl) (C8.pe_c c_tell_held hr (by decide) rfl (pa_cons (pv 0) (pa_cons (pv 2) pa_nil)))) (pss_cons (ps_for PassesOwn.never rfl (pi_list (pv 1)) (pg_name (i := 4) sc_tell_shape.nd rfl (Or.inl rfl)) (pss_one (ps_expr (pe_bm PySem.F.plainAttrs_list PySem.F.slot_list_extend PySem.F.type_list_extend mt_extend (pv 5) (pa_cons (C8.pe_c c_tell_cell hr (by decide) rfl (pa_cons (pv 4) (pa_cons (pv 2) pa_nil))) pa_nil))))) (pss_one (ps_ret (pv 5))))))), ?_⟩
    have hat : ∀ i ∈ l, ∃ c, s.at_ i = some c ∧ c ∈ s.cells ∧ c.id = i ∧ Safe s c := fun i hi => by
      obtain ⟨c, a, b, d⟩ := ok.safe i hi
      exact ⟨c, g.at_iff.mpr ⟨a, b⟩, a, b, d⟩
    have hslH : H sl = some (.lst (l.map (refI B))) := R.same sl _ hsl
    -- numbered = {}
    intro nd hnd
    have hnd0 : H0 nd = none := R.same.free hnd
    have R1 := R.fresh (o := .dK []) hnd
    have nns : sl ≠ nd := ne_of_none hslH hnd
    have hsl1 : (upd H nd (.dK [])) sl = some (.lst (l.map (refI B))) := by rw [upd_ne nns]; exact hslH
    -- for at, cell in enumerate(seen): numbered[cell.place] = at
    refine ⟨_, rfl, sl, _, rfl, SqL.of hsl1, for_enumL (K := K) (a := sl) (xs := l.map (refI B)) (fun k σ H2 => ∃ (kvs : Kd) (v3 v4 : Option V), σ = [some (vV (adB B) v), some (.ref sl), some (.ref nd), v3, v4, none] ∧ NumD kvs l (l.take k) ∧ kvs.length ≤ k ∧ RepA CC CS B (upd H0 nd (.dK kvs)) H2 s (idsS s) D)
      ⟨[], none, none, rfl, fun i hi => by simp at hi, Nat.zero_le _, R1⟩ (fun k σ H2 ⟨_, _, _, _, _, _, R2⟩ => SqL.of (R2.same sl _ (by rw [upd_ne nns]; exact hsl))) ?_ ?_⟩
    · rintro k x T2 σ H2 hk ⟨kvs, v3, v4, rfl, hnum, hkl, R2⟩ hT2
      rw [List.getElem?_map] at hk
      obtain ⟨j, hj, rfl⟩ := Option.map_eq_some_iff.mp hk
      obtain ⟨c, hc, hcm, hid, _⟩ := hat j (List.mem_of_getElem? hj)
      have R3 := R2.fresh (o := .tup [V.int (k : Nat), refI B j]) hT2
      have hT20 := R2.same.free hT2
      have nT : nd ≠ T2 := ne_of_none (R2.same nd _ upd_same) hT2
      have hnd3 : (upd H2 T2 (.tup [V.int (k : Nat), refI B j])) nd = some (.dK kvs) := by rw [upd_ne nT]; exact R2.same nd _ upd_same
      obtain ⟨dc, hcell⟩ := R3.cell hc
      have hklt : k < l.length := (List.getElem?_eq_some_iff.mp hj).1
      refine ⟨T2, _, rfl, SqT.of upd_same, rfl, ?_⟩
      refine ⟨_, _, rfl, _, _, rfl, rfl, ?_⟩
      refine ⟨_, rfl, _, rfl, _, rfl, B (.cell j), CC, dc, _, _, rfl, hcell, T.isC.cl, T.n_place, cf_place, nd, _, rfl, DPut.k (k := Sum.inl (c.id : Int)) hnd3 (by show kvs.length < 2 ^ 24; omega), ?_⟩
      rw [hid]
      refine ⟨putK kvs (Sum.inl (j : Int)) (V.int (k : Nat)), _, _, rfl, ?_, ?_, ?_⟩
      · intro i hi
        rw [take_more hj] at hi
        rw [valV_put]
        by_cases e : i = j
        · subst e
          rw [if_pos rfl]
          have : l.idxOf i = k := by
            have h1 := ok.nd
            have h2 : l[l.idxOf i]? = some i := by
              have hm : i ∈ l := List.mem_of_getElem? hj
              have hlt := List.idxOf_lt_length_of_mem hm
              rw [List.getElem?_eq_getElem hlt, List.getElem_idxOf]
            exact (List.getElem?_inj (List.idxOf_lt_length_of_mem (List.mem_of_getElem? hj)) h1).mp (h2.trans hj.symm)
          rw [this]
        · have ne : ¬ (Sum.inl (i : Int) : Key) = Sum.inl (j : Int) := fun z => e (by injection z with z; omega)
          rw [if_neg ne]
          refine hnum i ?_
          rcases List.mem_append.mp hi with h | h
          · exact h
          · rw [List.mem_singleton] at h
            exact absurd h e
      · have h1 := length_putK kvs (Sum.inl (j : Int)) (V.int (k : Nat))
        omega
      · have R4 := R3.tmp (p := nd) (o := .dK (putK kvs (Sum.inl (j : Int)) (V.int (k : Nat)))) (by rw [upd_ne nT]; exact upd_same)
        refine R4.weak ?_
        intro b u e
        by_cases z : b = nd
        · subst z
          rw [upd_same] at e ⊢
          exact e
        · rw [upd_ne z] at e ⊢
          have hb : b ≠ T2 := fun y => by
            rw [y] at e
            rw [upd_ne (Ne.symm nT)] at hT20
            rw [hT20] at e
            cases e
          rw [upd_ne hb, upd_ne z]
          exact e
    · rintro σ H2 ⟨kvs, v3, v4, rfl, hnum, hkl, R2⟩
      rw [List.length_map, List.take_length] at hnum
      have hsafeV : ∀ i, v = .cell i → SafeId s i := fun i e => ok.safe i (hin i e)
      -- told = tell_held(held, numbered)
      refine ⟨_, rfl, _, rfl, B, _, s, _, D, nd, kvs, l, v, rfl, upd_same, hnum, R2, safe_alive g hsafeV, hin, fun H3 tl htl R3 => ?_⟩
      have ntn : nd ≠ tl := fun z => by rw [← z, upd_same] at htl; cases htl
      have htl0 : H0 tl = none := by rw [upd_ne (Ne.symm ntn)] at htl; exact htl
      have hslE : ∀ o, (upd (upd H0 nd (.dK kvs)) tl o) sl = some (.lst (l.map (refI B))) := fun o => by
        have h1 : (upd H0 nd (.dK kvs)) sl = some (.lst (l.map (refI B))) := by rw [upd_ne nns]; exact hsl
        rw [upd_ne (ne_of_none h1 htl)]
        exact h1
      -- for cell in seen: told.extend(tell_cell(cell, numbered))
      refine ⟨_, rfl, sl, rfl, ⟨_, SqL.of (R3.same sl _ (hslE _))⟩,
        for_list (K := K) (a := sl) (xs := l.map (refI B)) (fun k σ H4 => ∃ v4 : Option V, σ = [some (vV (adB B) v), some (.ref sl), some (.ref nd), v3, v4, some (.ref tl)] ∧ RepA CC CS B (upd (upd H0 nd (.dK kvs)) tl (.lst ((Kg93.toldV l v ++ (l.take k).flatMap (toldI s l)).map V.int))) H4 s (idsS s) D)
        ⟨v4, rfl, by have e : Kg93.toldV l v ++ (l.take 0).flatMap (toldI s l) = Kg93.toldV l v := by simp
                     rw [e]
                     exact R3⟩ (fun k σ H4 _ ⟨_, _, R4⟩ => SqL.of (R4.same sl _ (hslE _))) ?_ ?_⟩
      · rintro k x σ H4 hk ⟨v4', rfl, R4⟩
        rw [List.getElem?_map] at hk
        obtain ⟨j, hj, rfl⟩ := Option.map_eq_some_iff.mp hk
        have hjm := List.mem_of_getElem? hj
        obtain ⟨c, hc, hcm, hid, hcs⟩ := hat j hjm
        have htl4 : H4 tl = some (.lst ((Kg93.toldV l v ++ (l.take k).flatMap (toldI s l)).map V.int)) := R4.same tl _ upd_same
        have eti : toldI s l j = toldC l c := by unfold toldI; rw [hc]
        have estep : Kg93.toldV l v ++ (l.take (k + 1)).flatMap (toldI s l) = Kg93.toldV l v ++ (l.take k).flatMap (toldI s l) ++ toldC l c := by
          rw [take_more hj, List.flatMap_append, List.append_assoc]
          congr 2
          simp [eti]
        have h6 := g.six hcm
        refine ⟨_, rfl, .inl ⟨rfl, _, SqL.of htl4⟩, _, rfl, _, rfl, B, _, s, _, D, nd, kvs, l, c, by rw [← hid]; rfl, by rw [upd_ne ntn]; exact upd_same, hnum, R4, g.atc hcm, fun y hy => safe_alive g fun i e => g.flds c hcm hcs i (e ▸ hy), fun hpl i hi => ?_, h6, fun H5 p hp R5 => ?_⟩
        · refine hclosed j hjm i ?_
          unfold keepsI
          rw [hc]
          exact keeps_mem.mpr ⟨hpl, hi⟩
        have hp5 : H5 p = some (.lst ((toldC l c).map V.int)) := R5.same p _ upd_same
        have npt : p ≠ tl := fun z => by rw [z, upd_same] at hp; cases hp
        have htl5 : H5 tl = some (.lst ((Kg93.toldV l v ++ (l.take k).flatMap (toldI s l)).map V.int)) := R5.same tl _ (by rw [upd_ne npt.symm]; exact upd_same)
        refine ⟨tl, p, _, _, rfl, rfl, htl5, hp5, ?_, ?_⟩
        · rw [List.length_map, List.length_map, List.length_append]
          have h1 := toldV_len l v
          have h2 : ((l.take k).flatMap (toldI s l)).length ≤ 14 * (l.take k).length := flatN_len (fun i => by
            unfold toldI
            cases e : s.at_ i with
            | none => simp
            | some d => exact toldC_len l (g.six (at_in e))) _
          have h3 := toldC_len l h6
          have h4 : (l.take k).length ≤ 60 := by rw [List.length_take]; omega
          show _ ≤ 2 ^ 24
          omega
        · refine ⟨_, rfl, ?_⟩
          rw [estep, List.map_append]
          exact grown R5 hp
      · rintro σ H4 ⟨v4', rfl, R4⟩
        rw [List.length_map, List.take_length] at R4
        refine ⟨_, rfl, cont H4 tl htl0 (R4.weak ?_)⟩
        intro b u e
        by_cases z : b = tl
        · subst z
          rw [upd_same] at e ⊢
          exact e
        · rw [upd_ne z] at e ⊢
          rw [upd_ne (ne_of_none e hnd0)]
          exact e
theorem cal_call_shape (F : Def K mg "call_shape" s_call_shape ["store", "numbers"]) (T : TxtT K mg CC CS) (c_cells_seen : Cal P w K mg base 3 "cells_seen" (sp_cells_seen CC CS)) (c_tell_shape : Cal P w K mg base 4 "tell_shape" (sp_tell_shape CC CS)) : Cal P w K mg base 5 "call_shape" (spC CC CS cShape) := by
  refine F.cal sc_call_shape (fun vs H Q E h => spC_len h) (fun f cdv A outer sh H vs Q E hr h => ?_)
  obtain ⟨B, H0, s, D, nl, ns, c, rfl, hnl, R, g, wd, hm, ⟨u, rfl, hu, rfl⟩, ret⟩ := h
  refine ⟨_, (pss_cons (ps_set (i := 2) sc_call_shape.nd rfl (Or.inl rfl) (pe_ix ix_list (pe_fld (pv 0) rfl) (pe_ix ix_list (pv 1) pe_int (fun _ _ => rfl)) (fun _ _ => rfl))) (pss_cons (ps_set (i := 3) sc_call_shape.nd rfl (Or.inl rfl) (C8.pe_c c_cells_seen hr (by decide) rfl (pa_cons (pv 2) pa_nil))) (pss_cons (ps_if (pt_cmpR op_gt (pe_callB call_len_seq (by rfl) T.b_len PySem.boot_len (pa_cons (pv 3) pa_nil)) (C8.pe_gc rfl T.k_MOST_SEEN) (nomark _)) (pss_one (ps_ret (pe_lst (pa_cons (C8.pe_gc rfl T.k_TOO_MANY_SEEN) pa_nil)))) pss_nil) (pss_one (ps_ret (pe_op op_cat (pe_lst (pa_cons (pe_callB call_len_seq (by rfl) T.b_len PySem.boot_len (pa_cons (pv 3) pa_nil)) pa_nil)) (C8.pe_c c_tell_shape hr (by decide) rfl (pa_cons (pv 2) (pa_cons (pv 3) pa_nil))))))))), ?_⟩
  have hnlH : H nl = some (.lst ([u].map V.int)) := R.same nl _ hnl
  obtain ⟨dx, sw, hsw, hst⟩ := R.store
  have es : Kg93.spec s (.shape u) = if 60 < (seenV s (s.var u.toNat)).length then (s, Kg93.num (-7)) else (s, ⟨((seenV s (s.var u.toNat)).length : Int), Kg93.toldV (seenV s (s.var u.toNat)) (s.var u.toNat) ++ (seenV s (s.var u.toNat)).flatMap (toldI s (seenV s (s.var u.toNat)))⟩) := by
    rw [← seen_var]
    show (match Kg93.var? u with | some u => _ | none => _) = _
    rw [var_some hu]
    rfl
  rw [es] at ret
  have hsafe : ∀ i, s.var u.toNat = .cell i → SafeId s i := fun i e => g.var_safe e
  refine ⟨_, rfl, B .store, CS, dx, _, _, rfl, hst, T.cS, T.m_variables, sf_variables, _, rfl, nl, _, _, _, rfl, rfl, SqL.of hnlH, rfl, B .vars, _, _, _, rfl, rfl, SqL.of R.vars, var_get g.v16 hu, ?_⟩
  have ok0 : SeenOk s (addOne [] (s.var u.toNat)) := SeenOk.one ⟨List.nodup_nil, fun i hi => nomatch hi⟩ hsafe
  have fo := follow_ok g s.cells.length (addOne [] (s.var u.toNat)) 0 ok0 (by omega) (fun j c hj => absurd hj (Nat.not_lt_zero j))
  have hin : ∀ i, s.var u.toNat = .cell i → i ∈ seenV s (s.var u.toNat) := fun i e => fo.2.1 i (by rw [e]; exact List.mem_singleton.mpr rfl)
  -- seen = cells_seen(held)
  refine ⟨_, rfl, B, H0, s, D, s.var u.toNat, rfl, R, g, by omega, hsafe, fun H1 sl hsl R1 => ?_⟩
  have hsl1 : H1 sl = some (.lst ((seenV s (s.var u.toNat)).map (refI B))) := R1.same sl _ upd_same
  refine ⟨_, rfl, sl, _, rfl, .inl (SqL.of hsl1), _, _, rfl, rfl, _, rfl, ?_⟩
  by_cases h60 : 60 < (seenV s (s.var u.toNat)).length
  · rw [if_pos h60] at ret
    refine ite2 (fun _ => ?_) (fun q => absurd (decide_eq_true (by show (60 : Int) < _; rw [List.length_map]; omega)) q)
    exact ⟨by show 1 ≤ 2 ^ 24; decide, fun p hp => ret.now rfl (R1.weak (same_upd hsl)) g wd hp rfl⟩
  · rw [if_neg h60] at ret
    refine ite2 (fun q => absurd (of_decide_eq_true q) (by show ¬ (60 : Int) < _; rw [List.length_map]; omega)) (fun _ => ?_)
    -- [len(seen)] + tell_shape(held, seen)
    refine ⟨_, rfl, sl, _, rfl, .inl (SqL.of hsl1), by show 1 ≤ 2 ^ 24; decide, fun l1 hl1 => ?_⟩
    have R2 := R1.fresh (o := .lst [V.int (((seenV s (s.var u.toNat)).map (refI B)).length : Nat)]) hl1
    have hl10 := R1.same.free hl1
    have n1 : sl ≠ l1 := ne_of_none hsl1 hl1
    refine ⟨_, rfl, _, rfl, B, _, s, D, sl, seenV s (s.var u.toNat), s.var u.toNat, rfl, by rw [upd_ne n1]; exact upd_same, R2, g, by omega, fo.1, fo.2.2, hin, fun H3 p3 hp3 R3 => ?_⟩
    have n3 : l1 ≠ p3 := fun z => by rw [← z, upd_same] at hp3; cases hp3
    have hl13 : H3 l1 = some (.lst [V.int (((seenV s (s.var u.toNat)).map (refI B)).length : Nat)]) := R3.same l1 _ (by rw [upd_ne n3]; exact upd_same)
    have hp33 := R3.same p3 _ upd_same
    refine ⟨l1, p3, _, _, rfl, rfl, hl13, hp33, ?_, fun p hp => ?_⟩
    · show 1 + (List.map V.int _).length ≤ 2 ^ 24
      rw [List.length_map, List.length_append]
      have h1 := toldV_len (seenV s (s.var u.toNat)) (s.var u.toNat)
      have h2 : ((seenV s (s.var u.toNat)).flatMap (toldI s (seenV s (s.var u.toNat)))).length ≤ 14 * (seenV s (s.var u.toNat)).length := flatN_len (fun i => by
        unfold toldI
        cases e : s.at_ i with
        | none => simp
        | some d => exact toldC_len _ (g.six (at_in e))) _
      omega
    have R4 := ((R3.weak (same_upd hp3)).weak (same_upd hl10)).weak (same_upd hsl)
    refine ret.now rfl R4 g wd hp ?_
    show V.int (((seenV s (s.var u.toNat)).map (refI B)).length : Nat) :: (_ : List V) = V.int ((seenV s (s.var u.toNat)).length : Int) :: _
    rw [List.length_map]
    rfl
end
end Gc
set_option Elab.async false
set_option maxRecDepth 100000
set_option maxHeartbeats 4000000
namespace Gc
open PySem PySem.Spec PyProof.Rows L2
/-! ### from which call to each call's own -/
theorem tt1 {a : Bool} (h : (a && true) = true) : a = true := by cases a <;> simp_all
theorem tt2 {a b : Bool} (h : (a && (b && true)) = true) : a = true ∧ b = true := by cases a <;> cases b <;> simp_all
theorem tt3 {a b c : Bool} (h : (a && (b && (c && true))) = true) : a = true ∧ b = true ∧ c = true := by cases a <;> cases b <;> cases c <;> simp_all
theorem cr_cell {ns : List Int} {k : Kg93.Call} (h : cr 1 ns k) : cCell ns k := by
  obtain ⟨h, hv, hl⟩ := h
  cases h with
  | cell v row => exact ⟨v, _, row, rfl, tt1 (a := isVar v) hv, by simp only [List.length_cons] at hl; omega, rfl⟩
theorem cr_num {ns : List Int} {k : Kg93.Call} (h : cr 2 ns k) : cNum ns k := by
  obtain ⟨h, hv, hl⟩ := h
  cases h with
  | num v z =>
    exact ⟨v, z, rfl, tt1 (a := isVar v) hv, rfl⟩
theorem cr_move {ns : List Int} {k : Kg93.Call} (h : cr 3 ns k) : cMove ns k := by
  obtain ⟨h, hv, hl⟩ := h
  cases h with
  | move v u =>
    obtain ⟨h1, h2⟩ := tt2 (a := isVar v) (b := isVar u) hv
    exact ⟨v, u, rfl, h1, h2, rfl⟩
theorem cr_clear {ns : List Int} {k : Kg93.Call} (h : cr 4 ns k) : cClear ns k := by
  obtain ⟨h, hv, hl⟩ := h
  cases h with
  | clear v =>
    exact ⟨v, rfl, tt1 (a := isVar v) hv, rfl⟩
theorem cr_get {ns : List Int} {k : Kg93.Call} (h : cr 5 ns k) : cGet ns k := by
  obtain ⟨h, hv, hl⟩ := h
  cases h with
  | get v u i =>
    obtain ⟨h1, h2⟩ := tt2 (a := isVar v) (b := isVar u) hv
    exact ⟨v, u, i, rfl, h1, h2, rfl⟩
theorem cr_set {ns : List Int} {k : Kg93.Call} (h : cr 6 ns k) : cSet ns k := by
  obtain ⟨h, hv, hl⟩ := h
  cases h with
  | set u i v =>
    obtain ⟨h1, h2⟩ := tt2 (a := isVar u) (b := isVar v) hv
    exact ⟨u, i, v, rfl, h1, h2, rfl⟩
theorem cr_weak {ns : List Int} {k : Kg93.Call} (h : cr 7 ns k) : cWeak ns k := by
  obtain ⟨h, hv, hl⟩ := h
  cases h with
  | weak v u =>
    obtain ⟨h1, h2⟩ := tt2 (a := isVar v) (b := isVar u) hv
    exact ⟨v, u, rfl, h1, h2, rfl⟩
theorem cr_held {ns : List Int} {k : Kg93.Call} (h : cr 8 ns k) : cHeld ns k := by
  obtain ⟨h, hv, hl⟩ := h
  cases h with
  | held v u =>
    obtain ⟨h1, h2⟩ := tt2 (a := isVar v) (b := isVar u) hv
    exact ⟨v, u, rfl, h1, h2, rfl⟩
theorem cr_keyed {ns : List Int} {k : Kg93.Call} (h : cr 9 ns k) : cKeyed ns k := by
  obtain ⟨h, hv, hl⟩ := h
  cases h with
  | keyed v a x =>
    obtain ⟨h1, h2, h3⟩ := tt3 (a := isVar v) (b := isVar a) (c := isVar x) hv
    exact ⟨v, a, x, rfl, h1, h2, h3, rfl⟩
theorem cr_found {ns : List Int} {k : Kg93.Call} (h : cr 10 ns k) : cFound ns k := by
  obtain ⟨h, hv, hl⟩ := h
  cases h with
  | found v u a =>
    obtain ⟨h1, h2, h3⟩ := tt3 (a := isVar v) (b := isVar u) (c := isVar a) hv
    exact ⟨v, u, a, rfl, h1, h2, h3, rfl⟩
theorem cr_last {ns : List Int} {k : Kg93.Call} (h : cr 11 ns k) : cLast ns k := by
  obtain ⟨h, hv, hl⟩ := h
  cases h with
  | last u z =>
    exact ⟨u, z, rfl, tt1 (a := isVar u) hv, rfl⟩
theorem cr_words {ns : List Int} {k : Kg93.Call} (h : cr 12 ns k) : cWords ns k := by
  obtain ⟨h, hv, hl⟩ := h
  cases h with
  | words  =>
    exact ⟨rfl, rfl⟩
theorem cr_young {ns : List Int} {k : Kg93.Call} (h : cr 13 ns k) : cYoung ns k := by
  obtain ⟨h, hv, hl⟩ := h
  cases h with
  | young  =>
    exact ⟨rfl, rfl⟩
theorem cr_slice {ns : List Int} {k : Kg93.Call} (h : cr 14 ns k) : cSlice ns k := by
  obtain ⟨h, hv, hl⟩ := h
  cases h with
  | slice n =>
    exact ⟨n, rfl, rfl⟩
theorem cr_counts {ns : List Int} {k : Kg93.Call} (h : cr 15 ns k) : cCounts ns k := by
  obtain ⟨h, hv, hl⟩ := h
  cases h with
  | counts  =>
    exact ⟨rfl, rfl⟩
theorem cr_shape {ns : List Int} {k : Kg93.Call} (h : cr 16 ns k) : cShape ns k := by
  obtain ⟨h, hv, hl⟩ := h
  cases h with
  | shape u =>
    exact ⟨u, rfl, tt1 (a := isVar u) hv, rfl⟩
theorem cr_same {ns : List Int} {k : Kg93.Call} (h : cr 17 ns k) : cSame ns k := by
  obtain ⟨h, hv, hl⟩ := h
  cases h with
  | same u v =>
    obtain ⟨h1, h2⟩ := tt2 (a := isVar u) (b := isVar v) hv
    exact ⟨u, v, rfl, h1, h2, rfl⟩
theorem spC_imp {CC CS : Addr} {c1 c2 : List Int → Kg93.Call → Prop} (h : ∀ ns k, c1 ns k → c2 ns k) : ∀ vs H Q E, spC CC CS c1 vs H Q E → spC CC CS c2 vs H Q E := by
  rintro vs H Q E ⟨B, H0, s, D, nl, ns, c, h1, h2, h3, h4, h5, h6, h7, h8⟩
  exact ⟨B, H0, s, D, nl, ns, c, h1, h2, h3, h4, h5, h6, h ns c h7, h8⟩
theorem held_of {P : Program} {w : World} {K : PySem.W.Frag} {mg : Str → Option Value} {base : Heap} {k : Nat} {x : Str} {sp sp' : Sp} {f : Addr} (c : Cal P w K mg base k x sp) (hm : mg x = some (.ref f)) (hk : k ≤ lvC) (h : ∀ vs H Q E, sp' vs H Q E → sp vs H Q E) : Held P w K mg base lvC f sp' := by
  obtain ⟨f', fd, ps, ds, F, hm', kp, b, d⟩ := c.ex
  have e : f = f' := by
    rw [hm] at hm'
    injection hm' with hm'
    injection hm'
  subst e
  cases d
  exact ⟨fd, ps, (F.imp h).mono hk, kp, b⟩
abbrev numsL : List (Int × V) := [(1, .int 2), (2, .int 2), (3, .int 2), (4, .int 1), (5, .int 3), (6, .int 3), (7, .int 2), (8, .int 2), (9, .int 3), (10, .int 3), (11, .int 2), (12, .int 0), (13, .int 0), (14, .int 1), (15, .int 0), (16, .int 1), (17, .int 2)]
def Dom17 (p : Int) : Prop := 1 ≤ p ∧ p ≤ 17
theorem num_ok {p : Int} {ns : List Int} {k : Kg93.Call} (h : KCall p ns k) : Dom17 p ∧ numsL.lookup p = some (.int (numOf p ns)) := by
  cases h <;> exact ⟨⟨by decide, by decide⟩, rfl⟩
theorem dom_cases {p : Int} (h : Dom17 p) : p = 1 ∨ p = 2 ∨ p = 3 ∨ p = 4 ∨ p = 5 ∨ p = 6 ∨ p = 7 ∨ p = 8 ∨ p = 9 ∨ p = 10 ∨ p = 11 ∨ p = 12 ∨ p = 13 ∨ p = 14 ∨ p = 15 ∨ p = 16 ∨ p = 17 := by
  unfold Dom17 at h
  omega

structure Defs (K : PySem.W.Frag) (mg : Str → Option Value) : Prop where
  is_cell : Def K mg "is_cell" s_is_cell ["held"]
  is_cell_of : Def K mg "is_cell_of" s_is_cell_of ["kind", "held"]
  is_young : Def K mg "is_young" s_is_young ["held"]
  is_white : Def K mg "is_white" s_is_white ["held"]
  count_young : Def K mg "count_young" s_count_young ["store"]
  add_cell : Def K mg "add_cell" s_add_cell ["store", "kind", "fields"]
  empty_cell : Def K mg "empty_cell" s_empty_cell ["cell"]
  tell_last_word : Def K mg "tell_last_word" s_tell_last_word ["store", "cell"]
  write_field : Def K mg "write_field" s_write_field ["store", "cell", "i", "held"]
  is_come_to : Def K mg "is_come_to" s_is_come_to ["held"]
  make_grey : Def K mg "make_grey" s_make_grey ["looked_at"]
  held_from_outside : Def K mg "held_from_outside" s_held_from_outside ["store"]
  looked_at_first : Def K mg "looked_at_first" s_looked_at_first ["store"]
  looked_at_again : Def K mg "looked_at_again" s_looked_at_again ["store"]
  begin_to_mark : Def K mg "begin_to_mark" s_begin_to_mark ["store"]
  begin_to_sweep : Def K mg "begin_to_sweep" s_begin_to_sweep ["store"]
  make_black : Def K mg "make_black" s_make_black ["cell"]
  mark_step : Def K mg "mark_step" s_mark_step ["store"]
  sweep_cell : Def K mg "sweep_cell" s_sweep_cell ["store", "cell"]
  sweep_step : Def K mg "sweep_step" s_sweep_step ["store"]
  work_slice : Def K mg "work_slice" s_work_slice ["store", "units"]
  see : Def K mg "see" s_see ["seen", "places", "held"]
  cells_seen : Def K mg "cells_seen" s_cells_seen ["held"]
  tell_held : Def K mg "tell_held" s_tell_held ["held", "numbered"]
  tell_cell : Def K mg "tell_cell" s_tell_cell ["cell", "numbered"]
  tell_shape : Def K mg "tell_shape" s_tell_shape ["held", "seen"]
  stays : Def K mg "stays" s_stays ["kept", "held"]
  held_at_first : Def K mg "held_at_first" s_held_at_first ["store"]
  keep_from : Def K mg "keep_from" s_keep_from ["kept", "waiting"]
  values_to_keep : Def K mg "values_to_keep" s_values_to_keep ["store", "kept"]
  find_kept : Def K mg "find_kept" s_find_kept ["store"]
  empty_if_gone : Def K mg "empty_if_gone" s_empty_if_gone ["kept", "cell"]
  colour_when_old : Def K mg "colour_when_old" s_colour_when_old ["store", "cell"]
  grow_up : Def K mg "grow_up" s_grow_up ["store", "cell"]
  is_to_be_remembered : Def K mg "is_to_be_remembered" s_is_to_be_remembered ["cell"]
  round_of_the_young : Def K mg "round_of_the_young" s_round_of_the_young ["store"]
  is_variable : Def K mg "is_variable" s_is_variable ["number"]
  may_be_held : Def K mg "may_be_held" s_may_be_held ["number"]
  is_full : Def K mg "is_full" s_is_full ["store"]
  count_old : Def K mg "count_old" s_count_old ["store"]
  count_remembered : Def K mg "count_remembered" s_count_remembered ["store"]
  count_coloured : Def K mg "count_coloured" s_count_coloured ["store", "colour"]
  make_room : Def K mg "make_room" s_make_room ["store"]
  make_cell : Def K mg "make_cell" s_make_cell ["store", "v", "kind", "fields"]
  is_field_told : Def K mg "is_field_told" s_is_field_told ["way", "number"]
  are_fields_told : Def K mg "are_fields_told" s_are_fields_told ["row"]
  told_field : Def K mg "told_field" s_told_field ["store", "way", "number"]
  told_fields : Def K mg "told_fields" s_told_fields ["store", "row"]
  field_refusal : Def K mg "field_refusal" s_field_refusal ["held", "i"]
  call_cell : Def K mg "call_cell" s_call_cell ["store", "numbers"]
  call_num : Def K mg "call_num" s_call_num ["store", "numbers"]
  call_move : Def K mg "call_move" s_call_move ["store", "numbers"]
  call_clear : Def K mg "call_clear" s_call_clear ["store", "numbers"]
  call_get : Def K mg "call_get" s_call_get ["store", "numbers"]
  call_set : Def K mg "call_set" s_call_set ["store", "numbers"]
  call_weak : Def K mg "call_weak" s_call_weak ["store", "numbers"]
  call_held : Def K mg "call_held" s_call_held ["store", "numbers"]
  call_keyed : Def K mg "call_keyed" s_call_keyed ["store", "numbers"]
  call_found : Def K mg "call_found" s_call_found ["store", "numbers"]
  call_last : Def K mg "call_last" s_call_last ["store", "numbers"]
  call_words : Def K mg "call_words" s_call_words ["store", "numbers"]
  call_young : Def K mg "call_young" s_call_young ["store", "numbers"]
  call_slice : Def K mg "call_slice" s_call_slice ["store", "numbers"]
  call_counts : Def K mg "call_counts" s_call_counts ["store", "numbers"]
  call_shape : Def K mg "call_shape" s_call_shape ["store", "numbers"]
  call_same : Def K mg "call_same" s_call_same ["store", "numbers"]
  end_of_call : Def K mg "end_of_call" s_end_of_call ["calls", "at"]
  answer_call : Def K mg "answer_call" s_answer_call ["store", "call"]
theorem all_ok {P : Program} {w : World} {K : PySem.W.Frag} {mg : Str → Option Value} {base : Heap} {CC CS dN dV dC : Addr} {t1 t2 t3 t4 t5 t6 t7 t8 t9 t10 t11 t12 t13 t14 t15 t16 t17 f1 f2 f3 f4 f5 f6 f7 f8 f9 f10 f11 f12 f13 f14 f15 f16 f17 : Addr} {fa : Addr} {fd : FuncData} (D : Defs K mg) (FA : Fun K "answers" "answers" s_answers fa fd)
    (mC : MDef K mg "Cell" "Cell.__init__" CC s_Cell___init__ ["self", "place", "kind", "fields"]) (mS : MDef K mg "Store" "Store.__init__" CS s_Store___init__ ["self"]) (T : TxtT K mg CC CS) (kR : KInt mg "CALL_WITH_ROW" 1)
    (wN : mg "NUMBERS" = some (.ref dN)) (dNN : WD K dN numsL) (wV : mg "VARIABLES_AT" = some (.ref dV)) (dVV : WD K dV [(1, .ref t1), (2, .ref t2), (3, .ref t3), (4, .ref t4), (5, .ref t5), (6, .ref t6), (7, .ref t7), (8, .ref t8), (9, .ref t9), (10, .ref t10), (11, .ref t11), (12, .ref t12), (13, .ref t13), (14, .ref t14), (15, .ref t15), (16, .ref t16), (17, .ref t17)]) (wC : mg "CALLS" = some (.ref dC)) (dCC : WD K dC [(1, .ref f1), (2, .ref f2), (3, .ref f3), (4, .ref f4), (5, .ref f5), (6, .ref f6), (7, .ref f7), (8, .ref f8), (9, .ref f9), (10, .ref f10), (11, .ref f11), (12, .ref f12), (13, .ref f13), (14, .ref f14), (15, .ref f15), (16, .ref f16), (17, .ref f17)])
    (ht1 : ∀ H, SqT K H t1 ([0].map V.int)) (ht2 : ∀ H, SqT K H t2 ([0].map V.int)) (ht3 : ∀ H, SqT K H t3 ([0, 1].map V.int)) (ht4 : ∀ H, SqT K H t4 ([0].map V.int)) (ht5 : ∀ H, SqT K H t5 ([0, 1].map V.int)) (ht6 : ∀ H, SqT K H t6 ([0, 2].map V.int)) (ht7 : ∀ H, SqT K H t7 ([0, 1].map V.int)) (ht8 : ∀ H, SqT K H t8 ([0, 1].map V.int)) (ht9 : ∀ H, SqT K H t9 ([0, 1, 2].map V.int)) (ht10 : ∀ H, SqT K H t10 ([0, 1, 2].map V.int)) (ht11 : ∀ H, SqT K H t11 ([0].map V.int)) (ht12 : ∀ H, SqT K H t12 ([].map V.int)) (ht13 : ∀ H, SqT K H t13 ([].map V.int)) (ht14 : ∀ H, SqT K H t14 ([].map V.int)) (ht15 : ∀ H, SqT K H t15 ([].map V.int)) (ht16 : ∀ H, SqT K H t16 ([0].map V.int)) (ht17 : ∀ H, SqT K H t17 ([0, 1].map V.int))
    (hf1 : mg "call_cell" = some (.ref f1)) (hf2 : mg "call_num" = some (.ref f2)) (hf3 : mg "call_move" = some (.ref f3)) (hf4 : mg "call_clear" = some (.ref f4)) (hf5 : mg "call_get" = some (.ref f5)) (hf6 : mg "call_set" = some (.ref f6)) (hf7 : mg "call_weak" = some (.ref f7)) (hf8 : mg "call_held" = some (.ref f8)) (hf9 : mg "call_keyed" = some (.ref f9)) (hf10 : mg "call_found" = some (.ref f10)) (hf11 : mg "call_last" = some (.ref f11)) (hf12 : mg "call_words" = some (.ref f12)) (hf13 : mg "call_young" = some (.ref f13)) (hf14 : mg "call_slice" = some (.ref f14)) (hf15 : mg "call_counts" = some (.ref f15)) (hf16 : mg "call_shape" = some (.ref f16)) (hf17 : mg "call_same" = some (.ref f17)) :
    FnOk P w K mg base CX0 (lvC + 2) fa fd ["calls"] (sp_answers K) := by
  have T1 : Txt K mg CC CS := T.toTxtS.toTxt
  have T2 : TxtS K mg CC CS := T.toTxtS
  have TD : TxtD K mg CC CS dN numsL := { T2 with k_CALL_WITH_ROW := kR, w_NUMBERS := wN, d_NUMBERS := dNN }
  have c_Cell := mak_Cell (P := P) (w := w) (base := base) mC T1
  have c_Store := mak_Store (P := P) (w := w) (base := base) mS T1
  have c_is_cell := cal_is_cell (P := P) (w := w) (base := base) D.is_cell T1 
  have c_is_cell_of := cal_is_cell_of (P := P) (w := w) (base := base) D.is_cell_of T1 (c_is_cell := c_is_cell)
  have c_is_young := cal_is_young (P := P) (w := w) (base := base) D.is_young T1 (c_is_cell := c_is_cell)
  have c_is_white := cal_is_white (P := P) (w := w) (base := base) D.is_white T1 (c_is_cell := c_is_cell)
  have c_count_young := cal_count_young (P := P) (w := w) (base := base) D.count_young T1 
  have c_add_cell := cal_add_cell (P := P) (w := w) (base := base) D.add_cell T1 (c_Cell := c_Cell)
  have c_empty_cell := cal_empty_cell (P := P) (w := w) (base := base) D.empty_cell T1 
  have c_tell_last_word := cal_tell_last_word (P := P) (w := w) (base := base) D.tell_last_word T1 
  have c_write_field := cal_write_field (P := P) (w := w) (base := base) D.write_field T1 (c_is_cell := c_is_cell) (c_is_white := c_is_white)
  have c_is_come_to := cal_is_come_to (P := P) (w := w) (base := base) D.is_come_to T1 (c_is_cell := c_is_cell) (c_is_white := c_is_white)
  have c_make_grey := cal_make_grey (P := P) (w := w) (base := base) D.make_grey T1 (c_is_white := c_is_white)
  have c_held_from_outside := cal_held_from_outside (P := P) (w := w) (base := base) D.held_from_outside T1 
  have c_looked_at_first := cal_looked_at_first (P := P) (w := w) (base := base) D.looked_at_first T1 (c_held_from_outside := c_held_from_outside) (c_is_young := c_is_young)
  have c_looked_at_again := cal_looked_at_again (P := P) (w := w) (base := base) D.looked_at_again T1 (c_held_from_outside := c_held_from_outside) (c_is_come_to := c_is_come_to)
  have c_begin_to_mark := cal_begin_to_mark (P := P) (w := w) (base := base) D.begin_to_mark T1 (c_looked_at_first := c_looked_at_first) (c_make_grey := c_make_grey)
  have c_begin_to_sweep := cal_begin_to_sweep (P := P) (w := w) (base := base) D.begin_to_sweep T1 (c_is_come_to := c_is_come_to) (c_is_white := c_is_white) (c_empty_cell := c_empty_cell)
  have c_make_black := cal_make_black (P := P) (w := w) (base := base) D.make_black T1 (c_make_grey := c_make_grey)
  have c_mark_step := cal_mark_step (P := P) (w := w) (base := base) D.mark_step T1 (c_make_black := c_make_black) (c_make_grey := c_make_grey) (c_looked_at_again := c_looked_at_again) (c_begin_to_sweep := c_begin_to_sweep)
  have c_sweep_cell := cal_sweep_cell (P := P) (w := w) (base := base) D.sweep_cell T1 (c_tell_last_word := c_tell_last_word)
  have c_sweep_step := cal_sweep_step (P := P) (w := w) (base := base) D.sweep_step T1 (c_sweep_cell := c_sweep_cell)
  have c_work_slice := cal_work_slice (P := P) (w := w) (base := base) D.work_slice T1 (c_begin_to_mark := c_begin_to_mark) (c_mark_step := c_mark_step) (c_sweep_step := c_sweep_step)
  have c_see := cal_see (P := P) (w := w) (base := base) D.see T1 (c_is_cell := c_is_cell)
  have c_cells_seen := cal_cells_seen (P := P) (w := w) (base := base) D.cells_seen T1 (c_see := c_see)
  have c_tell_held := cal_tell_held (P := P) (w := w) (base := base) D.tell_held T1 (c_is_cell := c_is_cell)
  have c_tell_cell := cal_tell_cell (P := P) (w := w) (base := base) D.tell_cell T1 (c_tell_held := c_tell_held)
  have c_tell_shape := cal_tell_shape (P := P) (w := w) (base := base) D.tell_shape T1 (c_tell_held := c_tell_held) (c_tell_cell := c_tell_cell)
  have c_stays := cal_stays (P := P) (w := w) (base := base) D.stays T1 (c_is_young := c_is_young)
  have c_held_at_first := cal_held_at_first (P := P) (w := w) (base := base) D.held_at_first T1 
  have c_keep_from := cal_keep_from (P := P) (w := w) (base := base) D.keep_from T1 (c_stays := c_stays)
  have c_values_to_keep := cal_values_to_keep (P := P) (w := w) (base := base) D.values_to_keep T1 (c_stays := c_stays)
  have c_find_kept := cal_find_kept (P := P) (w := w) (base := base) D.find_kept T1 (c_held_at_first := c_held_at_first) (c_keep_from := c_keep_from) (c_values_to_keep := c_values_to_keep)
  have c_empty_if_gone := cal_empty_if_gone (P := P) (w := w) (base := base) D.empty_if_gone T1 (c_stays := c_stays) (c_empty_cell := c_empty_cell)
  have c_colour_when_old := cal_colour_when_old (P := P) (w := w) (base := base) D.colour_when_old T1 
  have c_grow_up := cal_grow_up (P := P) (w := w) (base := base) D.grow_up T1 (c_colour_when_old := c_colour_when_old)
  have c_is_to_be_remembered := cal_is_to_be_remembered (P := P) (w := w) (base := base) D.is_to_be_remembered T1 (c_is_young := c_is_young)
  have c_round_of_the_young := cal_round_of_the_young (P := P) (w := w) (base := base) D.round_of_the_young T1 (c_find_kept := c_find_kept) (c_stays := c_stays) (c_tell_last_word := c_tell_last_word) (c_empty_if_gone := c_empty_if_gone) (c_grow_up := c_grow_up) (c_is_to_be_remembered := c_is_to_be_remembered)
  have c_is_variable := cal_is_variable (P := P) (w := w) (base := base) D.is_variable T2 
  have c_may_be_held := cal_may_be_held (P := P) (w := w) (base := base) D.may_be_held T2 
  have c_is_full := cal_is_full (P := P) (w := w) (base := base) D.is_full T2 
  have c_count_old := cal_count_old (P := P) (w := w) (base := base) D.count_old T2 (c_count_young := c_count_young)
  have c_count_remembered := cal_count_remembered (P := P) (w := w) (base := base) D.count_remembered T2 
  have c_count_coloured := cal_count_coloured (P := P) (w := w) (base := base) D.count_coloured T2 
  have c_make_room := cal_make_room (P := P) (w := w) (base := base) D.make_room T2 (c_count_young := c_count_young) (c_round_of_the_young := c_round_of_the_young)
  have c_make_cell := cal_make_cell (P := P) (w := w) (base := base) D.make_cell T2 (c_is_full := c_is_full) (c_make_room := c_make_room) (c_add_cell := c_add_cell)
  have c_is_field_told := cal_is_field_told (P := P) (w := w) (base := base) D.is_field_told T2 (c_may_be_held := c_may_be_held) (c_is_variable := c_is_variable)
  have c_are_fields_told := cal_are_fields_told (P := P) (w := w) (base := base) D.are_fields_told T2 (c_is_field_told := c_is_field_told)
  have c_told_field := cal_told_field (P := P) (w := w) (base := base) D.told_field T2 
  have c_told_fields := cal_told_fields (P := P) (w := w) (base := base) D.told_fields T2 (c_told_field := c_told_field)
  have c_field_refusal := cal_field_refusal (P := P) (w := w) (base := base) D.field_refusal T2 (c_is_cell_of := c_is_cell_of)
  have c_call_cell := cal_call_cell (P := P) (w := w) (base := base) D.call_cell T2 (c_are_fields_told := c_are_fields_told) (c_told_fields := c_told_fields) (c_make_cell := c_make_cell)
  have c_call_num := cal_call_num (P := P) (w := w) (base := base) D.call_num T2 (c_may_be_held := c_may_be_held)
  have c_call_move := cal_call_move (P := P) (w := w) (base := base) D.call_move T2 
  have c_call_clear := cal_call_clear (P := P) (w := w) (base := base) D.call_clear T2 
  have c_call_get := cal_call_get (P := P) (w := w) (base := base) D.call_get T2 (c_field_refusal := c_field_refusal) (c_is_cell := c_is_cell)
  have c_call_set := cal_call_set (P := P) (w := w) (base := base) D.call_set T2 (c_field_refusal := c_field_refusal) (c_write_field := c_write_field)
  have c_call_weak := cal_call_weak (P := P) (w := w) (base := base) D.call_weak T2 (c_is_cell := c_is_cell) (c_make_cell := c_make_cell)
  have c_call_held := cal_call_held (P := P) (w := w) (base := base) D.call_held T2 (c_is_cell_of := c_is_cell_of)
  have c_call_keyed := cal_call_keyed (P := P) (w := w) (base := base) D.call_keyed T2 (c_is_cell := c_is_cell) (c_make_cell := c_make_cell)
  have c_call_found := cal_call_found (P := P) (w := w) (base := base) D.call_found T2 (c_is_cell := c_is_cell) (c_is_cell_of := c_is_cell_of)
  have c_call_last := cal_call_last (P := P) (w := w) (base := base) D.call_last T2 (c_may_be_held := c_may_be_held) (c_is_cell := c_is_cell)
  have c_call_words := cal_call_words (P := P) (w := w) (base := base) D.call_words T2 
  have c_call_young := cal_call_young (P := P) (w := w) (base := base) D.call_young T2 (c_count_old := c_count_old) (c_count_young := c_count_young) (c_round_of_the_young := c_round_of_the_young)
  have c_call_slice := cal_call_slice (P := P) (w := w) (base := base) D.call_slice T (c_work_slice := c_work_slice)
  have c_call_counts := cal_call_counts (P := P) (w := w) (base := base) D.call_counts T2 (c_count_old := c_count_old) (c_count_young := c_count_young) (c_count_remembered := c_count_remembered) (c_count_coloured := c_count_coloured)
  have c_call_shape := cal_call_shape (P := P) (w := w) (base := base) D.call_shape T (c_cells_seen := c_cells_seen) (c_tell_shape := c_tell_shape)
  have c_call_same := cal_call_same (P := P) (w := w) (base := base) D.call_same T2 (c_is_cell := c_is_cell)
  have c_end_of_call := cal_end_of_call (P := P) (w := w) (base := base) D.end_of_call TD 
  have TB : Tab P w K mg base CC CS dV dC [(1, .ref t1), (2, .ref t2), (3, .ref t3), (4, .ref t4), (5, .ref t5), (6, .ref t6), (7, .ref t7), (8, .ref t8), (9, .ref t9), (10, .ref t10), (11, .ref t11), (12, .ref t12), (13, .ref t13), (14, .ref t14), (15, .ref t15), (16, .ref t16), (17, .ref t17)] [(1, .ref f1), (2, .ref f2), (3, .ref f3), (4, .ref f4), (5, .ref f5), (6, .ref f6), (7, .ref f7), (8, .ref f8), (9, .ref f9), (10, .ref f10), (11, .ref f11), (12, .ref f12), (13, .ref f13), (14, .ref f14), (15, .ref f15), (16, .ref f16), (17, .ref f17)] lvC Dom17 := by
    refine ⟨wV, dVV, wC, dCC, fun p hp => ?_, fun p hp => ?_⟩
    · rcases dom_cases hp with rfl | rfl | rfl | rfl | rfl | rfl | rfl | rfl | rfl | rfl | rfl | rfl | rfl | rfl | rfl | rfl | rfl
      · exact ⟨t1, rfl, ht1⟩
      · exact ⟨t2, rfl, ht2⟩
      · exact ⟨t3, rfl, ht3⟩
      · exact ⟨t4, rfl, ht4⟩
      · exact ⟨t5, rfl, ht5⟩
      · exact ⟨t6, rfl, ht6⟩
      · exact ⟨t7, rfl, ht7⟩
      · exact ⟨t8, rfl, ht8⟩
      · exact ⟨t9, rfl, ht9⟩
      · exact ⟨t10, rfl, ht10⟩
      · exact ⟨t11, rfl, ht11⟩
      · exact ⟨t12, rfl, ht12⟩
      · exact ⟨t13, rfl, ht13⟩
      · exact ⟨t14, rfl, ht14⟩
      · exact ⟨t15, rfl, ht15⟩
      · exact ⟨t16, rfl, ht16⟩
      · exact ⟨t17, rfl, ht17⟩
    · rcases dom_cases hp with rfl | rfl | rfl | rfl | rfl | rfl | rfl | rfl | rfl | rfl | rfl | rfl | rfl | rfl | rfl | rfl | rfl
      · exact ⟨f1, rfl, held_of c_call_cell hf1 (by decide) (spC_imp fun _ _ h => cr_cell h)⟩
      · exact ⟨f2, rfl, held_of c_call_num hf2 (by decide) (spC_imp fun _ _ h => cr_num h)⟩
      · exact ⟨f3, rfl, held_of c_call_move hf3 (by decide) (spC_imp fun _ _ h => cr_move h)⟩
      · exact ⟨f4, rfl, held_of c_call_clear hf4 (by decide) (spC_imp fun _ _ h => cr_clear h)⟩
      · exact ⟨f5, rfl, held_of c_call_get hf5 (by decide) (spC_imp fun _ _ h => cr_get h)⟩
      · exact ⟨f6, rfl, held_of c_call_set hf6 (by decide) (spC_imp fun _ _ h => cr_set h)⟩
      · exact ⟨f7, rfl, held_of c_call_weak hf7 (by decide) (spC_imp fun _ _ h => cr_weak h)⟩
      · exact ⟨f8, rfl, held_of c_call_held hf8 (by decide) (spC_imp fun _ _ h => cr_held h)⟩
      · exact ⟨f9, rfl, held_of c_call_keyed hf9 (by decide) (spC_imp fun _ _ h => cr_keyed h)⟩
      · exact ⟨f10, rfl, held_of c_call_found hf10 (by decide) (spC_imp fun _ _ h => cr_found h)⟩
      · exact ⟨f11, rfl, held_of c_call_last hf11 (by decide) (spC_imp fun _ _ h => cr_last h)⟩
      · exact ⟨f12, rfl, held_of c_call_words hf12 (by decide) (spC_imp fun _ _ h => cr_words h)⟩
      · exact ⟨f13, rfl, held_of c_call_young hf13 (by decide) (spC_imp fun _ _ h => cr_young h)⟩
      · exact ⟨f14, rfl, held_of c_call_slice hf14 (by decide) (spC_imp fun _ _ h => cr_slice h)⟩
      · exact ⟨f15, rfl, held_of c_call_counts hf15 (by decide) (spC_imp fun _ _ h => cr_counts h)⟩
      · exact ⟨f16, rfl, held_of c_call_shape hf16 (by decide) (spC_imp fun _ _ h => cr_shape h)⟩
      · exact ⟨f17, rfl, held_of c_call_same hf17 (by decide) (spC_imp fun _ _ h => cr_same h)⟩
  have TC : TxtC P w K mg base CC CS dV dC [(1, .ref t1), (2, .ref t2), (3, .ref t3), (4, .ref t4), (5, .ref t5), (6, .ref t6), (7, .ref t7), (8, .ref t8), (9, .ref t9), (10, .ref t10), (11, .ref t11), (12, .ref t12), (13, .ref t13), (14, .ref t14), (15, .ref t15), (16, .ref t16), (17, .ref t17)] [(1, .ref f1), (2, .ref f2), (3, .ref f3), (4, .ref f4), (5, .ref f5), (6, .ref f6), (7, .ref f7), (8, .ref f8), (9, .ref f9), (10, .ref f10), (11, .ref f11), (12, .ref f12), (13, .ref f13), (14, .ref f14), (15, .ref f15), (16, .ref f16), (17, .ref f17)] lvC Dom17 := { T2, TB with }
  have TA : TxtA P w K mg base CC CS numsL Dom17 := { T2 with num := fun p ns k h => num_ok h }
  have c_answer_call := cal_answer_call D.answer_call TC c_is_variable
  exact fn_answers FA TA c_Store c_end_of_call c_answer_call
theorem top_mk {K : PySem.W.Frag} {h : Heap} {mg : Str → Option Value} {C S : Addr} {i_VARIABLES i_PLAIN i_WEAK i_KEYED i_WHITE i_GREY i_BLACK i_RESTS i_MARKS i_SWEEPS i_MOST_HELD i_MOST_FIELDS i_MOST_CELLS i_YOUNG_FOR_A_ROUND i_MOST_ROUNDS i_NOT_AS_TOLD i_NO_SUCH_CELL i_NO_SUCH_FIELD i_NO_ROOM i_MOST_UNITS i_MOST_SEEN i_TOO_MANY_SEEN i_CALL_WITH_ROW : Tok} (X : K.In h) (G : h.Ns mainGlobals mg)
    (aC : PySem.W.nsIn K mainGlobals "Cell" = some (some (.ref C))) (aS : PySem.W.nsIn K mainGlobals "Store" = some (some (.ref S))) (pgC : PySem.W.plainGet K C Str.empty = true) (hdC : PySem.W.hasDictIn K C = true) (poC : PySem.W.plainOver K C = true) (saC : PySem.W.findIn K (.ref C) "__setattr__" = some (some (.builtin "object.__setattr__"))) (pgS : PySem.W.plainGet K S Str.empty = true) (hdS : PySem.W.hasDictIn K S = true) (poS : PySem.W.plainOver K S = true) (saS : PySem.W.findIn K (.ref S) "__setattr__" = some (some (.builtin "object.__setattr__"))) (haC : PySem.W.findIn K (.ref C) "__class__" = some (some (.builtin "object.__class__"))) (hnC : PySem.W.specialIn K (.builtin "object.__class__") "__get__" = some (some (.builtin "getset_descriptor.__get__"))) (htkC : PySem.W.takesIn K (.builtin "object.__class__") = some true) (hmC : PySem.W.mroIn K C (.type "object") = some true) (hmN : PySem.W.mroIn K C (.type "NoneType") = some false) (eqC : PySem.W.findIn K (.ref C) "__eq__" = some (some (.builtin "object.__eq__"))) (meC : PySem.W.kitOne K (.ref C) (.ref C) = some true) (niC : PySem.W.kitOne K (.type "NoneType") (.ref C) = some false) (iiC : PySem.W.kitOne K (.type "int") (.ref C) = some false) (n_place : PySem.W.findIn K (.ref C) "place" = some none) (n_kind : PySem.W.findIn K (.ref C) "kind" = some none) (n_fields : PySem.W.findIn K (.ref C) "fields" = some none) (n_word : PySem.W.findIn K (.ref C) "word" = some none) (n_young : PySem.W.findIn K (.ref C) "young" = some none) (n_seasoned : PySem.W.findIn K (.ref C) "seasoned" = some none) (n_colour : PySem.W.findIn K (.ref C) "colour" = some none) (n_remembered : PySem.W.findIn K (.ref C) "remembered" = some none) (m_variables : PySem.W.findIn K (.ref S) "variables" = some none) (m_cells : PySem.W.findIn K (.ref S) "cells" = some none) (m_made : PySem.W.findIn K (.ref S) "made" = some none) (m_phase : PySem.W.findIn K (.ref S) "phase" = some none) (m_swept : PySem.W.findIn K (.ref S) "swept" = some none) (m_told : PySem.W.findIn K (.ref S) "told" = some none) (b_isinstance : PySem.W.nsIn K mainGlobals "isinstance" = some none) (b_len : PySem.W.nsIn K mainGlobals "len" = some none) (b_any : PySem.W.nsIn K mainGlobals "any" = some none) (b_all : PySem.W.nsIn K mainGlobals "all" = some none) (b_range : PySem.W.nsIn K mainGlobals "range" = some none) (b_list : PySem.W.nsIn K mainGlobals "list" = some none) (b_enumerate : PySem.W.nsIn K mainGlobals "enumerate" = some none) (k_VARIABLES : PySem.W.nsIn K mainGlobals "VARIABLES" = some (some (.int (16) i_VARIABLES))) (k_PLAIN : PySem.W.nsIn K mainGlobals "PLAIN" = some (some (.int (0) i_PLAIN))) (k_WEAK : PySem.W.nsIn K mainGlobals "WEAK" = some (some (.int (1) i_WEAK))) (k_KEYED : PySem.W.nsIn K mainGlobals "KEYED" = some (some (.int (2) i_KEYED))) (k_WHITE : PySem.W.nsIn K mainGlobals "WHITE" = some (some (.int (0) i_WHITE))) (k_GREY : PySem.W.nsIn K mainGlobals "GREY" = some (some (.int (1) i_GREY))) (k_BLACK : PySem.W.nsIn K mainGlobals "BLACK" = some (some (.int (2) i_BLACK))) (k_RESTS : PySem.W.nsIn K mainGlobals "RESTS" = some (some (.int (0) i_RESTS))) (k_MARKS : PySem.W.nsIn K mainGlobals "MARKS" = some (some (.int (1) i_MARKS))) (k_SWEEPS : PySem.W.nsIn K mainGlobals "SWEEPS" = some (some (.int (2) i_SWEEPS))) (k_MOST_HELD : PySem.W.nsIn K mainGlobals "MOST_HELD" = some (some (.int (1000000000) i_MOST_HELD))) (k_MOST_FIELDS : PySem.W.nsIn K mainGlobals "MOST_FIELDS" = some (some (.int (6) i_MOST_FIELDS))) (k_MOST_CELLS : PySem.W.nsIn K mainGlobals "MOST_CELLS" = some (some (.int (150) i_MOST_CELLS))) (k_YOUNG_FOR_A_ROUND : PySem.W.nsIn K mainGlobals "YOUNG_FOR_A_ROUND" = some (some (.int (20) i_YOUNG_FOR_A_ROUND))) (k_MOST_ROUNDS : PySem.W.nsIn K mainGlobals "MOST_ROUNDS" = some (some (.int (2) i_MOST_ROUNDS))) (k_NOT_AS_TOLD : PySem.W.nsIn K mainGlobals "NOT_AS_TOLD" = some (some (.int (-1) i_NOT_AS_TOLD))) (k_NO_SUCH_CELL : PySem.W.nsIn K mainGlobals "NO_SUCH_CELL" = some (some (.int (-3) i_NO_SUCH_CELL))) (k_NO_SUCH_FIELD : PySem.W.nsIn K mainGlobals "NO_SUCH_FIELD" = some (some (.int (-4) i_NO_SUCH_FIELD))) (k_NO_ROOM : PySem.W.nsIn K mainGlobals "NO_ROOM" = some (some (.int (-6) i_NO_ROOM))) (k_MOST_UNITS : PySem.W.nsIn K mainGlobals "MOST_UNITS" = some (some (.int (1000) i_MOST_UNITS))) (k_MOST_SEEN : PySem.W.nsIn K mainGlobals "MOST_SEEN" = some (some (.int (60) i_MOST_SEEN))) (k_TOO_MANY_SEEN : PySem.W.nsIn K mainGlobals "TOO_MANY_SEEN" = some (some (.int (-7) i_TOO_MANY_SEEN))) (k_CALL_WITH_ROW : PySem.W.nsIn K mainGlobals "CALL_WITH_ROW" = some (some (.int (1) i_CALL_WITH_ROW))) : TxtT K mg C S ∧ KInt mg "CALL_WITH_ROW" 1 :=
  ⟨{ isC := ⟨⟨pgC, hdC, poC, saC⟩, haC, hnC, htkC, hmC, meC⟩
     eqC := ⟨hmC, hmN, eqC⟩
     cS := ⟨pgS, hdS, poS, saS⟩
     ni := niC
     ii := iiC
     g_Cell := PySem.W.mg_of X G aC
     g_Store := PySem.W.mg_of X G aS
     n_place := n_place
     n_kind := n_kind
     n_fields := n_fields
     n_word := n_word
     n_young := n_young
     n_seasoned := n_seasoned
     n_colour := n_colour
     n_remembered := n_remembered
     m_variables := m_variables
     m_cells := m_cells
     m_made := m_made
     m_phase := m_phase
     m_swept := m_swept
     m_told := m_told
     b_isinstance := PySem.W.mg_none_of X G b_isinstance
     b_len := PySem.W.mg_none_of X G b_len
     b_any := PySem.W.mg_none_of X G b_any
     b_all := PySem.W.mg_none_of X G b_all
     b_range := PySem.W.mg_none_of X G b_range
     b_list := PySem.W.mg_none_of X G b_list
     b_enumerate := PySem.W.mg_none_of X G b_enumerate
     k_VARIABLES := kint_mk X G k_VARIABLES
     k_PLAIN := kint_mk X G k_PLAIN
     k_WEAK := kint_mk X G k_WEAK
     k_KEYED := kint_mk X G k_KEYED
     k_WHITE := kint_mk X G k_WHITE
     k_GREY := kint_mk X G k_GREY
     k_BLACK := kint_mk X G k_BLACK
     k_RESTS := kint_mk X G k_RESTS
     k_MARKS := kint_mk X G k_MARKS
     k_SWEEPS := kint_mk X G k_SWEEPS
     k_MOST_HELD := kint_mk X G k_MOST_HELD
     k_MOST_FIELDS := kint_mk X G k_MOST_FIELDS
     k_MOST_CELLS := kint_mk X G k_MOST_CELLS
     k_YOUNG_FOR_A_ROUND := kint_mk X G k_YOUNG_FOR_A_ROUND
     k_MOST_ROUNDS := kint_mk X G k_MOST_ROUNDS
     k_NOT_AS_TOLD := kint_mk X G k_NOT_AS_TOLD
     k_NO_SUCH_CELL := kint_mk X G k_NO_SUCH_CELL
     k_NO_SUCH_FIELD := kint_mk X G k_NO_SUCH_FIELD
     k_NO_ROOM := kint_mk X G k_NO_ROOM
     k_MOST_UNITS := kint_mk X G k_MOST_UNITS
     k_MOST_SEEN := kint_mk X G k_MOST_SEEN
     k_TOO_MANY_SEEN := kint_mk X G k_TOO_MANY_SEEN
   }, kint_mk X G k_CALL_WITH_ROW⟩
theorem wd_mk {K : PySem.W.Frag} {d : Addr} {es : Array DictEntry} {n : Nat} {kvs : List (Int × V)} (l : K.lookup d = some ⟨.type "dict", none, .dict es n, #[]⟩) (h : wdB es kvs = true) : WD K d kvs := ⟨es, n, l, h⟩
theorem relAll_len : ∀ {vs : List V} {us : List Value}, He.relAll vs us = true → us.length = vs.length
  | [], [], _ => rfl
  | [], _ :: _, h => by cases h
  | _ :: _, [], h => by cases h
  | v :: vs, u :: us, h => by
    have h' : (He.relB v u && He.relAll vs us) = true := h
    rw [Bool.and_eq_true] at h'
    rw [List.length_cons, List.length_cons, relAll_len h'.2]
theorem sqt_mk {K : PySem.W.Frag} {t : Addr} {dd : Option Addr} {its : Array Value} {m : Nat} {sl : Array (Option Value)} {ns : List Int} (l : K.lookup t = some ⟨.type "tuple", dd, .seq its m, sl⟩) (r : He.relAll (ns.map V.int) its.toList = true) (hl : ns.length ≤ 3) : ∀ H, SqT K H t (ns.map V.int) := fun H => by
  refine .inr ⟨_, its, m, l, rfl, rfl, ?_, He.relAll_ok r⟩
  have := relAll_len r
  rw [Array.length_toList, List.length_map] at this
  rw [this]
  exact Nat.le_trans hl (by decide)
theorem bt_answers {K : PySem.W.Frag} {f : Addr} {fd : FuncData} (F : Fun K "answers" "answers" s_answers f fd) : ∀ (s : Shared) (us : List Value), us.length = (["calls"] : List Str).length → BindsTo s fd ⟨us, []⟩ ((["calls"] : List Str).zip us) := by
  obtain ⟨oc, od, kV, doc, pm, an, cdv, ct, osl, rfl, lk, hcd⟩ := F.ex
  exact fun s us hu => match us, hu with | [_], _ => .of_eq rfl
def entV (es : Array PySem.DictEntry) (p : Int) : Option PySem.Value := PySem.findBy L2.keyIs es (.inl p)
end Gc
set_option Elab.async false
set_option linter.unusedVariables false
namespace Gc
open PySem PySem.Spec PyProof.Rows L2
/-- the tables, in one -/
theorem tab_end {P : Program} {w : World} {K : PySem.W.Frag} {h : Heap} {mg : Str → Option Value} {C S dN dV dC : Addr} {t1 t2 t3 t4 t5 t6 t7 t8 t9 t10 t11 t12 t13 t14 t15 t16 t17 f1 f2 f3 f4 f5 f6 f7 f8 f9 f10 f11 f12 f13 f14 f15 f16 f17 : Addr} {esN esV esC : Array DictEntry} {nN nV nC : Nat} {dd1 : Option Addr} {its1 : Array Value} {m1 : Nat} {sl1 : Array (Option Value)} {dd2 : Option Addr} {its2 : Array Value} {m2 : Nat} {sl2 : Array (Option Value)} {dd3 : Option Addr} {its3 : Array Value} {m3 : Nat} {sl3 : Array (Option Value)} {dd4 : Option Addr} {its4 : Array Value} {m4 : Nat} {sl4 : Array (Option Value)} {dd5 : Option Addr} {its5 : Array Value} {m5 : Nat} {sl5 : Array (Option Value)} {dd6 : Option Addr} {its6 : Array Value} {m6 : Nat} {sl6 : Array (Option Value)} {dd7 : Option Addr} {its7 : Array Value} {m7 : Nat} {sl7 : Array (Option Value)} {dd8 : Option Addr} {its8 : Array Value} {m8 : Nat} {sl8 : Array (Option Value)} {dd9 : Option Addr} {its9 : Array Value} {m9 : Nat} {sl9 : Array (Option Value)} {dd10 : Option Addr} {its10 : Array Value} {m10 : Nat} {sl10 : Array (Option Value)} {dd11 : Option Addr} {its11 : Array Value} {m11 : Nat} {sl11 : Array (Option Value)} {dd12 : Option Addr} {its12 : Array Value} {m12 : Nat} {sl12 : Array (Option Value)} {dd13 : Option Addr} {its13 : Array Value} {m13 : Nat} {sl13 : Array (Option Value)} {dd14 : Option Addr} {its14 : Array Value} {m14 : Nat} {sl14 : Array (Option Value)} {dd15 : Option Addr} {its15 : Array Value} {m15 : Nat} {sl15 : Array (Option Value)} {dd16 : Option Addr} {its16 : Array Value} {m16 : Nat} {sl16 : Array (Option Value)} {dd17 : Option Addr} {its17 : Array Value} {m17 : Nat} {sl17 : Array (Option Value)} {fa : Addr} {fd : FuncData} (X : K.In h) (G : h.Ns mainGlobals mg)
    (D : Defs K mg) (FA : Fun K "answers" "answers" s_answers fa fd) (mC : MDef K mg "Cell" "Cell.__init__" C s_Cell___init__ ["self", "place", "kind", "fields"]) (mS : MDef K mg "Store" "Store.__init__" S s_Store___init__ ["self"]) (T : TxtT K mg C S ∧ KInt mg "CALL_WITH_ROW" 1)
    (aN : PySem.W.nsIn K mainGlobals "NUMBERS" = some (some (.ref dN))) (lN : K.lookup dN = some ⟨.type "dict", none, .dict esN nN, #[]⟩) (wN : wdB esN numsL = true)
    (aV : PySem.W.nsIn K mainGlobals "VARIABLES_AT" = some (some (.ref dV))) (lV : K.lookup dV = some ⟨.type "dict", none, .dict esV nV, #[]⟩)
    (v1 : entV esV 1 = some (.ref t1)) (l1 : K.lookup t1 = some ⟨.type "tuple", dd1, .seq its1 m1, sl1⟩) (r1 : He.relAll ([0].map V.int) its1.toList = true) (v2 : entV esV 2 = some (.ref t2)) (l2 : K.lookup t2 = some ⟨.type "tuple", dd2, .seq its2 m2, sl2⟩) (r2 : He.relAll ([0].map V.int) its2.toList = true) (v3 : entV esV 3 = some (.ref t3)) (l3 : K.lookup t3 = some ⟨.type "tuple", dd3, .seq its3 m3, sl3⟩) (r3 : He.relAll ([0, 1].map V.int) its3.toList = true) (v4 : entV esV 4 = some (.ref t4)) (l4 : K.lookup t4 = some ⟨.type "tuple", dd4, .seq its4 m4, sl4⟩) (r4 : He.relAll ([0].map V.int) its4.toList = true) (v5 : entV esV 5 = some (.ref t5)) (l5 : K.lookup t5 = some ⟨.type "tuple", dd5, .seq its5 m5, sl5⟩) (r5 : He.relAll ([0, 1].map V.int) its5.toList = true) (v6 : entV esV 6 = some (.ref t6)) (l6 : K.lookup t6 = some ⟨.type "tuple", dd6, .seq its6 m6, sl6⟩) (r6 : He.relAll ([0, 2].map V.int) its6.toList = true) (v7 : entV esV 7 = some (.ref t7)) (l7 : K.lookup t7 = some ⟨.type "tuple", dd7, .seq its7 m7, sl7⟩) (r7 : He.relAll ([0, 1].map V.int) its7.toList = true) (v8 : entV esV 8 = some (.ref t8)) (l8 : K.lookup t8 = some ⟨.type "tuple", dd8, .seq its8 m8, sl8⟩) (r8 : He.relAll ([0, 1].map V.int) its8.toList = true) (v9 : entV esV 9 = some (.ref t9)) (l9 : K.lookup t9 = some ⟨.type "tuple", dd9, .seq its9 m9, sl9⟩) (r9 : He.relAll ([0, 1, 2].map V.int) its9.toList = true) (v10 : entV esV 10 = some (.ref t10)) (l10 : K.lookup t10 = some ⟨.type "tuple", dd10, .seq its10 m10, sl10⟩) (r10 : He.relAll ([0, 1, 2].map V.int) its10.toList = true) (v11 : entV esV 11 = some (.ref t11)) (l11 : K.lookup t11 = some ⟨.type "tuple", dd11, .seq its11 m11, sl11⟩) (r11 : He.relAll ([0].map V.int) its11.toList = true) (v12 : entV esV 12 = some (.ref t12)) (l12 : K.lookup t12 = some ⟨.type "tuple", dd12, .seq its12 m12, sl12⟩) (r12 : He.relAll ([].map V.int) its12.toList = true) (v13 : entV esV 13 = some (.ref t13)) (l13 : K.lookup t13 = some ⟨.type "tuple", dd13, .seq its13 m13, sl13⟩) (r13 : He.relAll ([].map V.int) its13.toList = true) (v14 : entV esV 14 = some (.ref t14)) (l14 : K.lookup t14 = some ⟨.type "tuple", dd14, .seq its14 m14, sl14⟩) (r14 : He.relAll ([].map V.int) its14.toList = true) (v15 : entV esV 15 = some (.ref t15)) (l15 : K.lookup t15 = some ⟨.type "tuple", dd15, .seq its15 m15, sl15⟩) (r15 : He.relAll ([].map V.int) its15.toList = true) (v16 : entV esV 16 = some (.ref t16)) (l16 : K.lookup t16 = some ⟨.type "tuple", dd16, .seq its16 m16, sl16⟩) (r16 : He.relAll ([0].map V.int) its16.toList = true) (v17 : entV esV 17 = some (.ref t17)) (l17 : K.lookup t17 = some ⟨.type "tuple", dd17, .seq its17 m17, sl17⟩) (r17 : He.relAll ([0, 1].map V.int) its17.toList = true)
    (wV : wdB esV [(1, .ref t1), (2, .ref t2), (3, .ref t3), (4, .ref t4), (5, .ref t5), (6, .ref t6), (7, .ref t7), (8, .ref t8), (9, .ref t9), (10, .ref t10), (11, .ref t11), (12, .ref t12), (13, .ref t13), (14, .ref t14), (15, .ref t15), (16, .ref t16), (17, .ref t17)] = true)
    (aK : PySem.W.nsIn K mainGlobals "CALLS" = some (some (.ref dC))) (lK : K.lookup dC = some ⟨.type "dict", none, .dict esC nC, #[]⟩)
    (g1 : PySem.W.nsIn K mainGlobals "call_cell" = some (some (.ref f1))) (g2 : PySem.W.nsIn K mainGlobals "call_num" = some (some (.ref f2))) (g3 : PySem.W.nsIn K mainGlobals "call_move" = some (some (.ref f3))) (g4 : PySem.W.nsIn K mainGlobals "call_clear" = some (some (.ref f4))) (g5 : PySem.W.nsIn K mainGlobals "call_get" = some (some (.ref f5))) (g6 : PySem.W.nsIn K mainGlobals "call_set" = some (some (.ref f6))) (g7 : PySem.W.nsIn K mainGlobals "call_weak" = some (some (.ref f7))) (g8 : PySem.W.nsIn K mainGlobals "call_held" = some (some (.ref f8))) (g9 : PySem.W.nsIn K mainGlobals "call_keyed" = some (some (.ref f9))) (g10 : PySem.W.nsIn K mainGlobals "call_found" = some (some (.ref f10))) (g11 : PySem.W.nsIn K mainGlobals "call_last" = some (some (.ref f11))) (g12 : PySem.W.nsIn K mainGlobals "call_words" = some (some (.ref f12))) (g13 : PySem.W.nsIn K mainGlobals "call_young" = some (some (.ref f13))) (g14 : PySem.W.nsIn K mainGlobals "call_slice" = some (some (.ref f14))) (g15 : PySem.W.nsIn K mainGlobals "call_counts" = some (some (.ref f15))) (g16 : PySem.W.nsIn K mainGlobals "call_shape" = some (some (.ref f16))) (g17 : PySem.W.nsIn K mainGlobals "call_same" = some (some (.ref f17)))
    (wK : wdB esC [(1, .ref f1), (2, .ref f2), (3, .ref f3), (4, .ref f4), (5, .ref f5), (6, .ref f6), (7, .ref f7), (8, .ref f8), (9, .ref f9), (10, .ref f10), (11, .ref f11), (12, .ref f12), (13, .ref f13), (14, .ref f14), (15, .ref f15), (16, .ref f16), (17, .ref f17)] = true) (base : Heap) : FnOk P w K mg base CX0 (lvC + 2) fa fd ["calls"] (sp_answers K) :=
  all_ok D FA mC mS T.1 T.2 (PySem.W.mg_of X G aN) (wd_mk lN wN) (PySem.W.mg_of X G aV) (wd_mk lV wV) (PySem.W.mg_of X G aK) (wd_mk lK wK)
    (sqt_mk l1 r1 (by decide)) (sqt_mk l2 r2 (by decide)) (sqt_mk l3 r3 (by decide)) (sqt_mk l4 r4 (by decide)) (sqt_mk l5 r5 (by decide)) (sqt_mk l6 r6 (by decide)) (sqt_mk l7 r7 (by decide)) (sqt_mk l8 r8 (by decide)) (sqt_mk l9 r9 (by decide)) (sqt_mk l10 r10 (by decide)) (sqt_mk l11 r11 (by decide)) (sqt_mk l12 r12 (by decide)) (sqt_mk l13 r13 (by decide)) (sqt_mk l14 r14 (by decide)) (sqt_mk l15 r15 (by decide)) (sqt_mk l16 r16 (by decide)) (sqt_mk l17 r17 (by decide))
    (PySem.W.mg_of X G g1) (PySem.W.mg_of X G g2) (PySem.W.mg_of X G g3) (PySem.W.mg_of X G g4) (PySem.W.mg_of X G g5) (PySem.W.mg_of X G g6) (PySem.W.mg_of X G g7) (PySem.W.mg_of X G g8) (PySem.W.mg_of X G g9) (PySem.W.mg_of X G g10) (PySem.W.mg_of X G g11) (PySem.W.mg_of X G g12) (PySem.W.mg_of X G g13) (PySem.W.mg_of X G g14) (PySem.W.mg_of X G g15) (PySem.W.mg_of X G g16) (PySem.W.mg_of X G g17)
theorem with_top {A : Prop} {Goal : Prop} (a : A) (next : A → Goal) : Goal := next a
end Gc
open PySem PySem.W PyProof.Rows
set_option maxRecDepth 100000 in
set_option maxHeartbeats 0 in
theorem PySem.Challenge.cw_letgostore_s01_answers_holds : PySem.Challenge.rw_letgostore_s01_answers.Holds := by
  w_on; k_headS; (case hw => exact ⟨[.list [.int 4, .int 0]], by decide +kernel, by decide +kernel⟩)
  k_fillS
  refine L2.walk_specK (r := PySem.Challenge.rw_letgostore_s01_answers) (k := 11) (CX := L2.CX0) (ps := ["calls"]) (sp := Gc.sp_answers) (by decide +kernel) rfl rfl ⟨rfl, by decide, by decide⟩ (fun w h Y => PySem.W.kIn_of Y) ?F ?S (fun _ _ _ _ z => z)
  case F =>
    intro w mg fa h Y KX G hmg
    refine' Gc.with_def (x := "is_cell") (st := Gc.s_is_cell) (ps := ["held"]) KX G ?a_is_cell ?l_is_cell ?c_is_cell ?k_is_cell (fun _ _ _ _ _ _ us hl => match us, hl with | [_], _ => rfl) (fun D_is_cell => ?n_is_cell)
    (case a_is_cell => k_is); (case l_is_cell => k_is); (case c_is_cell => k_is); (case k_is_cell => k_is)
    refine' Gc.with_def (x := "is_cell_of") (st := Gc.s_is_cell_of) (ps := ["kind", "held"]) KX G ?a_is_cell_of ?l_is_cell_of ?c_is_cell_of ?k_is_cell_of (fun _ _ _ _ _ _ us hl => match us, hl with | [_, _], _ => rfl) (fun D_is_cell_of => ?n_is_cell_of)
    (case a_is_cell_of => k_is); (case l_is_cell_of => k_is); (case c_is_cell_of => k_is); (case k_is_cell_of => k_is)
    refine' Gc.with_def (x := "is_young") (st := Gc.s_is_young) (ps := ["held"]) KX G ?a_is_young ?l_is_young ?c_is_young ?k_is_young (fun _ _ _ _ _ _ us hl => match us, hl with | [_], _ => rfl) (fun D_is_young => ?n_is_young)
    (case a_is_young => k_is); (case l_is_young => k_is); (case c_is_young => k_is); (case k_is_young => k_is)
    refine' Gc.with_def (x := "is_white") (st := Gc.s_is_white) (ps := ["held"]) KX G ?a_is_white ?l_is_white ?c_is_white ?k_is_white (fun _ _ _ _ _ _ us hl => match us, hl with | [_], _ => rfl) (fun D_is_white => ?n_is_white)
    (case a_is_white => k_is); (case l_is_white => k_is); (case c_is_white => k_is); (case k_is_white => k_is)
    refine' Gc.with_def (x := "count_young") (st := Gc.s_count_young) (ps := ["store"]) KX G ?a_count_young ?l_count_young ?c_count_young ?k_count_young (fun _ _ _ _ _ _ us hl => match us, hl with | [_], _ => rfl) (fun D_count_young => ?n_count_young)
    (case a_count_young => k_is); (case l_count_young => k_is); (case c_count_young => k_is); (case k_count_young => k_is)
    refine' Gc.with_def (x := "add_cell") (st := Gc.s_add_cell) (ps := ["store", "kind", "fields"]) KX G ?a_add_cell ?l_add_cell ?c_add_cell ?k_add_cell (fun _ _ _ _ _ _ us hl => match us, hl with | [_, _, _], _ => rfl) (fun D_add_cell => ?n_add_cell)
    (case a_add_cell => k_is); (case l_add_cell => k_is); (case c_add_cell => k_is); (case k_add_cell => k_is)
    refine' Gc.with_def (x := "empty_cell") (st := Gc.s_empty_cell) (ps := ["cell"]) KX G ?a_empty_cell ?l_empty_cell ?c_empty_cell ?k_empty_cell (fun _ _ _ _ _ _ us hl => match us, hl with | [_], _ => rfl) (fun D_empty_cell => ?n_empty_cell)
    (case a_empty_cell => k_is); (case l_empty_cell => k_is); (case c_empty_cell => k_is); (case k_empty_cell => k_is)
    refine' Gc.with_def (x := "tell_last_word") (st := Gc.s_tell_last_word) (ps := ["store", "cell"]) KX G ?a_tell_last_word ?l_tell_last_word ?c_tell_last_word ?k_tell_last_word (fun _ _ _ _ _ _ us hl => match us, hl with | [_, _], _ => rfl) (fun D_tell_last_word => ?n_tell_last_word)
    (case a_tell_last_word => k_is); (case l_tell_last_word => k_is); (case c_tell_last_word => k_is); (case k_tell_last_word => k_is)
    refine' Gc.with_def (x := "write_field") (st := Gc.s_write_field) (ps := ["store", "cell", "i", "held"]) KX G ?a_write_field ?l_write_field ?c_write_field ?k_write_field (fun _ _ _ _ _ _ us hl => match us, hl with | [_, _, _, _], _ => rfl) (fun D_write_field => ?n_write_field)
    (case a_write_field => k_is); (case l_write_field => k_is); (case c_write_field => k_is); (case k_write_field => k_is)
    refine' Gc.with_def (x := "is_come_to") (st := Gc.s_is_come_to) (ps := ["held"]) KX G ?a_is_come_to ?l_is_come_to ?c_is_come_to ?k_is_come_to (fun _ _ _ _ _ _ us hl => match us, hl with | [_], _ => rfl) (fun D_is_come_to => ?n_is_come_to)
    (case a_is_come_to => k_is); (case l_is_come_to => k_is); (case c_is_come_to => k_is); (case k_is_come_to => k_is)
    refine' Gc.with_def (x := "make_grey") (st := Gc.s_make_grey) (ps := ["looked_at"]) KX G ?a_make_grey ?l_make_grey ?c_make_grey ?k_make_grey (fun _ _ _ _ _ _ us hl => match us, hl with | [_], _ => rfl) (fun D_make_grey => ?n_make_grey)
    (case a_make_grey => k_is); (case l_make_grey => k_is); (case c_make_grey => k_is); (case k_make_grey => k_is)
    refine' Gc.with_def (x := "held_from_outside") (st := Gc.s_held_from_outside) (ps := ["store"]) KX G ?a_held_from_outside ?l_held_from_outside ?c_held_from_outside ?k_held_from_outside (fun _ _ _ _ _ _ us hl => match us, hl with | [_], _ => rfl) (fun D_held_from_outside => ?n_held_from_outside)
    (case a_held_from_outside => k_is); (case l_held_from_outside => k_is); (case c_held_from_outside => k_is); (case k_held_from_outside => k_is)
    refine' Gc.with_def (x := "looked_at_first") (st := Gc.s_looked_at_first) (ps := ["store"]) KX G ?a_looked_at_first ?l_looked_at_first ?c_looked_at_first ?k_looked_at_first (fun _ _ _ _ _ _ us hl => match us, hl with | [_], _ => rfl) (fun D_looked_at_first => ?n_looked_at_first)
    (case a_looked_at_first => k_is); (case l_looked_at_first => k_is); (case c_looked_at_first => k_is); (case k_looked_at_first => k_is)
    refine' Gc.with_def (x := "looked_at_again") (st := Gc.s_looked_at_again) (ps := ["store"]) KX G ?a_looked_at_again ?l_looked_at_again ?c_looked_at_again ?k_looked_at_again (fun _ _ _ _ _ _ us hl => match us, hl with | [_], _ => rfl) (fun D_looked_at_again => ?n_looked_at_again)
    (case a_looked_at_again => k_is); (case l_looked_at_again => k_is); (case c_looked_at_again => k_is); (case k_looked_at_again => k_is)
    refine' Gc.with_def (x := "begin_to_mark") (st := Gc.s_begin_to_mark) (ps := ["store"]) KX G ?a_begin_to_mark ?l_begin_to_mark ?c_begin_to_mark ?k_begin_to_mark (fun _ _ _ _ _ _ us hl => match us, hl with | [_], _ => rfl) (fun D_begin_to_mark => ?n_begin_to_mark)
    (case a_begin_to_mark => k_is); (case l_begin_to_mark => k_is); (case c_begin_to_mark => k_is); (case k_begin_to_mark => k_is)
    refine' Gc.with_def (x := "begin_to_sweep") (st := Gc.s_begin_to_sweep) (ps := ["store"]) KX G ?a_begin_to_sweep ?l_begin_to_sweep ?c_begin_to_sweep ?k_begin_to_sweep (fun _ _ _ _ _ _ us hl => match us, hl with | [_], _ => rfl) (fun D_begin_to_sweep => ?n_begin_to_sweep)
    (case a_begin_to_sweep => k_is); (case l_begin_to_sweep => k_is); (case c_begin_to_sweep => k_is); (case k_begin_to_sweep => k_is)
    refine' Gc.with_def (x := "make_black") (st := Gc.s_make_black) (ps := ["cell"]) KX G ?a_make_black ?l_make_black ?c_make_black ?k_make_black (fun _ _ _ _ _ _ us hl => match us, hl with | [_], _ => rfl) (fun D_make_black => ?n_make_black)
    (case a_make_black => k_is); (case l_make_black => k_is); (case c_make_black => k_is); (case k_make_black => k_is)
    refine' Gc.with_def (x := "mark_step") (st := Gc.s_mark_step) (ps := ["store"]) KX G ?a_mark_step ?l_mark_step ?c_mark_step ?k_mark_step (fun _ _ _ _ _ _ us hl => match us, hl with | [_], _ => rfl) (fun D_mark_step => ?n_mark_step)
    (case a_mark_step => k_is); (case l_mark_step => k_is); (case c_mark_step => k_is); (case k_mark_step => k_is)
    refine' Gc.with_def (x := "sweep_cell") (st := Gc.s_sweep_cell) (ps := ["store", "cell"]) KX G ?a_sweep_cell ?l_sweep_cell ?c_sweep_cell ?k_sweep_cell (fun _ _ _ _ _ _ us hl => match us, hl with | [_, _], _ => rfl) (fun D_sweep_cell => ?n_sweep_cell)
    (case a_sweep_cell => k_is); (case l_sweep_cell => k_is); (case c_sweep_cell => k_is); (case k_sweep_cell => k_is)
    refine' Gc.with_def (x := "sweep_step") (st := Gc.s_sweep_step) (ps := ["store"]) KX G ?a_sweep_step ?l_sweep_step ?c_sweep_step ?k_sweep_step (fun _ _ _ _ _ _ us hl => match us, hl with | [_], _ => rfl) (fun D_sweep_step => ?n_sweep_step)
    (case a_sweep_step => k_is); (case l_sweep_step => k_is); (case c_sweep_step => k_is); (case k_sweep_step => k_is)
    refine' Gc.with_def (x := "work_slice") (st := Gc.s_work_slice) (ps := ["store", "units"]) KX G ?a_work_slice ?l_work_slice ?c_work_slice ?k_work_slice (fun _ _ _ _ _ _ us hl => match us, hl with | [_, _], _ => rfl) (fun D_work_slice => ?n_work_slice)
    (case a_work_slice => k_is); (case l_work_slice => k_is); (case c_work_slice => k_is); (case k_work_slice => k_is)
    refine' Gc.with_def (x := "see") (st := Gc.s_see) (ps := ["seen", "places", "held"]) KX G ?a_see ?l_see ?c_see ?k_see (fun _ _ _ _ _ _ us hl => match us, hl with | [_, _, _], _ => rfl) (fun D_see => ?n_see)
    (case a_see => k_is); (case l_see => k_is); (case c_see => k_is); (case k_see => k_is)
    refine' Gc.with_def (x := "cells_seen") (st := Gc.s_cells_seen) (ps := ["held"]) KX G ?a_cells_seen ?l_cells_seen ?c_cells_seen ?k_cells_seen (fun _ _ _ _ _ _ us hl => match us, hl with | [_], _ => rfl) (fun D_cells_seen => ?n_cells_seen)
    (case a_cells_seen => k_is); (case l_cells_seen => k_is); (case c_cells_seen => k_is); (case k_cells_seen => k_is)
    refine' Gc.with_def (x := "tell_held") (st := Gc.s_tell_held) (ps := ["held", "numbered"]) KX G ?a_tell_held ?l_tell_held ?c_tell_held ?k_tell_held (fun _ _ _ _ _ _ us hl => match us, hl with | [_, _], _ => rfl) (fun D_tell_held => ?n_tell_held)
    (case a_tell_held => k_is); (case l_tell_held => k_is); (case c_tell_held => k_is); (case k_tell_held => k_is)
    refine' Gc.with_def (x := "tell_cell") (st := Gc.s_tell_cell) (ps := ["cell", "numbered"]) KX G ?a_tell_cell ?l_tell_cell ?c_tell_cell ?k_tell_cell (fun _ _ _ _ _ _ us hl => match us, hl with | [_, _], _ => rfl) (fun D_tell_cell => ?n_tell_cell)
    (case a_tell_cell => k_is); (case l_tell_cell => k_is); (case c_tell_cell => k_is); (case k_tell_cell => k_is)
    refine' Gc.with_def (x := "tell_shape") (st := Gc.s_tell_shape) (ps := ["held", "seen"]) KX G ?a_tell_shape ?l_tell_shape ?c_tell_shape ?k_tell_shape (fun _ _ _ _ _ _ us hl => match us, hl with | [_, _], _ => rfl) (fun D_tell_shape => ?n_tell_shape)
    (case a_tell_shape => k_is); (case l_tell_shape => k_is); (case c_tell_shape => k_is); (case k_tell_shape => k_is)
    refine' Gc.with_def (x := "stays") (st := Gc.s_stays) (ps := ["kept", "held"]) KX G ?a_stays ?l_stays ?c_stays ?k_stays (fun _ _ _ _ _ _ us hl => match us, hl with | [_, _], _ => rfl) (fun D_stays => ?n_stays)
    (case a_stays => k_is); (case l_stays => k_is); (case c_stays => k_is); (case k_stays => k_is)
    refine' Gc.with_def (x := "held_at_first") (st := Gc.s_held_at_first) (ps := ["store"]) KX G ?a_held_at_first ?l_held_at_first ?c_held_at_first ?k_held_at_first (fun _ _ _ _ _ _ us hl => match us, hl with | [_], _ => rfl) (fun D_held_at_first => ?n_held_at_first)
    (case a_held_at_first => k_is); (case l_held_at_first => k_is); (case c_held_at_first => k_is); (case k_held_at_first => k_is)
    refine' Gc.with_def (x := "keep_from") (st := Gc.s_keep_from) (ps := ["kept", "waiting"]) KX G ?a_keep_from ?l_keep_from ?c_keep_from ?k_keep_from (fun _ _ _ _ _ _ us hl => match us, hl with | [_, _], _ => rfl) (fun D_keep_from => ?n_keep_from)
    (case a_keep_from => k_is); (case l_keep_from => k_is); (case c_keep_from => k_is); (case k_keep_from => k_is)
    refine' Gc.with_def (x := "values_to_keep") (st := Gc.s_values_to_keep) (ps := ["store", "kept"]) KX G ?a_values_to_keep ?l_values_to_keep ?c_values_to_keep ?k_values_to_keep (fun _ _ _ _ _ _ us hl => match us, hl with | [_, _], _ => rfl) (fun D_values_to_keep => ?n_values_to_keep)
    (case a_values_to_keep => k_is); (case l_values_to_keep => k_is); (case c_values_to_keep => k_is); (case k_values_to_keep => k_is)
    refine' Gc.with_def (x := "find_kept") (st := Gc.s_find_kept) (ps := ["store"]) KX G ?a_find_kept ?l_find_kept ?c_find_kept ?k_find_kept (fun _ _ _ _ _ _ us hl => match us, hl with | [_], _ => rfl) (fun D_find_kept => ?n_find_kept)
    (case a_find_kept => k_is); (case l_find_kept => k_is); (case c_find_kept => k_is); (case k_find_kept => k_is)
    refine' Gc.with_def (x := "empty_if_gone") (st := Gc.s_empty_if_gone) (ps := ["kept", "cell"]) KX G ?a_empty_if_gone ?l_empty_if_gone ?c_empty_if_gone ?k_empty_if_gone (fun _ _ _ _ _ _ us hl => match us, hl with | [_, _], _ => rfl) (fun D_empty_if_gone => ?n_empty_if_gone)
    (case a_empty_if_gone => k_is); (case l_empty_if_gone => k_is); (case c_empty_if_gone => k_is); (case k_empty_if_gone => k_is)
    refine' Gc.with_def (x := "colour_when_old") (st := Gc.s_colour_when_old) (ps := ["store", "cell"]) KX G ?a_colour_when_old ?l_colour_when_old ?c_colour_when_old ?k_colour_when_old (fun _ _ _ _ _ _ us hl => match us, hl with | [_, _], _ => rfl) (fun D_colour_when_old => ?n_colour_when_old)
    (case a_colour_when_old => k_is); (case l_colour_when_old => k_is); (case c_colour_when_old => k_is); (case k_colour_when_old => k_is)
    refine' Gc.with_def (x := "grow_up") (st := Gc.s_grow_up) (ps := ["store", "cell"]) KX G ?a_grow_up ?l_grow_up ?c_grow_up ?k_grow_up (fun _ _ _ _ _ _ us hl => match us, hl with | [_, _], _ => rfl) (fun D_grow_up => ?n_grow_up)
    (case a_grow_up => k_is); (case l_grow_up => k_is); (case c_grow_up => k_is); (case k_grow_up => k_is)
    refine' Gc.with_def (x := "is_to_be_remembered") (st := Gc.s_is_to_be_remembered) (ps := ["cell"]) KX G ?a_is_to_be_remembered ?l_is_to_be_remembered ?c_is_to_be_remembered ?k_is_to_be_remembered (fun _ _ _ _ _ _ us hl => match us, hl with | [_], _ => rfl) (fun D_is_to_be_remembered => ?n_is_to_be_remembered)
    (case a_is_to_be_remembered => k_is); (case l_is_to_be_remembered => k_is); (case c_is_to_be_remembered => k_is); (case k_is_to_be_remembered => k_is)
    refine' Gc.with_def (x := "round_of_the_young") (st := Gc.s_round_of_the_young) (ps := ["store"]) KX G ?a_round_of_the_young ?l_round_of_the_young ?c_round_of_the_young ?k_round_of_the_young (fun _ _ _ _ _ _ us hl => match us, hl with | [_], _ => rfl) (fun D_round_of_the_young => ?n_round_of_the_young)
    (case a_round_of_the_young => k_is); (case l_round_of_the_young => k_is); (case c_round_of_the_young => k_is); (case k_round_of_the_young => k_is)
    refine' Gc.with_def (x := "is_variable") (st := Gc.s_is_variable) (ps := ["number"]) KX G ?a_is_variable ?l_is_variable ?c_is_variable ?k_is_variable (fun _ _ _ _ _ _ us hl => match us, hl with | [_], _ => rfl) (fun D_is_variable => ?n_is_variable)
    (case a_is_variable => k_is); (case l_is_variable => k_is); (case c_is_variable => k_is); (case k_is_variable => k_is)
    refine' Gc.with_def (x := "may_be_held") (st := Gc.s_may_be_held) (ps := ["number"]) KX G ?a_may_be_held ?l_may_be_held ?c_may_be_held ?k_may_be_held (fun _ _ _ _ _ _ us hl => match us, hl with | [_], _ => rfl) (fun D_may_be_held => ?n_may_be_held)
    (case a_may_be_held => k_is); (case l_may_be_held => k_is); (case c_may_be_held => k_is); (case k_may_be_held => k_is)
    refine' Gc.with_def (x := "is_full") (st := Gc.s_is_full) (ps := ["store"]) KX G ?a_is_full ?l_is_full ?c_is_full ?k_is_full (fun _ _ _ _ _ _ us hl => match us, hl with | [_], _ => rfl) (fun D_is_full => ?n_is_full)
    (case a_is_full => k_is); (case l_is_full => k_is); (case c_is_full => k_is); (case k_is_full => k_is)
    refine' Gc.with_def (x := "count_old") (st := Gc.s_count_old) (ps := ["store"]) KX G ?a_count_old ?l_count_old ?c_count_old ?k_count_old (fun _ _ _ _ _ _ us hl => match us, hl with | [_], _ => rfl) (fun D_count_old => ?n_count_old)
    (case a_count_old => k_is); (case l_count_old => k_is); (case c_count_old => k_is); (case k_count_old => k_is)
    refine' Gc.with_def (x := "count_remembered") (st := Gc.s_count_remembered) (ps := ["store"]) KX G ?a_count_remembered ?l_count_remembered ?c_count_remembered ?k_count_remembered (fun _ _ _ _ _ _ us hl => match us, hl with | [_], _ => rfl) (fun D_count_remembered => ?n_count_remembered)
    (case a_count_remembered => k_is); (case l_count_remembered => k_is); (case c_count_remembered => k_is); (case k_count_remembered => k_is)
    refine' Gc.with_def (x := "count_coloured") (st := Gc.s_count_coloured) (ps := ["store", "colour"]) KX G ?a_count_coloured ?l_count_coloured ?c_count_coloured ?k_count_coloured (fun _ _ _ _ _ _ us hl => match us, hl with | [_, _], _ => rfl) (fun D_count_coloured => ?n_count_coloured)
    (case a_count_coloured => k_is); (case l_count_coloured => k_is); (case c_count_coloured => k_is); (case k_count_coloured => k_is)
    refine' Gc.with_def (x := "make_room") (st := Gc.s_make_room) (ps := ["store"]) KX G ?a_make_room ?l_make_room ?c_make_room ?k_make_room (fun _ _ _ _ _ _ us hl => match us, hl with | [_], _ => rfl) (fun D_make_room => ?n_make_room)
    (case a_make_room => k_is); (case l_make_room => k_is); (case c_make_room => k_is); (case k_make_room => k_is)
    refine' Gc.with_def (x := "make_cell") (st := Gc.s_make_cell) (ps := ["store", "v", "kind", "fields"]) KX G ?a_make_cell ?l_make_cell ?c_make_cell ?k_make_cell (fun _ _ _ _ _ _ us hl => match us, hl with | [_, _, _, _], _ => rfl) (fun D_make_cell => ?n_make_cell)
    (case a_make_cell => k_is); (case l_make_cell => k_is); (case c_make_cell => k_is); (case k_make_cell => k_is)
    refine' Gc.with_def (x := "is_field_told") (st := Gc.s_is_field_told) (ps := ["way", "number"]) KX G ?a_is_field_told ?l_is_field_told ?c_is_field_told ?k_is_field_told (fun _ _ _ _ _ _ us hl => match us, hl with | [_, _], _ => rfl) (fun D_is_field_told => ?n_is_field_told)
    (case a_is_field_told => k_is); (case l_is_field_told => k_is); (case c_is_field_told => k_is); (case k_is_field_told => k_is)
    refine' Gc.with_def (x := "are_fields_told") (st := Gc.s_are_fields_told) (ps := ["row"]) KX G ?a_are_fields_told ?l_are_fields_told ?c_are_fields_told ?k_are_fields_told (fun _ _ _ _ _ _ us hl => match us, hl with | [_], _ => rfl) (fun D_are_fields_told => ?n_are_fields_told)
    (case a_are_fields_told => k_is); (case l_are_fields_told => k_is); (case c_are_fields_told => k_is); (case k_are_fields_told => k_is)
    refine' Gc.with_def (x := "told_field") (st := Gc.s_told_field) (ps := ["store", "way", "number"]) KX G ?a_told_field ?l_told_field ?c_told_field ?k_told_field (fun _ _ _ _ _ _ us hl => match us, hl with | [_, _, _], _ => rfl) (fun D_told_field => ?n_told_field)
    (case a_told_field => k_is); (case l_told_field => k_is); (case c_told_field => k_is); (case k_told_field => k_is)
    refine' Gc.with_def (x := "told_fields") (st := Gc.s_told_fields) (ps := ["store", "row"]) KX G ?a_told_fields ?l_told_fields ?c_told_fields ?k_told_fields (fun _ _ _ _ _ _ us hl => match us, hl with | [_, _], _ => rfl) (fun D_told_fields => ?n_told_fields)
    (case a_told_fields => k_is); (case l_told_fields => k_is); (case c_told_fields => k_is); (case k_told_fields => k_is)
    refine' Gc.with_def (x := "field_refusal") (st := Gc.s_field_refusal) (ps := ["held", "i"]) KX G ?a_field_refusal ?l_field_refusal ?c_field_refusal ?k_field_refusal (fun _ _ _ _ _ _ us hl => match us, hl with | [_, _], _ => rfl) (fun D_field_refusal => ?n_field_refusal)
    (case a_field_refusal => k_is); (case l_field_refusal => k_is); (case c_field_refusal => k_is); (case k_field_refusal => k_is)
    refine' Gc.with_def (x := "call_cell") (st := Gc.s_call_cell) (ps := ["store", "numbers"]) KX G ?a_call_cell ?l_call_cell ?c_call_cell ?k_call_cell (fun _ _ _ _ _ _ us hl => match us, hl with | [_, _], _ => rfl) (fun D_call_cell => ?n_call_cell)
    (case a_call_cell => k_is); (case l_call_cell => k_is); (case c_call_cell => k_is); (case k_call_cell => k_is)
    refine' Gc.with_def (x := "call_num") (st := Gc.s_call_num) (ps := ["store", "numbers"]) KX G ?a_call_num ?l_call_num ?c_call_num ?k_call_num (fun _ _ _ _ _ _ us hl => match us, hl with | [_, _], _ => rfl) (fun D_call_num => ?n_call_num)
    (case a_call_num => k_is); (case l_call_num => k_is); (case c_call_num => k_is); (case k_call_num => k_is)
    refine' Gc.with_def (x := "call_move") (st := Gc.s_call_move) (ps := ["store", "numbers"]) KX G ?a_call_move ?l_call_move ?c_call_move ?k_call_move (fun _ _ _ _ _ _ us hl => match us, hl with | [_, _], _ => rfl) (fun D_call_move => ?n_call_move)
    (case a_call_move => k_is); (case l_call_move => k_is); (case c_call_move => k_is); (case k_call_move => k_is)
    refine' Gc.with_def (x := "call_clear") (st := Gc.s_call_clear) (ps := ["store", "numbers"]) KX G ?a_call_clear ?l_call_clear ?c_call_clear ?k_call_clear (fun _ _ _ _ _ _ us hl => match us, hl with | [_, _], _ => rfl) (fun D_call_clear => ?n_call_clear)
    (case a_call_clear => k_is); (case l_call_clear => k_is); (case c_call_clear => k_is); (case k_call_clear => k_is)
    refine' Gc.with_def (x := "call_get") (st := Gc.s_call_get) (ps := ["store", "numbers"]) KX G ?a_call_get ?l_call_get ?c_call_get ?k_call_get (fun _ _ _ _ _ _ us hl => match us, hl with | [_, _], _ => rfl) (fun D_call_get => ?n_call_get)
    (case a_call_get => k_is); (case l_call_get => k_is); (case c_call_get => k_is); (case k_call_get => k_is)
    refine' Gc.with_def (x := "call_set") (st := Gc.s_call_set) (ps := ["store", "numbers"]) KX G ?a_call_set ?l_call_set ?c_call_set ?k_call_set (fun _ _ _ _ _ _ us hl => match us, hl with | [_, _], _ => rfl) (fun D_call_set => ?n_call_set)
    (case a_call_set => k_is); (case l_call_set => k_is); (case c_call_set => k_is); (case k_call_set => k_is)
    refine' Gc.with_def (x := "call_weak") (st := Gc.s_call_weak) (ps := ["store", "numbers"]) KX G ?a_call_weak ?l_call_weak ?c_call_weak ?k_call_weak (fun _ _ _ _ _ _ us hl => match us, hl with | [_, _], _ => rfl) (fun D_call_weak => ?n_call_weak)
    (case a_call_weak => k_is); (case l_call_weak => k_is); (case c_call_weak => k_is); (case k_call_weak => k_is)
    refine' Gc.with_def (x := "call_held") (st := Gc.s_call_held) (ps := ["store", "numbers"]) KX G ?a_call_held ?l_call_held ?c_call_held ?k_call_held (fun _ _ _ _ _ _ us hl => match us, hl with | [_, _], _ => rfl) (fun D_call_held => ?n_call_held)
    (case a_call_held => k_is); (case l_call_held => k_is); (case c_call_held => k_is); (case k_call_held => k_is)
    refine' Gc.with_def (x := "call_keyed") (st := Gc.s_call_keyed) (ps := ["store", "numbers"]) KX G ?a_call_keyed ?l_call_keyed ?c_call_keyed ?k_call_keyed (fun _ _ _ _ _ _ us hl => match us, hl with | [_, _], _ => rfl) (fun D_call_keyed => ?n_call_keyed)
    (case a_call_keyed => k_is); (case l_call_keyed => k_is); (case c_call_keyed => k_is); (case k_call_keyed => k_is)
    refine' Gc.with_def (x := "call_found") (st := Gc.s_call_found) (ps := ["store", "numbers"]) KX G ?a_call_found ?l_call_found ?c_call_found ?k_call_found (fun _ _ _ _ _ _ us hl => match us, hl with | [_, _], _ => rfl) (fun D_call_found => ?n_call_found)
    (case a_call_found => k_is); (case l_call_found => k_is); (case c_call_found => k_is); (case k_call_found => k_is)
    refine' Gc.with_def (x := "call_last") (st := Gc.s_call_last) (ps := ["store", "numbers"]) KX G ?a_call_last ?l_call_last ?c_call_last ?k_call_last (fun _ _ _ _ _ _ us hl => match us, hl with | [_, _], _ => rfl) (fun D_call_last => ?n_call_last)
    (case a_call_last => k_is); (case l_call_last => k_is); (case c_call_last => k_is); (case k_call_last => k_is)
    refine' Gc.with_def (x := "call_words") (st := Gc.s_call_words) (ps := ["store", "numbers"]) KX G ?a_call_words ?l_call_words ?c_call_words ?k_call_words (fun _ _ _ _ _ _ us hl => match us, hl with | [_, _], _ => rfl) (fun D_call_words => ?n_call_words)
    (case a_call_words => k_is); (case l_call_words => k_is); (case c_call_words => k_is); (case k_call_words => k_is)
    refine' Gc.with_def (x := "call_young") (st := Gc.s_call_young) (ps := ["store", "numbers"]) KX G ?a_call_young ?l_call_young ?c_call_young ?k_call_young (fun _ _ _ _ _ _ us hl => match us, hl with | [_, _], _ => rfl) (fun D_call_young => ?n_call_young)
    (case a_call_young => k_is); (case l_call_young => k_is); (case c_call_young => k_is); (case k_call_young => k_is)
    refine' Gc.with_def (x := "call_slice") (st := Gc.s_call_slice) (ps := ["store", "numbers"]) KX G ?a_call_slice ?l_call_slice ?c_call_slice ?k_call_slice (fun _ _ _ _ _ _ us hl => match us, hl with | [_, _], _ => rfl) (fun D_call_slice => ?n_call_slice)
    (case a_call_slice => k_is); (case l_call_slice => k_is); (case c_call_slice => k_is); (case k_call_slice => k_is)
    refine' Gc.with_def (x := "call_counts") (st := Gc.s_call_counts) (ps := ["store", "numbers"]) KX G ?a_call_counts ?l_call_counts ?c_call_counts ?k_call_counts (fun _ _ _ _ _ _ us hl => match us, hl with | [_, _], _ => rfl) (fun D_call_counts => ?n_call_counts)
    (case a_call_counts => k_is); (case l_call_counts => k_is); (case c_call_counts => k_is); (case k_call_counts => k_is)
    refine' Gc.with_def (x := "call_shape") (st := Gc.s_call_shape) (ps := ["store", "numbers"]) KX G ?a_call_shape ?l_call_shape ?c_call_shape ?k_call_shape (fun _ _ _ _ _ _ us hl => match us, hl with | [_, _], _ => rfl) (fun D_call_shape => ?n_call_shape)
    (case a_call_shape => k_is); (case l_call_shape => k_is); (case c_call_shape => k_is); (case k_call_shape => k_is)
    refine' Gc.with_def (x := "call_same") (st := Gc.s_call_same) (ps := ["store", "numbers"]) KX G ?a_call_same ?l_call_same ?c_call_same ?k_call_same (fun _ _ _ _ _ _ us hl => match us, hl with | [_, _], _ => rfl) (fun D_call_same => ?n_call_same)
    (case a_call_same => k_is); (case l_call_same => k_is); (case c_call_same => k_is); (case k_call_same => k_is)
    refine' Gc.with_def (x := "end_of_call") (st := Gc.s_end_of_call) (ps := ["calls", "at"]) KX G ?a_end_of_call ?l_end_of_call ?c_end_of_call ?k_end_of_call (fun _ _ _ _ _ _ us hl => match us, hl with | [_, _], _ => rfl) (fun D_end_of_call => ?n_end_of_call)
    (case a_end_of_call => k_is); (case l_end_of_call => k_is); (case c_end_of_call => k_is); (case k_end_of_call => k_is)
    refine' Gc.with_def (x := "answer_call") (st := Gc.s_answer_call) (ps := ["store", "call"]) KX G ?a_answer_call ?l_answer_call ?c_answer_call ?k_answer_call (fun _ _ _ _ _ _ us hl => match us, hl with | [_, _], _ => rfl) (fun D_answer_call => ?n_answer_call)
    (case a_answer_call => k_is); (case l_answer_call => k_is); (case c_answer_call => k_is); (case k_answer_call => k_is)
    have DD := Gc.Defs.mk (mg := mg) D_is_cell D_is_cell_of D_is_young D_is_white D_count_young D_add_cell D_empty_cell D_tell_last_word D_write_field D_is_come_to D_make_grey D_held_from_outside D_looked_at_first D_looked_at_again D_begin_to_mark D_begin_to_sweep D_make_black D_mark_step D_sweep_cell D_sweep_step D_work_slice D_see D_cells_seen D_tell_held D_tell_cell D_tell_shape D_stays D_held_at_first D_keep_from D_values_to_keep D_find_kept D_empty_if_gone D_colour_when_old D_grow_up D_is_to_be_remembered D_round_of_the_young D_is_variable D_may_be_held D_is_full D_count_old D_count_remembered D_count_coloured D_make_room D_make_cell D_is_field_told D_are_fields_told D_told_field D_told_fields D_field_refusal D_call_cell D_call_num D_call_move D_call_clear D_call_get D_call_set D_call_weak D_call_held D_call_keyed D_call_found D_call_last D_call_words D_call_young D_call_slice D_call_counts D_call_shape D_call_same D_end_of_call D_answer_call
    refine' Gc.with_top (Gc.mdef_mk (x := "Cell") (qual := "Cell.__init__") (st := Gc.s_Cell___init__) (ps := ["self", "place", "kind", "fields"]) KX G ?xaCell ?xmCell ?xiCell ?xfCell ?xkCell ?xlCell ?xcCell ?xkkCell (fun _ _ _ _ _ _ us hl => match us, hl with | [_, _, _, _], _ => rfl)) (fun M_Cell => ?zCell)
    (case xaCell => k_is); (case xmCell => k_is); (case xiCell => k_is); (case xfCell => k_is); (case xkCell => k_is); (case xlCell => k_is); (case xcCell => k_is); (case xkkCell => k_is)
    refine' Gc.with_top (Gc.mdef_mk (x := "Store") (qual := "Store.__init__") (st := Gc.s_Store___init__) (ps := ["self"]) KX G ?xaStore ?xmStore ?xiStore ?xfStore ?xkStore ?xlStore ?xcStore ?xkkStore (fun _ _ _ _ _ _ us hl => match us, hl with | [_], _ => rfl)) (fun M_Store => ?zStore)
    (case xaStore => k_is); (case xmStore => k_is); (case xiStore => k_is); (case xfStore => k_is); (case xkStore => k_is); (case xlStore => k_is); (case xcStore => k_is); (case xkkStore => k_is)
    refine' Gc.with_top (Gc.top_mk KX G ?aC ?aS ?pgC ?hdC ?poC ?saC ?pgS ?hdS ?poS ?saS ?haC ?hnC ?htkC ?hmC ?hmN ?eqC ?meC ?niC ?iiC ?n_place ?n_kind ?n_fields ?n_word ?n_young ?n_seasoned ?n_colour ?n_remembered ?m_variables ?m_cells ?m_made ?m_phase ?m_swept ?m_told ?b_isinstance ?b_len ?b_any ?b_all ?b_range ?b_list ?b_enumerate ?k_VARIABLES ?k_PLAIN ?k_WEAK ?k_KEYED ?k_WHITE ?k_GREY ?k_BLACK ?k_RESTS ?k_MARKS ?k_SWEEPS ?k_MOST_HELD ?k_MOST_FIELDS ?k_MOST_CELLS ?k_YOUNG_FOR_A_ROUND ?k_MOST_ROUNDS ?k_NOT_AS_TOLD ?k_NO_SUCH_CELL ?k_NO_SUCH_FIELD ?k_NO_ROOM ?k_MOST_UNITS ?k_MOST_SEEN ?k_TOO_MANY_SEEN ?k_CALL_WITH_ROW) (fun TT => ?zT)
    (case aC => k_is)
    (case aS => k_is)
    (case pgC => k_is)
    (case hdC => k_is)
    (case poC => k_is)
    (case saC => k_is)
    (case pgS => k_is)
    (case hdS => k_is)
    (case poS => k_is)
    (case saS => k_is)
    (case haC => k_is)
    (case hnC => k_is)
    (case htkC => k_is)
    (case hmC => k_is)
    (case hmN => k_is)
    (case eqC => k_is)
    (case meC => kit_is)
    (case niC => kit_is)
    (case iiC => kit_is)
    (case n_place => k_is)
    (case n_kind => k_is)
    (case n_fields => k_is)
    (case n_word => k_is)
    (case n_young => k_is)
    (case n_seasoned => k_is)
    (case n_colour => k_is)
    (case n_remembered => k_is)
    (case m_variables => k_is)
    (case m_cells => k_is)
    (case m_made => k_is)
    (case m_phase => k_is)
    (case m_swept => k_is)
    (case m_told => k_is)
    (case b_isinstance => k_is)
    (case b_len => k_is)
    (case b_any => k_is)
    (case b_all => k_is)
    (case b_range => k_is)
    (case b_list => k_is)
    (case b_enumerate => k_is)
    (case k_VARIABLES => k_is)
    (case k_PLAIN => k_is)
    (case k_WEAK => k_is)
    (case k_KEYED => k_is)
    (case k_WHITE => k_is)
    (case k_GREY => k_is)
    (case k_BLACK => k_is)
    (case k_RESTS => k_is)
    (case k_MARKS => k_is)
    (case k_SWEEPS => k_is)
    (case k_MOST_HELD => k_is)
    (case k_MOST_FIELDS => k_is)
    (case k_MOST_CELLS => k_is)
    (case k_YOUNG_FOR_A_ROUND => k_is)
    (case k_MOST_ROUNDS => k_is)
    (case k_NOT_AS_TOLD => k_is)
    (case k_NO_SUCH_CELL => k_is)
    (case k_NO_SUCH_FIELD => k_is)
    (case k_NO_ROOM => k_is)
    (case k_MOST_UNITS => k_is)
    (case k_MOST_SEEN => k_is)
    (case k_TOO_MANY_SEEN => k_is)
    (case k_CALL_WITH_ROW => k_is)
    refine' Gc.with_top (Gc.def_mk0 (x := "answers") (st := Gc.s_answers) KX G ?ya ?yl ?yc ?yk) (fun FA => ?zA)
    (case ya => k_is); (case yl => k_is); (case yc => k_is); (case yk => k_is)
    obtain ⟨FA, hA⟩ := FA
    have ef := hmg.symm.trans hA
    cases ef
    refine ⟨_, Gc.bt_answers FA, fun base _ _ => ?_⟩
    refine' Gc.tab_end KX G DD FA M_Cell M_Store TT ?uaN ?ulN ?uwN ?uaV ?ulV ?uv1 ?ul1 ?ur1 ?uv2 ?ul2 ?ur2 ?uv3 ?ul3 ?ur3 ?uv4 ?ul4 ?ur4 ?uv5 ?ul5 ?ur5 ?uv6 ?ul6 ?ur6 ?uv7 ?ul7 ?ur7 ?uv8 ?ul8 ?ur8 ?uv9 ?ul9 ?ur9 ?uv10 ?ul10 ?ur10 ?uv11 ?ul11 ?ur11 ?uv12 ?ul12 ?ur12 ?uv13 ?ul13 ?ur13 ?uv14 ?ul14 ?ur14 ?uv15 ?ul15 ?ur15 ?uv16 ?ul16 ?ur16 ?uv17 ?ul17 ?ur17 ?uwV ?uaK ?ulK ?ug1 ?ug2 ?ug3 ?ug4 ?ug5 ?ug6 ?ug7 ?ug8 ?ug9 ?ug10 ?ug11 ?ug12 ?ug13 ?ug14 ?ug15 ?ug16 ?ug17 ?uwK base
    (case uaN => k_is)
    (case ulN => k_is)
    (case uwN => (decide +kernel))
    (case uaV => k_is)
    (case ulV => k_is)
    (case uv1 => rfl)
    (case ul1 => k_is)
    (case ur1 => (decide +kernel))
    (case uv2 => rfl)
    (case ul2 => k_is)
    (case ur2 => (decide +kernel))
    (case uv3 => rfl)
    (case ul3 => k_is)
    (case ur3 => (decide +kernel))
    (case uv4 => rfl)
    (case ul4 => k_is)
    (case ur4 => (decide +kernel))
    (case uv5 => rfl)
    (case ul5 => k_is)
    (case ur5 => (decide +kernel))
    (case uv6 => rfl)
    (case ul6 => k_is)
    (case ur6 => (decide +kernel))
    (case uv7 => rfl)
    (case ul7 => k_is)
    (case ur7 => (decide +kernel))
    (case uv8 => rfl)
    (case ul8 => k_is)
    (case ur8 => (decide +kernel))
    (case uv9 => rfl)
    (case ul9 => k_is)
    (case ur9 => (decide +kernel))
    (case uv10 => rfl)
    (case ul10 => k_is)
    (case ur10 => (decide +kernel))
    (case uv11 => rfl)
    (case ul11 => k_is)
    (case ur11 => (decide +kernel))
    (case uv12 => rfl)
    (case ul12 => k_is)
    (case ur12 => (decide +kernel))
    (case uv13 => rfl)
    (case ul13 => k_is)
    (case ur13 => (decide +kernel))
    (case uv14 => rfl)
    (case ul14 => k_is)
    (case ur14 => (decide +kernel))
    (case uv15 => rfl)
    (case ul15 => k_is)
    (case ur15 => (decide +kernel))
    (case uv16 => rfl)
    (case ul16 => k_is)
    (case ur16 => (decide +kernel))
    (case uv17 => rfl)
    (case ul17 => k_is)
    (case ur17 => (decide +kernel))
    (case uwV => (decide +kernel))
    (case uaK => k_is)
    (case ulK => k_is)
    (case ug1 => k_is)
    (case ug2 => k_is)
    (case ug3 => k_is)
    (case ug4 => k_is)
    (case ug5 => k_is)
    (case ug6 => k_is)
    (case ug7 => k_is)
    (case ug8 => k_is)
    (case ug9 => k_is)
    (case ug10 => k_is)
    (case ug11 => k_is)
    (case ug12 => k_is)
    (case ug13 => k_is)
    (case ug14 => k_is)
    (case ug15 => k_is)
    (case ug16 => k_is)
    (case ug17 => k_is)
    (case uwK => (decide +kernel))
  case S =>
    intro K H xs a hO hwi hask hx
    exact Gc.spec_S K H xs a hask hx
#print axioms PySem.Challenge.cw_letgostore_s01_answers_holds
