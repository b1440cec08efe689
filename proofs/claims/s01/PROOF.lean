import PyProof.Rows.All
import Wide.All
import OpenK.AllK
import Wide.FinOn
import Open.SpecLaws
import KE.OsGo
import HandS.ForSpec
import HandS.ForMost
import HandS.TryMany
import HandS.Walk
import HandS.Conv
import HandS.More
import HandS.Small
import HandS.Rev
import KE.KDictKeyed
import KE.KDictLaw
import KE.GoesMore
import KE.KDictList
import HandS.RevTup
import PySem.Challenge.RW_withinany_s01_answers
set_option Elab.async false
set_option maxRecDepth 100000
set_option maxHeartbeats 8000000
set_option linter.all false
namespace Wa
open Gq02 (E Says stays behind)

/-! ### Rows of steps -/
theorem says_stay {w : List Nat} : Says .stay w ↔ w = [] := by
  constructor
  · intro h; cases h; rfl
  · rintro rfl; exact .stay
theorem says_step {c : Nat} {w : List Nat} : Says (.step c) w ↔ w = [c] := by
  constructor
  · intro h; cases h; rfl
  · rintro rfl; exact .step c
theorem says_no {w : List Nat} : ¬ Says .no w := by
  intro h; cases h
theorem says_seq {e f : E} {w : List Nat} : Says (.seq e f) w ↔ ∃ u v, w = u ++ v ∧ Says e u ∧ Says f v := by
  constructor
  · intro h
    cases h with
    | seq _ _ u v a b => exact ⟨u, v, rfl, a, b⟩
  · rintro ⟨u, v, rfl, a, b⟩
    exact .seq e f u v a b
theorem says_alt {e f : E} {w : List Nat} : Says (.alt e f) w ↔ Says e w ∨ Says f w := by
  constructor
  · intro h
    cases h with
    | left _ _ _ a => exact .inl a
    | right _ _ _ a => exact .inr a
  · rintro (a | a)
    · exact .left e f w a
    · exact .right e f w a
theorem says_star_cons_aux {g : E} {x : List Nat} (h : Says g x) : ∀ {e : E} {c : Nat} {w : List Nat}, g = .star e → x = c :: w →
    ∃ u v, w = u ++ v ∧ Says e (c :: u) ∧ Says (.star e) v := by
  induction h with
  | stay => intro e c w h1; cases h1
  | step d => intro e c w h1; cases h1
  | seq _ _ _ _ _ _ _ _ => intro e c w h1; cases h1
  | left _ _ _ _ _ => intro e c w h1; cases h1
  | right _ _ _ _ _ => intro e c w h1; cases h1
  | none g => intro e c w _ h2; cases h2
  | more g v y hv hy _ ih2 =>
    intro e c w h1 h2
    cases h1
    cases v with
    | nil => exact ih2 rfl h2
    | cons d v =>
      cases h2
      exact ⟨v, y, rfl, hv, hy⟩
theorem says_star_cons {e : E} {c : Nat} {w : List Nat} : Says (.star e) (c :: w) ↔ ∃ u v, w = u ++ v ∧ Says e (c :: u) ∧ Says (.star e) v := by
  constructor
  · intro h
    exact says_star_cons_aux h rfl rfl
  · rintro ⟨u, v, rfl, a, b⟩
    exact .more e (c :: u) v a b
theorem says_star_nil {e : E} : Says (.star e) [] := .none e
theorem says_seq_cons {e f : E} {c : Nat} {w : List Nat} : Says (.seq e f) (c :: w) ↔
    (∃ u v, w = u ++ v ∧ Says e (c :: u) ∧ Says f v) ∨ (Says e [] ∧ Says f (c :: w)) := by
  rw [says_seq]
  constructor
  · rintro ⟨u, v, h, a, b⟩
    cases u with
    | nil => exact .inr ⟨a, by rw [h]; exact b⟩
    | cons d u =>
      injection h with h1 h2
      subst h1
      exact .inl ⟨u, v, h2, a, b⟩
  · rintro (⟨u, v, rfl, a, b⟩ | ⟨a, b⟩)
    · exact ⟨c :: u, v, rfl, a, b⟩
    · exact ⟨[], c :: w, rfl, a, b⟩
theorem stays_iff : ∀ e : E, stays e = true ↔ Says e []
  | .no => by simp [stays, says_no]
  | .stay => by simp [stays, says_stay]
  | .step c => by simp [stays, says_step]
  | .seq e f => by
    rw [says_seq]
    simp only [stays, Bool.and_eq_true, stays_iff e, stays_iff f]
    constructor
    · rintro ⟨a, b⟩
      exact ⟨[], [], rfl, a, b⟩
    · rintro ⟨u, v, h, a, b⟩
      obtain ⟨rfl, rfl⟩ := List.append_eq_nil_iff.mp h.symm
      exact ⟨a, b⟩
  | .alt e f => by
    rw [says_alt]
    simp only [stays, Bool.or_eq_true, stays_iff e, stays_iff f]
  | .star e => by simp [stays, says_star_nil]

/-! ### What is left behind a step -/
theorem says_sq {x f : E} {w : List Nat} : Says (Gq02.seq x f) w ↔ Says (.seq x f) w := by
  unfold Gq02.seq
  by_cases h : x = .stay
  · rw [if_pos h, h, says_seq]
    constructor
    · intro a
      exact ⟨[], w, rfl, .stay, a⟩
    · rintro ⟨u, v, rfl, a, b⟩
      rw [says_stay.mp a]
      exact b
  · rw [if_neg h]
theorem behind_iff : ∀ (e : E) (c : Nat) (w : List Nat), Says e (c :: w) ↔ ∃ x ∈ behind c e, Says x w
  | .no, c, w => by simp [behind, says_no]
  | .stay, c, w => by simp [behind, says_stay]
  | .step d, c, w => by
    rw [says_step]
    simp only [behind]
    by_cases h : c = d
    · subst h
      simp [says_stay]
    · simp [h]
  | .seq e f, c, w => by
    rw [says_seq_cons]
    simp only [behind, List.mem_append, List.mem_map]
    constructor
    · rintro (⟨u, v, rfl, a, b⟩ | ⟨a, b⟩)
      · obtain ⟨x, hx, h⟩ := (behind_iff e c u).mp a
        exact ⟨Gq02.seq x f, .inl ⟨x, hx, rfl⟩, says_sq.mpr (says_seq.mpr ⟨u, v, rfl, h, b⟩)⟩
      · obtain ⟨x, hx, h⟩ := (behind_iff f c w).mp b
        refine ⟨x, .inr ?_, h⟩
        rw [if_pos ((stays_iff e).mpr a)]
        exact hx
    · rintro ⟨x, (⟨y, hy, rfl⟩ | hx), h⟩
      · obtain ⟨u, v, rfl, a, b⟩ := says_seq.mp (says_sq.mp h)
        exact .inl ⟨u, v, rfl, (behind_iff e c u).mpr ⟨y, hy, a⟩, b⟩
      · by_cases s : stays e = true
        · rw [if_pos s] at hx
          exact .inr ⟨(stays_iff e).mp s, (behind_iff f c w).mpr ⟨x, hx, h⟩⟩
        · rw [if_neg s] at hx
          cases hx
  | .alt e f, c, w => by
    rw [says_alt, behind_iff e c w, behind_iff f c w]
    simp only [behind, List.mem_append]
    constructor
    · rintro (⟨x, hx, h⟩ | ⟨x, hx, h⟩)
      · exact ⟨x, .inl hx, h⟩
      · exact ⟨x, .inr hx, h⟩
    · rintro ⟨x, hx | hx, h⟩
      · exact .inl ⟨x, hx, h⟩
      · exact .inr ⟨x, hx, h⟩
  | .star e, c, w => by
    rw [says_star_cons]
    simp only [behind, List.mem_map]
    constructor
    · rintro ⟨u, v, rfl, a, b⟩
      obtain ⟨x, hx, h⟩ := (behind_iff e c u).mp a
      exact ⟨_, ⟨x, hx, rfl⟩, says_sq.mpr (says_seq.mpr ⟨u, v, rfl, h, b⟩)⟩
    · rintro ⟨_, ⟨y, hy, rfl⟩, h⟩
      obtain ⟨u, v, rfl, a, b⟩ := says_seq.mp (says_sq.mp h)
      exact ⟨u, v, rfl, (behind_iff e c u).mpr ⟨y, hy, a⟩, b⟩

/-! ### Lists as sets -/
theorem mem_add {A : Type} [DecidableEq A] {l : List A} {x y : A} : y ∈ Gq02.add l x ↔ y ∈ l ∨ y = x := by
  unfold Gq02.add
  by_cases h : l.contains x = true
  · rw [if_pos h]
    constructor
    · exact .inl
    · rintro (a | rfl)
      · exact a
      · exact List.contains_iff_mem.mp h
  · rw [if_neg h, List.mem_append, List.mem_singleton]
theorem mem_foldl_add {A : Type} [DecidableEq A] {y : A} : ∀ (m l : List A), y ∈ m.foldl Gq02.add l ↔ y ∈ l ∨ y ∈ m
  | [], l => by simp
  | x :: m, l => by
    rw [List.foldl_cons, mem_foldl_add m, mem_add, List.mem_cons]
    constructor
    · rintro ((a | a) | a)
      · exact .inl a
      · exact .inr (.inl a)
      · exact .inr (.inr a)
    · rintro (a | a | a)
      · exact .inl (.inl a)
      · exact .inl (.inr a)
      · exact .inr a
theorem mem_union {A : Type} [DecidableEq A] {y : A} {l m : List A} : y ∈ Gq02.union l m ↔ y ∈ l ∨ y ∈ m := mem_foldl_add m l
theorem mem_foldl_union {A B : Type} [DecidableEq A] {y : A} (g : B → List A) : ∀ (m : List B) (l : List A), y ∈ m.foldl (fun a x => Gq02.union a (g x)) l ↔ y ∈ l ∨ ∃ x ∈ m, y ∈ g x
  | [], l => by simp
  | x :: m, l => by
    rw [List.foldl_cons, mem_foldl_union g m, mem_union]
    constructor
    · rintro ((a | a) | ⟨z, hz, a⟩)
      · exact .inl a
      · exact .inr ⟨x, List.mem_cons_self, a⟩
      · exact .inr ⟨z, List.mem_cons_of_mem _ hz, a⟩
    · rintro (a | ⟨z, hz, a⟩)
      · exact .inl (.inl a)
      · rcases List.mem_cons.mp hz with rfl | hz
        · exact .inl (.inr a)
        · exact .inr ⟨z, hz, a⟩
theorem nodup_add {A : Type} [DecidableEq A] {l : List A} {x : A} (h : l.Nodup) : (Gq02.add l x).Nodup := by
  unfold Gq02.add
  by_cases c : l.contains x = true
  · rw [if_pos c]; exact h
  · rw [if_neg c]
    rw [List.nodup_append]
    refine ⟨h, by simp, ?_⟩
    intro a ha b hb
    rw [List.mem_singleton] at hb
    subst hb
    rintro rfl
    exact c (List.contains_iff_mem.mpr ha)
theorem nodup_foldl_add {A : Type} [DecidableEq A] : ∀ (m l : List A), l.Nodup → (m.foldl Gq02.add l).Nodup
  | [], _, h => h
  | _ :: m, _, h => nodup_foldl_add m _ (nodup_add h)
theorem prefix_add {A : Type} [DecidableEq A] {l : List A} {x : A} : ∃ t, Gq02.add l x = l ++ t := by
  unfold Gq02.add
  by_cases c : l.contains x = true
  · rw [if_pos c]; exact ⟨[], by simp⟩
  · rw [if_neg c]; exact ⟨[x], rfl⟩
theorem prefix_foldl_add {A : Type} [DecidableEq A] : ∀ (m l : List A), ∃ t, m.foldl Gq02.add l = l ++ t
  | [], l => ⟨[], by simp⟩
  | x :: m, l => by
    obtain ⟨t, ht⟩ := prefix_add (l := l) (x := x)
    obtain ⟨t', ht'⟩ := prefix_foldl_add m (Gq02.add l x)
    exact ⟨t ++ t', by rw [List.foldl_cons, ht', ht, List.append_assoc]⟩

/-! ### Straight -/
theorem straight_fold : ∀ (w : List Nat) (l : List E), (w.foldl (fun l c => l.foldl (fun m x => Gq02.union m (behind c x)) []) l).any stays = true ↔ ∃ x ∈ l, Says x w
  | [], l => by
    rw [List.foldl_nil, List.any_eq_true]
    constructor
    · rintro ⟨x, hx, h⟩
      exact ⟨x, hx, (stays_iff x).mp h⟩
    · rintro ⟨x, hx, h⟩
      exact ⟨x, hx, (stays_iff x).mpr h⟩
  | c :: w, l => by
    rw [List.foldl_cons, straight_fold w]
    constructor
    · rintro ⟨x, hx, h⟩
      rcases (mem_foldl_union _ _ _).mp hx with h0 | ⟨y, hy, hxy⟩
      · cases h0
      · exact ⟨y, hy, (behind_iff y c w).mpr ⟨x, hxy, h⟩⟩
    · rintro ⟨y, hy, h⟩
      obtain ⟨x, hx, h'⟩ := (behind_iff y c w).mp h
      exact ⟨x, (mem_foldl_union _ _ _).mpr (.inr ⟨y, hy, hx⟩), h'⟩
theorem straight_iff (e : E) (w : List Nat) : Gq02.straight e w = true ↔ Says e w := by
  unfold Gq02.straight
  rw [straight_fold]
  simp

/-! ### All that can be left -/
def pds : E → List E
  | .no => []
  | .stay => []
  | .step _ => [.stay]
  | .seq e f => (pds e).map (fun x => Gq02.seq x f) ++ pds f
  | .alt e f => pds e ++ pds f
  | .star e => (pds e).map (fun x => Gq02.seq x (.star e))
theorem pds_length : ∀ e : E, (pds e).length ≤ Gq02.size e
  | .no => by simp [pds]
  | .stay => by simp [pds]
  | .step _ => by simp [pds, Gq02.size]
  | .seq e f => by
    have := pds_length e
    have := pds_length f
    simp only [pds, Gq02.size, List.length_append, List.length_map]
    omega
  | .alt e f => by
    have := pds_length e
    have := pds_length f
    simp only [pds, Gq02.size, List.length_append]
    omega
  | .star e => by
    have := pds_length e
    simp only [pds, Gq02.size, List.length_map]
    omega
theorem behind_pds : ∀ (e : E) (c : Nat) (x : E), x ∈ behind c e → x ∈ pds e
  | .no, c, x, h => by simp [behind] at h
  | .stay, c, x, h => by simp [behind] at h
  | .step d, c, x, h => by
    simp only [behind] at h
    by_cases k : c = d
    · rw [if_pos k] at h
      exact h
    · rw [if_neg k] at h
      cases h
  | .seq e f, c, x, h => by
    simp only [behind, List.mem_append, List.mem_map] at h
    simp only [pds, List.mem_append, List.mem_map]
    rcases h with ⟨y, hy, rfl⟩ | h
    · exact .inl ⟨y, behind_pds e c y hy, rfl⟩
    · by_cases s : stays e = true
      · rw [if_pos s] at h
        exact .inr (behind_pds f c x h)
      · rw [if_neg s] at h
        cases h
  | .alt e f, c, x, h => by
    simp only [behind, List.mem_append] at h
    simp only [pds, List.mem_append]
    rcases h with h | h
    · exact .inl (behind_pds e c x h)
    · exact .inr (behind_pds f c x h)
  | .star e, c, x, h => by
    simp only [behind, List.mem_map] at h
    simp only [pds, List.mem_map]
    obtain ⟨y, hy, rfl⟩ := h
    exact ⟨y, behind_pds e c y hy, rfl⟩
/-- behind a step of x followed by f -/
theorem behind_sq {c : Nat} {x f z : E} (h : z ∈ behind c (Gq02.seq x f)) : (∃ y ∈ behind c x, z = Gq02.seq y f) ∨ z ∈ behind c f := by
  unfold Gq02.seq at h
  by_cases k : x = .stay
  · rw [if_pos k] at h
    exact .inr h
  · rw [if_neg k] at h
    simp only [behind, List.mem_append, List.mem_map] at h
    rcases h with ⟨y, hy, rfl⟩ | h
    · exact .inl ⟨y, hy, rfl⟩
    · by_cases s : stays x = true
      · rw [if_pos s] at h
        exact .inr h
      · rw [if_neg s] at h
        cases h
theorem pds_closed : ∀ (e : E) (c : Nat) (x z : E), x ∈ pds e → z ∈ behind c x → z ∈ pds e
  | .no, _, _, _, h, _ => by simp [pds] at h
  | .stay, _, _, _, h, _ => by simp [pds] at h
  | .step d, c, x, z, h, k => by
    simp only [pds, List.mem_singleton] at h
    subst h
    simp [behind] at k
  | .seq e f, c, x, z, h, k => by
    simp only [pds, List.mem_append, List.mem_map] at h ⊢
    rcases h with ⟨y, hy, rfl⟩ | h
    · rcases behind_sq k with ⟨y', hy', rfl⟩ | k
      · exact .inl ⟨y', pds_closed e c y y' hy hy', rfl⟩
      · exact .inr (behind_pds f c z k)
    · exact .inr (pds_closed f c x z h k)
  | .alt e f, c, x, z, h, k => by
    simp only [pds, List.mem_append] at h ⊢
    rcases h with h | h
    · exact .inl (pds_closed e c x z h k)
    · exact .inr (pds_closed f c x z h k)
  | .star e, c, x, z, h, k => by
    simp only [pds, List.mem_map] at h ⊢
    obtain ⟨y, hy, rfl⟩ := h
    rcases behind_sq k with ⟨y', hy', rfl⟩ | k
    · exact ⟨y', pds_closed e c y y' hy hy', rfl⟩
    · simp only [behind, List.mem_map] at k
      obtain ⟨y', hy', rfl⟩ := k
      exact ⟨y', behind_pds e c y' hy', rfl⟩

/-! ### Counting -/
theorem nodup_sub_length {A : Type} [DecidableEq A] : ∀ (l m : List A), l.Nodup → (∀ x ∈ l, x ∈ m) → l.length ≤ m.length
  | [], _, _, _ => Nat.zero_le (_)
  | x :: l, m, h, s => by
    have hx : x ∈ m := s x List.mem_cons_self
    have h2 := List.nodup_cons.mp h
    have := nodup_sub_length l (m.erase x) h2.2 (fun y hy => by
      have hy' := s y (List.mem_cons_of_mem _ hy)
      refine (List.mem_erase_of_ne ?_).mpr hy'
      rintro rfl
      exact h2.1 hy)
    rw [List.length_erase_of_mem hx] at this
    have hp : 0 < m.length := List.length_pos_of_mem hx
    simp only [List.length_cons]
    omega

/-! ### The list of all that is left is closed -/
def more (l : List E) : List E := l.foldl (fun m e => Gq02.letters.foldl (fun m c => Gq02.union m (behind c e)) m) l
theorem mem_more_aux {y : E} : ∀ (k l : List E), y ∈ k.foldl (fun m e => Gq02.letters.foldl (fun m c => Gq02.union m (behind c e)) m) l ↔ y ∈ l ∨ ∃ e ∈ k, ∃ c ∈ Gq02.letters, y ∈ behind c e
  | [], l => by simp
  | x :: k, l => by
    rw [List.foldl_cons, mem_more_aux k, mem_foldl_union (fun c => behind c x)]
    constructor
    · rintro ((a | a) | ⟨z, hz, a⟩)
      · exact .inl a
      · exact .inr ⟨x, List.mem_cons_self, a⟩
      · exact .inr ⟨z, List.mem_cons_of_mem _ hz, a⟩
    · rintro (a | ⟨z, hz, a⟩)
      · exact .inl (.inl a)
      · rcases List.mem_cons.mp hz with rfl | hz
        · exact .inl (.inr a)
        · exact .inr ⟨z, hz, a⟩
theorem mem_more {y : E} {l : List E} : y ∈ more l ↔ y ∈ l ∨ ∃ e ∈ l, ∃ c ∈ Gq02.letters, y ∈ behind c e := mem_more_aux l l
theorem grow_union {A B : Type} [DecidableEq A] (g : B → List A) : ∀ (m : List B) (l : List A), (∃ t, m.foldl (fun a x => Gq02.union a (g x)) l = l ++ t) ∧ (l.Nodup → (m.foldl (fun a x => Gq02.union a (g x)) l).Nodup)
  | [], l => ⟨⟨[], by simp⟩, fun h => h⟩
  | x :: m, l => by
    obtain ⟨t, ht⟩ := prefix_foldl_add (g x) l
    obtain ⟨⟨t', ht'⟩, n⟩ := grow_union g m (Gq02.union l (g x))
    refine ⟨⟨t ++ t', ?_⟩, fun h => n (nodup_foldl_add (g x) l h)⟩
    rw [List.foldl_cons, ht', ← List.append_assoc]
    exact congrArg (· ++ t') ht
theorem grow_more : ∀ (k l : List E), (∃ t, k.foldl (fun m e => Gq02.letters.foldl (fun m c => Gq02.union m (behind c e)) m) l = l ++ t) ∧ (l.Nodup → (k.foldl (fun m e => Gq02.letters.foldl (fun m c => Gq02.union m (behind c e)) m) l).Nodup)
  | [], l => ⟨⟨[], by simp⟩, fun h => h⟩
  | x :: k, l => by
    obtain ⟨⟨t, ht⟩, n⟩ := grow_union (fun c => behind c x) Gq02.letters l
    obtain ⟨⟨t', ht'⟩, n'⟩ := grow_more k (Gq02.letters.foldl (fun m c => Gq02.union m (behind c x)) l)
    refine ⟨⟨t ++ t', ?_⟩, fun h => n' (n h)⟩
    rw [List.foldl_cons, ht', ← List.append_assoc]
    exact congrArg (· ++ t') ht
/-- what lies in it, none twice, and as long as no step adds nothing it grows -/
theorem leftFrom_grows (U : List E) (cl : ∀ x ∈ U, ∀ c, ∀ z ∈ behind c x, z ∈ U) : ∀ (n : Nat) (l : List E), l.Nodup → (∀ x ∈ l, x ∈ U) →
    (Gq02.leftFrom n l).Nodup ∧ (∀ x ∈ Gq02.leftFrom n l, x ∈ U) ∧ (∃ t, Gq02.leftFrom n l = l ++ t) ∧
    (more (Gq02.leftFrom n l) = Gq02.leftFrom n l ∨ l.length + n ≤ (Gq02.leftFrom n l).length)
  | 0, l, h, s => ⟨h, s, ⟨[], by simp [Gq02.leftFrom]⟩, .inr (Nat.le_refl _)⟩
  | n + 1, l, h, s => by
    have e : Gq02.leftFrom (n + 1) l = Gq02.leftFrom n (more l) := rfl
    rw [e]
    obtain ⟨⟨t, ht⟩, nd⟩ := grow_more l l
    have ht : more l = l ++ t := ht
    have nd : (more l).Nodup := nd h
    have s2 : ∀ x ∈ more l, x ∈ U := by
      intro x hx
      rcases mem_more.mp hx with a | ⟨y, hy, c, _, a⟩
      · exact s x a
      · exact cl y (s y hy) c x a
    obtain ⟨r1, r2, ⟨t', r3⟩, r4⟩ := leftFrom_grows U cl n (more l) nd s2
    refine ⟨r1, r2, ⟨t ++ t', by rw [r3, ht, List.append_assoc]⟩, ?_⟩
    rcases r4 with r4 | r4
    · exact .inl r4
    · cases t with
      | nil =>
        have hm : more l = l := by rw [ht, List.append_nil]
        left
        have fix : ∀ n, Gq02.leftFrom n l = l := by
          intro n
          induction n with
          | zero => rfl
          | succ n ih =>
            show Gq02.leftFrom n (more l) = l
            rw [hm]
            exact ih
        rw [hm, fix n, hm]
      | cons y t =>
        right
        rw [ht] at r4
        simp only [List.length_append, List.length_cons] at r4
        rw [ht]
        omega
theorem lefts_facts (e : E) : (Gq02.lefts e).Nodup ∧ (∃ t, Gq02.lefts e = e :: t) ∧
    ∀ x ∈ Gq02.lefts e, ∀ c ∈ Gq02.letters, ∀ z ∈ behind c x, z ∈ Gq02.lefts e := by
  have U : ∀ x ∈ e :: pds e, ∀ c, ∀ z ∈ behind c x, z ∈ e :: pds e := by
    intro x hx c z hz
    rcases List.mem_cons.1 hx with rfl | hx
    · exact List.mem_cons_of_mem _ (behind_pds x c z hz)
    · exact List.mem_cons_of_mem _ (pds_closed e c x z hx hz)
  obtain ⟨r1, r2, ⟨t, r3⟩, r4⟩ := leftFrom_grows (e :: pds e) U (Gq02.size e + 1) [e] (by simp) (by simp)
  refine ⟨r1, ⟨t, r3⟩, ?_⟩
  have r4 : more (Gq02.lefts e) = Gq02.lefts e := by
    rcases r4 with r4 | r4
    · exact r4
    · exfalso
      have a := nodup_sub_length _ _ r1 r2
      have b := pds_length e
      simp only [List.length_cons, List.length_nil] at a r4
      omega
  intro x hx c hc z hz
  rw [← r4]
  exact mem_more.mpr (.inr ⟨x, hx, c, hc, hz⟩)
end Wa

namespace Wa
open Gq02 (E Says stays behind turned)

/-! ### Runs of a machine, walks on a line -/
inductive Run (mv : Nat → Nat → Nat → Prop) : Nat → List Nat → Nat → Prop where
  | nil (p : Nat) : Run mv p [] p
  | cons {c p q r : Nat} {u : List Nat} : mv c p q → Run mv q u r → Run mv p (c :: u) r
/-- a step on a line's graph -/
def LStep (w : List Nat) (c x y : Nat) : Prop := (y = x + 1 ∧ w[x]? = some c) ∨ (x = y + 1 ∧ ∃ a, w[y]? = some a ∧ c = turned a)
/-- some row of the language leads along the line -/
def Leads (L : List Nat → Prop) (w : List Nat) : Prop := ∃ u, L u ∧ Run (LStep w) 0 u w.length
def Lets (w : List Nat) : Prop := ∀ c ∈ w, c ∈ Gq02.letters
/-- from a state at a node to a state at a node, to and fro -/
inductive TW (mv : Nat → Nat → Nat → Prop) (w : List Nat) : Nat → Nat → Nat → Nat → Prop where
  | refl (p x : Nat) : TW mv w p x p x
  | head {c p x p' x' q y : Nat} : LStep w c x x' → mv c p p' → TW mv w p' x' q y → TW mv w p x q y
theorem tw_iff {mv : Nat → Nat → Nat → Prop} {w : List Nat} {p x q y : Nat} : TW mv w p x q y ↔ ∃ u, Run (LStep w) x u y ∧ Run mv p u q := by
  constructor
  · intro h
    induction h with
    | refl p x => exact ⟨[], .nil x, .nil p⟩
    | head a b _ ih =>
      obtain ⟨u, h1, h2⟩ := ih
      exact ⟨_ :: u, .cons a h1, .cons b h2⟩
  · rintro ⟨u, h1, h2⟩
    induction u generalizing p x with
    | nil =>
      cases h1
      cases h2
      exact .refl _ _
    | cons c u ih =>
      cases h1 with
      | cons a h1 =>
        cases h2 with
        | cons b h2 => exact .head a b (ih h1 h2)
theorem tw_trans {mv : Nat → Nat → Nat → Prop} {w : List Nat} {p x q y r z : Nat} (h : TW mv w p x q y) (k : TW mv w q y r z) : TW mv w p x r z := by
  induction h with
  | refl => exact k
  | head a b _ ih => exact .head a b (ih k)
theorem turned_letter {c : Nat} (h : c ∈ Gq02.letters) : turned c ∈ Gq02.letters := by
  simp only [Gq02.letters, List.mem_cons, List.not_mem_nil, or_false] at h
  rcases h with rfl | rfl | rfl | rfl <;> decide
theorem lstep_letter {w : List Nat} {c x y : Nat} (hw : Lets w) (h : LStep w c x y) : c ∈ Gq02.letters := by
  rcases h with ⟨_, h⟩ | ⟨_, a, h, rfl⟩
  · exact hw c (List.mem_of_getElem? h)
  · exact turned_letter (hw a (List.mem_of_getElem? h))
theorem walk_letters {w : List Nat} (hw : Lets w) {x y : Nat} {u : List Nat} (h : Run (LStep w) x u y) : Lets u := by
  induction h with
  | nil => intro c hc; cases hc
  | cons a _ ih =>
    intro c hc
    rcases List.mem_cons.1 hc with rfl | hc
    · exact lstep_letter hw a
    · exact ih c hc
/-- any number of times -/
inductive Cl (R : Nat → Nat → Prop) : Nat → Nat → Prop where
  | refl (p : Nat) : Cl R p p
  | head {p q r : Nat} : R p q → Cl R q r → Cl R p r
theorem cl_trans {R : Nat → Nat → Prop} {p q r : Nat} (h : Cl R p q) (k : Cl R q r) : Cl R p r := by
  induction h with
  | refl => exact k
  | head a _ ih => exact .head a (ih k)
theorem cl_mono {R S : Nat → Nat → Prop} (s : ∀ i j, R i j → Cl S i j) {p q : Nat} (h : Cl R p q) : Cl S p q := by
  induction h with
  | refl p => exact .refl p
  | head a _ ih => exact cl_trans (s _ _ a) ih
/-- back from the end and to it again, once -/
def Once (mv : Nat → Nat → Nat → Prop) (w : List Nat) (c p q : Nat) : Prop := ∃ a b, mv (turned c) p a ∧ TW mv w a w.length b w.length ∧ mv c b q
theorem lstep_snoc {w : List Nat} {c d x y : Nat} (h : LStep w d x y) : LStep (w ++ [c]) d x y := by
  rcases h with ⟨h1, h2⟩ | ⟨h1, a, h2, h3⟩
  · refine .inl ⟨h1, ?_⟩
    rw [List.getElem?_append_left (List.getElem?_eq_some_iff.mp h2).1]
    exact h2
  · refine .inr ⟨h1, a, ?_, h3⟩
    rw [List.getElem?_append_left (List.getElem?_eq_some_iff.mp h2).1]
    exact h2
theorem tw_snoc {mv : Nat → Nat → Nat → Prop} {w : List Nat} {c p x q y : Nat} (h : TW mv w p x q y) : TW mv (w ++ [c]) p x q y := by
  induction h with
  | refl p x => exact .refl p x
  | head a b _ ih => exact .head (lstep_snoc a) b ih
theorem snoc_last {w : List Nat} {c : Nat} : (w ++ [c])[w.length]? = some c := by simp
theorem once_tw {mv : Nat → Nat → Nat → Prop} {w : List Nat} {c p q : Nat} (h : Once mv w c p q) : TW mv (w ++ [c]) p (w.length + 1) q (w.length + 1) := by
  obtain ⟨a, b, h1, h2, h3⟩ := h
  refine .head (c := turned c) (.inr ⟨rfl, c, snoc_last, rfl⟩) h1 ?_
  refine tw_trans (tw_snoc h2) ?_
  exact .head (c := c) (.inl ⟨rfl, snoc_last⟩) h3 (.refl _ _)
theorem cl_tw {mv : Nat → Nat → Nat → Prop} {w : List Nat} {c p q : Nat} (h : Cl (Once mv w c) p q) : TW mv (w ++ [c]) p (w.length + 1) q (w.length + 1) := by
  induction h with
  | refl p => exact .refl _ _
  | head a _ ih => exact tw_trans (once_tw a) ih
theorem tw_back_aux {mv : Nat → Nat → Nat → Prop} {w : List Nat} {c p x q y : Nat} (h : TW mv (w ++ [c]) p x q y) : y = w.length + 1 →
    (x = w.length + 1 → Cl (Once mv w c) p q) ∧ (x ≤ w.length → ∃ a b, TW mv w p x a w.length ∧ mv c a b ∧ Cl (Once mv w c) b q) := by
  induction h with
  | refl p x =>
    intro e
    exact ⟨fun _ => .refl p, fun k => by omega⟩
  | @head d p x p' x' q y a b _ ih =>
    intro e
    obtain ⟨i1, i2⟩ := ih e
    refine ⟨fun k => ?_, fun k => ?_⟩
    · subst k
      rcases a with ⟨h1, h2⟩ | ⟨h1, g, h2, h3⟩
      · have := (List.getElem?_eq_some_iff.mp h2).1
        simp at this
      · have hx : x' = w.length := by omega
        subst hx
        rw [snoc_last] at h2
        cases h2
        subst h3
        obtain ⟨a1, b1, j1, j2, j3⟩ := i2 (Nat.le_refl _)
        exact .head ⟨p', a1, b, j1, j2⟩ j3
    · rcases a with ⟨h1, h2⟩ | ⟨h1, g, h2, h3⟩
      · by_cases hx : x = w.length
        · subst hx
          rw [snoc_last] at h2
          cases h2
          exact ⟨p, p', .refl _ _, b, i1 h1⟩
        · have hx' : x < w.length := by omega
          rw [List.getElem?_append_left hx'] at h2
          obtain ⟨a1, b1, j1, j2, j3⟩ := i2 (by omega)
          exact ⟨a1, b1, .head (.inl ⟨h1, h2⟩) b j1, j2, j3⟩
      · have hx' : x' < w.length := by omega
        rw [List.getElem?_append_left hx'] at h2
        obtain ⟨a1, b1, j1, j2, j3⟩ := i2 (by omega)
        exact ⟨a1, b1, .head (.inr ⟨h1, g, h2, h3⟩) b j1, j2, j3⟩
theorem tw_back {mv : Nat → Nat → Nat → Prop} {w : List Nat} {c p q : Nat} : TW mv (w ++ [c]) p (w ++ [c]).length q (w ++ [c]).length ↔ Cl (Once mv w c) p q := by
  rw [List.length_append (as := _), List.length_singleton]
  constructor
  · intro h
    exact (tw_back_aux h rfl).1 rfl
  · exact cl_tw
theorem tw_here {mv : Nat → Nat → Nat → Prop} {w : List Nat} {c p q : Nat} : TW mv (w ++ [c]) p 0 q (w ++ [c]).length ↔ ∃ a b, TW mv w p 0 a w.length ∧ mv c a b ∧ Cl (Once mv w c) b q := by
  rw [List.length_append (as := _), List.length_singleton]
  constructor
  · intro h
    exact (tw_back_aux h rfl).2 (Nat.zero_le _)
  · rintro ⟨a, b, h1, h2, h3⟩
    exact tw_trans (tw_snoc h1) (.head (c := c) (.inl ⟨rfl, snoc_last⟩) h2 (cl_tw h3))
theorem tw_nil {mv : Nat → Nat → Nat → Prop} {p x q y : Nat} : TW mv [] p x q y ↔ p = q ∧ x = y := by
  constructor
  · intro h
    cases h with
    | refl => exact ⟨rfl, rfl⟩
    | head a _ _ =>
      rcases a with ⟨_, h⟩ | ⟨_, _, h, _⟩ <;> simp at h
  · rintro ⟨rfl, rfl⟩
    exact .refl _ _

/-! ### Closing a relation by its middles -/
def Mid (R : Nat → Nat → Prop) : Nat → Nat → Nat → Prop
  | 0, i, j => R i j
  | m + 1, i, j => Mid R m i j ∨ (Mid R m i m ∧ Mid R m m j)
theorem mid_up {R : Nat → Nat → Prop} {i j : Nat} (h : R i j) : ∀ m, Mid R m i j
  | 0 => h
  | m + 1 => .inl (mid_up h m)
theorem mid_trans {R : Nat → Nat → Prop} : ∀ (m i j k : Nat), k < m → Mid R m i k → Mid R m k j → Mid R m i j
  | 0, _, _, _, h, _, _ => by omega
  | m + 1, i, j, k, h, a, b => by
    have ih := mid_trans (R := R) m
    by_cases e : k = m
    · subst e
      have a' : Mid R k i k := by
        rcases a with a | ⟨a, _⟩ <;> exact a
      have b' : Mid R k k j := by
        rcases b with b | ⟨_, b⟩ <;> exact b
      exact .inr ⟨a', b'⟩
    · have hk : k < m := by omega
      rcases a with a | ⟨a1, a2⟩
      · rcases b with b | ⟨b1, b2⟩
        · exact .inl (ih i j k hk a b)
        · exact .inr ⟨ih i m k hk a b1, b2⟩
      · rcases b with b | ⟨b1, b2⟩
        · exact .inr ⟨a1, ih m j k hk a2 b⟩
        · exact .inr ⟨a1, b2⟩
theorem mid_cl {R : Nat → Nat → Prop} : ∀ (m i j : Nat), Mid R m i j → Cl R i j
  | 0, _, _, h => .head h (.refl _)
  | m + 1, i, j, h => by
    rcases h with h | ⟨a, b⟩
    · exact mid_cl m i j h
    · exact cl_trans (mid_cl m i m a) (mid_cl m m j b)
theorem cl_mid {R : Nat → Nat → Prop} {n : Nat} (lt : ∀ i j, R i j → j < n) (rf : ∀ i, i < n → R i i) {i j : Nat} (h : Cl R i j) (hi : i < n) : Mid R n i j := by
  induction h with
  | refl p => exact mid_up (rf p hi) n
  | head a _ ih => exact mid_trans n _ _ _ (lt _ _ a) (mid_up a n) (ih (lt _ _ a))

/-! ### The specification's lists of pairs -/
theorem mem_sorted {n q : Nat} {l : List Nat} : q ∈ Gq02.sorted n l ↔ q < n ∧ q ∈ l := by
  unfold Gq02.sorted
  rw [List.mem_filter, List.mem_range, List.contains_iff_mem]
theorem mem_sortedPairs {n p q : Nat} {l : List (Nat × Nat)} : (p, q) ∈ Gq02.sortedPairs n l ↔ p < n ∧ q < n ∧ (p, q) ∈ l := by
  unfold Gq02.sortedPairs
  simp only [List.mem_flatMap, List.mem_range, List.mem_map, List.mem_filter, List.contains_iff_mem, Prod.mk.injEq]
  constructor
  · rintro ⟨i, hi, j, ⟨hj, h⟩, rfl, rfl⟩
    exact ⟨hi, hj, h⟩
  · rintro ⟨hp, hq, h⟩
    exact ⟨p, hp, q, ⟨hq, h⟩, rfl, rfl⟩
theorem mem_still {n p q : Nat} : (p, q) ∈ Gq02.still n ↔ p < n ∧ p = q := by
  unfold Gq02.still
  simp only [List.mem_map, List.mem_range, Prod.mk.injEq]
  constructor
  · rintro ⟨i, hi, rfl, rfl⟩
    exact ⟨hi, rfl⟩
  · rintro ⟨h, rfl⟩
    exact ⟨p, h, rfl, rfl⟩
def twice (n : Nat) (r : List (Nat × Nat)) : List (Nat × Nat) := Gq02.sortedPairs n (r ++ r.flatMap fun x => (r.filter fun y => y.1 == x.2).map fun y => (x.1, y.2))
theorem mem_twice {n p q : Nat} {r : List (Nat × Nat)} : (p, q) ∈ twice n r ↔ p < n ∧ q < n ∧ ((p, q) ∈ r ∨ ∃ k, (p, k) ∈ r ∧ (k, q) ∈ r) := by
  unfold twice
  rw [mem_sortedPairs]
  simp only [List.mem_append, List.mem_flatMap, List.mem_map, List.mem_filter, beq_iff_eq, Prod.mk.injEq, Prod.exists]
  constructor
  · rintro ⟨hp, hq, h | ⟨a, b, h1, c, d, ⟨h2, e⟩, rfl, rfl⟩⟩
    · exact ⟨hp, hq, .inl h⟩
    · subst e
      exact ⟨hp, hq, .inr ⟨c, h1, h2⟩⟩
  · rintro ⟨hp, hq, h | ⟨k, h1, h2⟩⟩
    · exact ⟨hp, hq, .inl h⟩
    · exact ⟨hp, hq, .inr ⟨p, k, h1, k, q, ⟨h2, rfl⟩, rfl, rfl⟩⟩
theorem closed_succ (n : Nat) : ∀ (f : Nat) (r : List (Nat × Nat)), Gq02.closed n (f + 1) r = twice n (Gq02.closed n f r)
  | 0, _ => rfl
  | f + 1, r => closed_succ n f (twice n r)
theorem closed_mid {n : Nat} {r : List (Nat × Nat)} (hr : ∀ i j, (i, j) ∈ r → i < n ∧ j < n) : ∀ (f i j : Nat), Mid (fun i j => (i, j) ∈ r) f i j → i < n ∧ j < n ∧ (i, j) ∈ Gq02.closed n f r
  | 0, i, j, h => ⟨(hr i j h).1, (hr i j h).2, h⟩
  | f + 1, i, j, h => by
    rw [closed_succ, mem_twice]
    rcases h with h | ⟨a, b⟩
    · obtain ⟨h1, h2, h3⟩ := closed_mid hr f i j h
      exact ⟨h1, h2, h1, h2, .inl h3⟩
    · obtain ⟨h1, h2, h3⟩ := closed_mid hr f _ _ a
      obtain ⟨k1, k2, k3⟩ := closed_mid hr f _ _ b
      exact ⟨h1, k2, h1, k2, .inr ⟨f, h3, k3⟩⟩
theorem closed_cl {n : Nat} {r : List (Nat × Nat)} : ∀ (f i j : Nat), (i, j) ∈ Gq02.closed n f r → Cl (fun i j => (i, j) ∈ r) i j
  | 0, i, j, h => .head h (.refl _)
  | f + 1, i, j, h => by
    rw [closed_succ, mem_twice] at h
    rcases h.2.2 with h | ⟨k, a, b⟩
    · exact closed_cl f i j h
    · exact cl_trans (closed_cl f i k a) (closed_cl f k j b)

/-! ### The specification's machine -/
/-- what is left, and its numbers -/
structure Good (l : List E) : Prop where
  pos : 0 < l.length
  nd : l.Nodup
  cl : ∀ x ∈ l, ∀ c ∈ Gq02.letters, ∀ z ∈ behind c x, z ∈ l
theorem good_lefts (e : E) : Good (Gq02.lefts e) := by
  obtain ⟨a, ⟨t, b⟩, c⟩ := lefts_facts e
  exact ⟨by rw [b]; simp, a, c⟩
theorem lefts_zero (e : E) : (Gq02.lefts e).getD 0 .no = e := by
  obtain ⟨_, ⟨t, b⟩, _⟩ := lefts_facts e
  rw [b]; rfl
theorem index_lt : ∀ {l : List E} {x : E}, x ∈ l → Gq02.index l x < l.length ∧ l.getD (Gq02.index l x) .no = x
  | [], _, h => by cases h
  | y :: l, x, h => by
    by_cases e : y = x
    · subst e
      have : Gq02.index (y :: l) y = 0 := by simp [Gq02.index]
      rw [this]
      exact ⟨by simp, rfl⟩
    · have : Gq02.index (y :: l) x = Gq02.index l x + 1 := by
        have hb : (y != x) = true := by simp [e]
        simp [Gq02.index, List.takeWhile, hb]
      rw [this]
      have hx : x ∈ l := by
        rcases List.mem_cons.mp h with h | h
        · exact absurd h.symm e
        · exact h
      obtain ⟨h1, h2⟩ := index_lt hx
      exact ⟨by simp; exact h1, by simpa using h2⟩
/-- the moves of the specification's machine -/
def SMv (l : List E) (c p q : Nat) : Prop := c ∈ Gq02.letters ∧ q ∈ Gq02.moves l c p
theorem mem_moves {l : List E} {c p q : Nat} : q ∈ Gq02.moves l c p ↔ ∃ x ∈ behind c (l.getD p .no), Gq02.index l x = q := by
  unfold Gq02.moves
  rw [mem_foldl_add, List.mem_map]
  simp
theorem getD_mem {l : List E} {p : Nat} (h : p < l.length) : l.getD p .no ∈ l := by
  rw [List.getD_eq_getElem?_getD, List.getElem?_eq_getElem h]
  exact List.getElem_mem h
theorem getD_far {l : List E} {p : Nat} (h : ¬ p < l.length) : l.getD p .no = .no := by
  rw [List.getD_eq_getElem?_getD (l := _), List.getElem?_eq_none (by omega)]
  rfl
theorem smv_lt {l : List E} (g : Good l) {c p q : Nat} (h : SMv l c p q) : p < l.length ∧ q < l.length := by
  obtain ⟨hc, h⟩ := h
  obtain ⟨x, hx, rfl⟩ := mem_moves.mp h
  have hp : p < l.length := by
    apply Decidable.byContradiction
    intro k
    rw [getD_far k] at hx
    simp [behind] at hx
  exact ⟨hp, (index_lt (g.cl _ (getD_mem hp) c hc x hx)).1⟩
theorem tw_lt {l : List E} (g : Good l) {w : List Nat} {p x q y : Nat} (h : TW (SMv l) w p x q y) (hp : p < l.length) : q < l.length := by
  induction h with
  | refl => exact hp
  | head _ b _ ih => exact ih (smv_lt g b).2
theorem run_says {l : List E} (g : Good l) : ∀ (u : List Nat) (p : Nat), Lets u → p < l.length → ((∃ q, Run (SMv l) p u q ∧ stays (l.getD q .no) = true) ↔ Says (l.getD p .no) u)
  | [], p, _, _ => by
    rw [← stays_iff]
    constructor
    · rintro ⟨q, h, s⟩
      cases h
      exact s
    · intro s
      exact ⟨p, .nil p, s⟩
  | c :: u, p, hu, hp => by
    have hc : c ∈ Gq02.letters := hu c List.mem_cons_self
    have hu' : Lets u := fun d hd => hu d (List.mem_cons_of_mem _ hd)
    rw [behind_iff]
    constructor
    · rintro ⟨q, h, s⟩
      cases h with
      | cons m h =>
        obtain ⟨x, hx, e⟩ := mem_moves.mp m.2
        have hxl := index_lt (g.cl _ (getD_mem hp) c hc x hx)
        have := (run_says g u _ hu' (smv_lt g m).2).mp ⟨q, h, s⟩
        rw [← e, hxl.2] at this
        exact ⟨x, hx, this⟩
    · rintro ⟨x, hx, s⟩
      have hxl := index_lt (g.cl _ (getD_mem hp) c hc x hx)
      rw [← hxl.2] at s
      obtain ⟨q, h, s⟩ := (run_says g u _ hu' hxl.1).mpr s
      exact ⟨q, .cons ⟨hc, mem_moves.mpr ⟨x, hx, rfl⟩⟩ h, s⟩

/-! ### The specification's info tells where one can be -/
structure Rep (l : List E) (i : Gq02.Info) (w : List Nat) : Prop where
  back : ∀ p q, (p, q) ∈ i.back ↔ p < l.length ∧ TW (SMv l) w p w.length q w.length
  here : ∀ q, q ∈ i.here ↔ TW (SMv l) w 0 0 q w.length
theorem rep_begin {l : List E} : Rep l (Gq02.begin_ l) [] := by
  refine ⟨fun p q => ?_, fun q => ?_⟩
  · show (p, q) ∈ Gq02.still l.length ↔ _
    rw [mem_still, tw_nil]
    simp
  · show q ∈ [0] ↔ _
    rw [tw_nil]
    simp [eq_comm]
theorem rep_longer {l : List E} (g : Good l) {i : Gq02.Info} {w : List Nat} (r : Rep l i w) {c : Nat} (hc : c ∈ Gq02.letters) : Rep l (Gq02.longer l i c) (w ++ [c]) := by
  have honce : ∀ p q, (p, q) ∈ ((List.range l.length).flatMap fun p => (Gq02.moves l (turned c) p).flatMap fun a => (i.back.filter fun x => x.1 == a).flatMap fun x => (Gq02.moves l c x.2).map fun q => (p, q)) ↔ Once (SMv l) w c p q := by
    intro p q
    simp only [List.mem_flatMap, List.mem_range, List.mem_filter, beq_iff_eq, List.mem_map, Prod.mk.injEq, Prod.exists]
    constructor
    · rintro ⟨p, hp, a, ha, a', b, ⟨hb, rfl⟩, q, hq, rfl, rfl⟩
      exact ⟨a', b, ⟨turned_letter hc, ha⟩, ((r.back a' b).mp hb).2, ⟨hc, hq⟩⟩
    · rintro ⟨a, b, h1, h2, h3⟩
      exact ⟨p, (smv_lt g h1).1, a, h1.2, a, b, ⟨(r.back a b).mpr ⟨(smv_lt g h1).2, h2⟩, rfl⟩, q, h3.2, rfl, rfl⟩
  have hb : ∀ p q, (p, q) ∈ (Gq02.longer l i c).back ↔ p < l.length ∧ Cl (Once (SMv l) w c) p q := by
    intro p q
    show (p, q) ∈ Gq02.closed l.length l.length (Gq02.sortedPairs l.length (Gq02.still l.length ++ _)) ↔ _
    have hR : ∀ i j, (i, j) ∈ Gq02.sortedPairs l.length (Gq02.still l.length ++ ((List.range l.length).flatMap fun p => (Gq02.moves l (turned c) p).flatMap fun a => (Gq02.Info.back ‹_›  |>.filter fun x => x.1 == a).flatMap fun x => (Gq02.moves l c x.2).map fun q => (p, q))) ↔ (i < l.length ∧ i = j) ∨ Once (SMv l) w c i j := by
      intro i j
      rw [mem_sortedPairs, List.mem_append, mem_still, honce]
      constructor
      · rintro ⟨_, _, h⟩
        exact h
      · rintro (⟨h, rfl⟩ | h)
        · exact ⟨h, h, .inl ⟨h, rfl⟩⟩
        · obtain ⟨a, b, h1, h2, h3⟩ := h
          exact ⟨(smv_lt g h1).1, (smv_lt g h3).2, .inr ⟨a, b, h1, h2, h3⟩⟩
    constructor
    · intro h
      have h1 := closed_cl _ _ _ h
      have h2 : Cl (Once (SMv l) w c) p q := by
        refine cl_mono (fun i j k => ?_) h1
        rcases (hR i j).mp k with ⟨_, rfl⟩ | k
        · exact .refl _
        · exact .head k (.refl _)
      refine ⟨?_, h2⟩
      cases h1 with
      | refl =>
        have hn := g.pos
        have : ∀ f, (p, p) ∈ Gq02.closed l.length f (Gq02.sortedPairs l.length (Gq02.still l.length ++ ((List.range l.length).flatMap fun p => (Gq02.moves l (turned c) p).flatMap fun a => (i.back.filter fun x => x.1 == a).flatMap fun x => (Gq02.moves l c x.2).map fun q => (p, q)))) → p < l.length := by
          intro f
          cases f with
          | zero => intro h; exact (mem_sortedPairs.mp h).1
          | succ f => intro h; rw [closed_succ, mem_twice] at h; exact h.1
        exact this _ h
      | head a _ =>
        rcases (hR _ _).mp a with ⟨k, _⟩ | ⟨_, _, k, _⟩
        · exact k
        · exact (smv_lt g k).1
    · rintro ⟨hp, h⟩
      refine (closed_mid (fun i j k => ?_) _ _ _ (cl_mid (fun i j k => ?_) (fun i k => ?_) (cl_mono (fun i j k => ?_) h) hp)).2.2
      · exact ⟨(mem_sortedPairs.mp k).1, (mem_sortedPairs.mp k).2.1⟩
      · exact (mem_sortedPairs.mp k).2.1
      · exact (hR i i).mpr (.inl ⟨k, rfl⟩)
      · exact .head ((hR i j).mpr (.inr k)) (.refl _)
  refine ⟨fun p q => ?_, fun q => ?_⟩
  · rw [tw_back]
    exact hb p q
  · rw [tw_here]
    show q ∈ Gq02.sorted l.length (i.here.flatMap fun p => (Gq02.moves l c p).flatMap fun a => ((Gq02.longer l i c).back.filter fun x => x.1 == a).map fun x => x.2) ↔ _
    rw [mem_sorted]
    simp only [List.mem_flatMap, List.mem_filter, beq_iff_eq, List.mem_map, Prod.exists]
    constructor
    · rintro ⟨_, p, hp, a, ha, a', q, ⟨hq, rfl⟩, rfl⟩
      exact ⟨p, a', (r.here p).mp hp, ⟨hc, ha⟩, ((hb a' q).mp hq).2⟩
    · rintro ⟨a, b, h1, h2, h3⟩
      have hbl := (smv_lt g h2).2
      refine ⟨?_, a, (r.here a).mpr h1, b, h2.2, b, q, ⟨(hb b q).mpr ⟨hbl, h3⟩, rfl⟩, rfl⟩
      exact tw_lt g (cl_tw h3) hbl
theorem rep_along {l : List E} (g : Good l) : ∀ (v : List Nat) (i : Gq02.Info) (w : List Nat), Rep l i w → Lets v → Rep l (v.foldl (Gq02.longer l) i) (w ++ v)
  | [], i, w, r, _ => by rw [List.append_nil]; exact r
  | c :: v, i, w, r, h => by
    have := rep_along g v _ _ (rep_longer g r (h c List.mem_cons_self)) (fun d hd => h d (List.mem_cons_of_mem _ hd))
    rw [List.append_assoc _ _ _] at this
    exact this
theorem ends_iff {l : List E} (g : Good l) {i : Gq02.Info} {w : List Nat} (r : Rep l i w) (hw : Lets w) : Gq02.ends l i = true ↔ Leads (Says (l.getD 0 .no)) w := by
  unfold Gq02.ends
  rw [List.any_eq_true]
  constructor
  · rintro ⟨q, hq, s⟩
    obtain ⟨u, h1, h2⟩ := tw_iff.mp ((r.here q).mp hq)
    exact ⟨u, (run_says g u 0 (walk_letters hw h1) g.pos).mp ⟨q, h2, s⟩, h1⟩
  · rintro ⟨u, h1, h2⟩
    obtain ⟨q, h, s⟩ := (run_says g u 0 (walk_letters hw h2) g.pos).mpr h1
    exact ⟨q, (r.here q).mpr (tw_iff.mpr ⟨u, h2, h⟩), s⟩
theorem leads_iff (f : E) {w : List Nat} (hw : Lets w) : Gq02.leads f w = true ↔ Leads (Says f) w := by
  have r := rep_along (good_lefts f) w _ _ (rep_begin (l := Gq02.lefts f)) hw
  have := ends_iff (good_lefts f) r (by simpa using hw)
  rw [lefts_zero] at this
  exact this
end Wa

namespace Wa
open Gq02 (E Says stays behind turned Node)

/-! ### Lines in their order -/
def val : List Nat → Nat
  | [] => 0
  | c :: r => 6 * val r + c
/-- the number of a line: shorter ones first, of as short ones the one with the lower letter -/
def num (w : List Nat) : Nat := val w.reverse
theorem num_nil : num [] = 0 := rfl
theorem num_snoc (w : List Nat) (c : Nat) : num (w ++ [c]) = 6 * num w + c := by
  unfold num
  rw [List.reverse_append]
  rfl
theorem letter_ge {c : Nat} (h : c ∈ Gq02.letters) : 2 ≤ c ∧ c ≤ 5 := by
  simp only [Gq02.letters, List.mem_cons, List.not_mem_nil, or_false] at h
  omega
theorem letter_of {c : Nat} (h : 2 ≤ c ∧ c ≤ 5) : c ∈ Gq02.letters := by
  simp only [Gq02.letters, List.mem_cons, List.not_mem_nil, or_false]
  omega
theorem val_inj : ∀ (u v : List Nat), Lets u → Lets v → val u = val v → u = v
  | [], [], _, _, _ => rfl
  | [], d :: v, _, h, e => by
    have := letter_ge (h d List.mem_cons_self)
    simp only [val] at e
    omega
  | c :: u, [], h, _, e => by
    have := letter_ge (h c List.mem_cons_self)
    simp only [val] at e
    omega
  | c :: u, d :: v, h, k, e => by
    have h1 := letter_ge (h c List.mem_cons_self)
    have h2 := letter_ge (k d List.mem_cons_self)
    simp only [val] at e
    have e1 : val u = val v := by omega
    have e2 : c = d := by omega
    rw [val_inj u v (fun x hx => h x (List.mem_cons_of_mem _ hx)) (fun x hx => k x (List.mem_cons_of_mem _ hx)) e1, e2]
theorem val_len : ∀ (u v : List Nat), Lets u → Lets v → u.length < v.length → val u < val v
  | _, [], _, _, h => by simp at h
  | [], d :: v, _, h, _ => by
    have := letter_ge (h d List.mem_cons_self)
    simp only [val]
    omega
  | c :: u, d :: v, h, k, e => by
    have h1 := letter_ge (h c List.mem_cons_self)
    have := val_len u v (fun x hx => h x (List.mem_cons_of_mem _ hx)) (fun x hx => k x (List.mem_cons_of_mem _ hx)) (by simpa using e)
    simp only [val]
    omega
theorem lets_reverse {w : List Nat} (h : Lets w) : Lets w.reverse := fun c hc => h c (List.mem_reverse.mp hc)
theorem num_inj {u v : List Nat} (hu : Lets u) (hv : Lets v) (h : num u = num v) : u = v := by
  have := val_inj _ _ (lets_reverse hu) (lets_reverse hv) h
  exact List.reverse_inj.mp this
theorem num_len {u v : List Nat} (hu : Lets u) (hv : Lets v) (h : u.length < v.length) : num u < num v :=
  val_len _ _ (lets_reverse hu) (lets_reverse hv) (by simpa using h)
theorem lets_snoc {w : List Nat} {c : Nat} (h : Lets w) (hc : c ∈ Gq02.letters) : Lets (w ++ [c]) := by
  intro d hd
  rcases List.mem_append.mp hd with k | k
  · exact h d k
  · rw [List.mem_singleton.mp k]
    exact hc
theorem lets_left {u v : List Nat} (h : Lets (u ++ v)) : Lets u := fun c hc => h c (List.mem_append_left _ hc)
theorem num_append_le (u : List Nat) : ∀ v : List Nat, num u ≤ num (u ++ v) := by
  intro v
  have : ∀ (n : Nat) (v : List Nat), v.length = n → num u ≤ num (u ++ v) := by
    intro n
    induction n with
    | zero =>
      intro v h
      rw [List.eq_nil_of_length_eq_zero h, List.append_nil]
      exact Nat.le_refl _
    | succ n ih =>
      intro v h
      have hv : v ≠ [] := by
        rintro rfl
        simp at h
      rw [← List.dropLast_concat_getLast hv, ← List.append_assoc, num_snoc]
      have := ih v.dropLast (by simp [h])
      omega
  exact this _ v rfl

/-! ### What the search looks for -/
def Bad (e f : E) (w : List Nat) : Prop := Lets w ∧ Says e w ∧ ¬ Leads (Says f) w
def IsDiffer (e f : E) : Option (List Nat) → Prop
  | none => ∀ w, ¬ Bad e f w
  | some w => Bad e f w ∧ ∀ v, Bad e f v → num w ≤ num v
theorem differ_unique {e f : E} {a b : Option (List Nat)} (ha : IsDiffer e f a) (hb : IsDiffer e f b) : a = b := by
  cases a with
  | none =>
    cases b with
    | none => rfl
    | some w => exact absurd hb.1 (ha w)
  | some w =>
    cases b with
    | none => exact absurd ha.1 (hb w)
    | some v =>
      have h1 := ha.2 v hb.1
      have h2 := hb.2 w ha.1
      rw [num_inj ha.1.1 hb.1.1 (Nat.le_antisymm h1 h2)]

/-! ### The specification's nodes -/
def nx (l m : List E) (x : Node) (c : Nat) : Node := ⟨Gq02.sorted l.length (x.of_.flatMap (Gq02.moves l c)), Gq02.longer m x.info c⟩
def st0 (m : List E) : Node := ⟨[0], Gq02.begin_ m⟩
def at_ (l m : List E) (w : List Nat) : Node := w.foldl (nx l m) (st0 m)
theorem at_snoc (l m : List E) (w : List Nat) (c : Nat) : at_ l m (w ++ [c]) = nx l m (at_ l m w) c := by
  unfold at_
  rw [List.foldl_append]
  rfl
theorem run_snoc {mv : Nat → Nat → Nat → Prop} {p q c : Nat} {w : List Nat} : Run mv p (w ++ [c]) q ↔ ∃ r, Run mv p w r ∧ mv c r q := by
  induction w generalizing p with
  | nil =>
    constructor
    · intro h
      cases h with
      | cons a h =>
        cases h
        exact ⟨p, .nil p, a⟩
    · rintro ⟨r, h, a⟩
      cases h
      exact .cons a (.nil _)
  | cons d w ih =>
    constructor
    · intro h
      cases h with
      | cons a h =>
        obtain ⟨r, h1, h2⟩ := ih.mp h
        exact ⟨r, .cons a h1, h2⟩
    · rintro ⟨r, h, b⟩
      cases h with
      | cons a h => exact .cons a (ih.mpr ⟨r, h, b⟩)
/-- what a node says of the line that leads to it -/
structure NRep (l m : List E) (x : Node) (w : List Nat) : Prop where
  of_ : ∀ q, q ∈ x.of_ ↔ Run (SMv l) 0 w q
  info : Rep m x.info w
theorem nrep_nx {l m : List E} (gl : Good l) (gm : Good m) {x : Node} {w : List Nat} (r : NRep l m x w) {c : Nat} (hc : c ∈ Gq02.letters) : NRep l m (nx l m x c) (w ++ [c]) := by
  refine ⟨fun q => ?_, rep_longer gm r.info hc⟩
  show q ∈ Gq02.sorted l.length (x.of_.flatMap (Gq02.moves l c)) ↔ _
  rw [mem_sorted, run_snoc]
  simp only [List.mem_flatMap]
  constructor
  · rintro ⟨_, p, hp, h⟩
    exact ⟨p, (r.of_ p).mp hp, hc, h⟩
  · rintro ⟨p, hp, h⟩
    exact ⟨(smv_lt gl h).2, p, (r.of_ p).mpr hp, h.2⟩
theorem nrep_fold {l m : List E} (gl : Good l) (gm : Good m) : ∀ (v : List Nat) (x : Node) (w : List Nat), NRep l m x w → Lets v → NRep l m (v.foldl (nx l m) x) (w ++ v)
  | [], x, w, r, _ => by rw [List.append_nil]; exact r
  | c :: v, x, w, r, h => by
    have := nrep_fold gl gm v _ _ (nrep_nx gl gm r (h c List.mem_cons_self)) (fun d hd => h d (List.mem_cons_of_mem _ hd))
    rw [List.append_assoc _ _ _] at this
    exact this
theorem nrep_st0 {l m : List E} : NRep l m (st0 m) [] := by
  refine ⟨fun q => ?_, rep_begin⟩
  show q ∈ [0] ↔ _
  rw [List.mem_singleton]
  constructor
  · rintro rfl
    exact .nil _
  · intro h
    cases h
    rfl
theorem nrep_at {l m : List E} (gl : Good l) (gm : Good m) {w : List Nat} (h : Lets w) : NRep l m (at_ l m w) w := by
  have := nrep_fold gl gm w (st0 m) [] nrep_st0 h
  exact this
theorem shows_iff {e f : E} {w : List Nat} (h : Lets w) : Gq02.shows (Gq02.lefts e) (Gq02.lefts f) (at_ (Gq02.lefts e) (Gq02.lefts f) w, w) = true ↔ Bad e f w := by
  have r := nrep_at (good_lefts e) (good_lefts f) h
  have e1 := run_says (good_lefts e) w 0 h (good_lefts e).pos
  rw [lefts_zero] at e1
  have e2 := ends_iff (good_lefts f) r.info h
  rw [lefts_zero] at e2
  unfold Gq02.shows Bad
  rw [Bool.and_eq_true, List.any_eq_true, Bool.not_eq_true', ← e1, ← e2]
  constructor
  · rintro ⟨⟨q, hq, s⟩, k⟩
    exact ⟨h, ⟨q, (r.of_ q).mp hq, s⟩, by dsimp only at k; rw [k]; exact Bool.false_ne_true⟩
  · rintro ⟨_, ⟨q, hq, s⟩, k⟩
    exact ⟨⟨q, (r.of_ q).mpr hq, s⟩, by simpa using k⟩
theorem alive_snoc {l m : List E} {w : List Nat} {c : Nat} (h : (at_ l m (w ++ [c])).of_ ≠ []) : (at_ l m w).of_ ≠ [] := by
  intro k
  apply h
  rw [at_snoc]
  unfold nx
  rw [k]
  simp [Gq02.sorted]

/-! ### One layer's expansion -/
abbrev Item := Node × List Nat
def put (l m : List E) (x : Item) (a : List Node × List Item) (c : Nat) : List Node × List Item :=
  if (Gq02.onward l m x c).1.of_.isEmpty = true ∨ a.1.contains (Gq02.onward l m x c).1 = true then a else (a.1 ++ [(Gq02.onward l m x c).1], a.2 ++ [Gq02.onward l m x c])
structure Ex (l m : List E) (old : List Item) (k : Nat) (a : List Node × List Item) (bnd : Nat) (cov : List (List Nat)) : Prop where
  seen : a.1 = old.map (·.1) ++ a.2.map (·.1)
  nd : a.1.Nodup
  ok : ∀ y ∈ a.2, y.1 = at_ l m y.2 ∧ Lets y.2 ∧ y.2.length = k + 1
  lt : ∀ y ∈ a.2, num y.2 < bnd
  srt : a.2.Pairwise fun y z => num y.2 < num z.2
  cov : ∀ v ∈ cov, (at_ l m v).of_ ≠ [] → ∃ y ∈ old ++ a.2, y.1 = at_ l m v ∧ num y.2 ≤ num v
theorem ex_put {l m : List E} {old : List Item} {k : Nat} {a : List Node × List Item} {bnd : Nat} {cov : List (List Nat)} {x : Item} {c : Nat}
    (h : Ex l m old k a bnd cov) (hold : ∀ y ∈ old, Lets y.2 ∧ y.2.length ≤ k) (hx : x.1 = at_ l m x.2) (hl : Lets x.2) (hk : x.2.length = k) (hc : c ∈ Gq02.letters) (hb : bnd ≤ 6 * num x.2 + c) :
    Ex l m old k (put l m x a c) (6 * num x.2 + c + 1) ((x.2 ++ [c]) :: cov) := by
  have e1 : (Gq02.onward l m x c).1 = at_ l m (x.2 ++ [c]) := by
    rw [at_snoc, ← hx]
    rfl
  have e2 : (Gq02.onward l m x c).2 = x.2 ++ [c] := rfl
  have hn : num (x.2 ++ [c]) = 6 * num x.2 + c := num_snoc _ _
  have hls : Lets (x.2 ++ [c]) := lets_snoc hl hc
  have hlen : (x.2 ++ [c]).length = k + 1 := by rw [List.length_append, hk]; rfl
  unfold put
  rw [e1]
  by_cases t : (at_ l m (x.2 ++ [c])).of_.isEmpty = true ∨ a.1.contains (at_ l m (x.2 ++ [c])) = true
  · rw [if_pos t]
    refine ⟨h.seen, h.nd, h.ok, fun y hy => ?_, h.srt, fun v hv al => ?_⟩
    · have := h.lt y hy
      omega
    · rcases List.mem_cons.mp hv with rfl | hv
      · rcases t with t | t
        · exact absurd (List.isEmpty_iff.mp t) al
        · have t := List.contains_iff_mem.mp t
          rw [h.seen, ← List.map_append, List.mem_map] at t
          obtain ⟨y, hy, ey⟩ := t
          refine ⟨y, hy, ey, ?_⟩
          rcases List.mem_append.1 hy with hy | hy
          · have := hold y hy
            exact Nat.le_of_lt (num_len this.1 hls (by rw [hlen]; omega))
          · have := h.lt y hy
            omega
      · exact h.cov v hv al
  · rw [if_neg t]
    have t1 : ¬ (at_ l m (x.2 ++ [c])) ∈ a.1 := fun z => t (.inr (List.contains_iff_mem.mpr z))
    refine ⟨?_, ?_, fun y hy => ?_, fun y hy => ?_, ?_, fun v hv al => ?_⟩
    · dsimp only
      rw [h.seen, List.map_append, List.map_cons, List.map_nil, e1, List.append_assoc]
    · dsimp only
      rw [List.nodup_append]
      refine ⟨h.nd, by simp, ?_⟩
      intro p hp q hq
      rw [List.mem_singleton] at hq
      subst hq
      rintro rfl
      exact t1 hp
    · rcases List.mem_append.1 hy with hy | hy
      · exact h.ok y hy
      · rw [List.mem_singleton] at hy
        subst hy
        exact ⟨e1, hls, hlen⟩
    · rcases List.mem_append.1 hy with hy | hy
      · have := h.lt y hy
        omega
      · rw [List.mem_singleton] at hy
        subst hy
        rw [e2, hn]
        omega
    · dsimp only
      rw [List.pairwise_append]
      refine ⟨h.srt, by simp, fun y hy z hz => ?_⟩
      rw [List.mem_singleton] at hz
      subst hz
      have := h.lt y hy
      rw [e2, hn]
      omega
    · rcases List.mem_cons.mp hv with rfl | hv
      · exact ⟨Gq02.onward l m x c, by simp, e1, Nat.le_refl _⟩
      · obtain ⟨y, hy, ey⟩ := h.cov v hv al
        refine ⟨y, ?_, ey⟩
        rcases List.mem_append.1 hy with hy | hy
        · exact List.mem_append_left _ hy
        · exact List.mem_append_right _ (List.mem_append_left _ hy)
def covOf (x : Item) : List (List Nat) := [x.2 ++ [5], x.2 ++ [4], x.2 ++ [3], x.2 ++ [2]]
theorem ex_item {l m : List E} {old : List Item} {k : Nat} {a : List Node × List Item} {bnd : Nat} {cov : List (List Nat)} {x : Item}
    (h : Ex l m old k a bnd cov) (hold : ∀ y ∈ old, Lets y.2 ∧ y.2.length ≤ k) (hx : x.1 = at_ l m x.2) (hl : Lets x.2) (hk : x.2.length = k) (hb : bnd ≤ 6 * num x.2 + 2) :
    Ex l m old k (Gq02.letters.foldl (put l m x) a) (6 * num x.2 + 6) (covOf x ++ cov) := by
  have h2 := ex_put h hold hx hl hk (c := 2) (by decide) hb
  have h3 := ex_put h2 hold hx hl hk (c := 3) (by decide) (by omega)
  have h4 := ex_put h3 hold hx hl hk (c := 4) (by decide) (by omega)
  exact ex_put h4 hold hx hl hk (c := 5) (by decide) (by omega)
theorem ex_layer {l m : List E} {old : List Item} {k : Nat} (hold : ∀ y ∈ old, Lets y.2 ∧ y.2.length ≤ k) : ∀ (ls : List Item) (a : List Node × List Item) (bnd : Nat) (cov : List (List Nat)),
    Ex l m old k a bnd cov → (∀ x ∈ ls, x.1 = at_ l m x.2 ∧ Lets x.2 ∧ x.2.length = k ∧ bnd ≤ 6 * num x.2 + 2) → (ls.Pairwise fun y z => num y.2 < num z.2) →
    ∃ bnd' cov', Ex l m old k (ls.foldl (fun a x => Gq02.letters.foldl (put l m x) a) a) bnd' cov' ∧ (∀ v ∈ cov, v ∈ cov') ∧ ∀ x ∈ ls, ∀ v ∈ covOf x, v ∈ cov'
  | [], a, bnd, cov, h, _, _ => ⟨bnd, cov, h, fun _ z => z, fun _ z => by cases z⟩
  | x :: ls, a, bnd, cov, h, ok, s => by
    obtain ⟨o1, o2, o3, o4⟩ := ok x List.mem_cons_self
    have s := List.pairwise_cons.mp s
    have h1 := ex_item h hold o1 o2 o3 o4
    obtain ⟨b', c', r1, r2, r3⟩ := ex_layer hold ls _ _ _ h1 (fun y hy => by
      obtain ⟨p1, p2, p3, _⟩ := ok y (List.mem_cons_of_mem _ hy)
      have := s.1 y hy
      exact ⟨p1, p2, p3, by omega⟩) s.2
    refine ⟨b', c', r1, fun v hv => r2 v (List.mem_append_right _ hv), fun y hy v hv => ?_⟩
    rcases List.mem_cons.1 hy with rfl | hy
    · exact r2 v (List.mem_append_left _ hv)
    · exact r3 y hy v hv

/-! ### How many nodes there can be -/
def allB : Nat → List (List Bool)
  | 0 => [[]]
  | k + 1 => (allB k).map (true :: ·) ++ (allB k).map (false :: ·)
theorem allB_length : ∀ k, (allB k).length = 2 ^ k
  | 0 => rfl
  | k + 1 => by
    simp only [allB, List.length_append, List.length_map, allB_length k]
    omega
theorem mem_allB : ∀ l : List Bool, l ∈ allB l.length
  | [] => List.mem_singleton.mpr rfl
  | b :: l => by
    have := mem_allB l
    simp only [allB, List.length_cons, List.mem_append, List.mem_map]
    cases b
    · exact .inr ⟨l, this, rfl⟩
    · exact .inl ⟨l, this, rfl⟩
def sig (n k : Nat) (x : Node) : List Bool := (List.range n).map x.of_.contains ++ ((List.range k).map x.info.here.contains ++ (List.range (k * k)).map fun t => x.info.back.contains (t / k, t % k))
theorem sig_length (n k : Nat) (x : Node) : (sig n k x).length = n + k + k * k := by
  simp only [sig, List.length_append, List.length_map, List.length_range]
  omega
structure Norm (n k : Nat) (x : Node) : Prop where
  of_ : ∃ l, x.of_ = Gq02.sorted n l
  here : ∃ l, x.info.here = Gq02.sorted k l
  back : ∃ l, x.info.back = Gq02.sortedPairs k l
theorem map_range_eq {B : Type} {n : Nat} {f g : Nat → B} (h : (List.range n).map f = (List.range n).map g) : ∀ i, i < n → f i = g i := by
  intro i hi
  exact List.map_inj_left.mp h i (List.mem_range.mpr hi)
theorem flatMap_eq {A B : Type} {f g : A → List B} : ∀ (l : List A), (∀ x ∈ l, f x = g x) → l.flatMap f = l.flatMap g
  | [], _ => rfl
  | x :: l, h => by
    rw [List.flatMap_cons, List.flatMap_cons, h x List.mem_cons_self, flatMap_eq l (fun y hy => h y (List.mem_cons_of_mem _ hy))]
theorem sorted_eq {n : Nat} {l m : List Nat} (h : ∀ i, i < n → l.contains i = m.contains i) : Gq02.sorted n l = Gq02.sorted n m :=
  List.filter_congr fun i hi => h i (List.mem_range.mp hi)
theorem sortedPairs_eq {n : Nat} {l m : List (Nat × Nat)} (h : ∀ i j, i < n → j < n → l.contains (i, j) = m.contains (i, j)) : Gq02.sortedPairs n l = Gq02.sortedPairs n m := by
  unfold Gq02.sortedPairs
  refine flatMap_eq _ fun i hi => ?_
  rw [List.filter_congr fun j hj => h i j (List.mem_range.mp hi) (List.mem_range.mp hj)]
theorem bool_eq_of_iff {a b : Bool} (h : a = true ↔ b = true) : a = b := by
  cases b <;> cases a <;> simp_all
theorem sorted_idem {n : Nat} {l : List Nat} : Gq02.sorted n (Gq02.sorted n l) = Gq02.sorted n l := by
  refine sorted_eq fun i hi => bool_eq_of_iff ?_
  rw [List.contains_iff_mem, List.contains_iff_mem, mem_sorted]
  exact ⟨fun h => h.2, fun h => ⟨hi, h⟩⟩
theorem sortedPairs_idem {n : Nat} {l : List (Nat × Nat)} : Gq02.sortedPairs n (Gq02.sortedPairs n l) = Gq02.sortedPairs n l := by
  refine sortedPairs_eq fun i j hi hj => bool_eq_of_iff ?_
  rw [List.contains_iff_mem, List.contains_iff_mem, mem_sortedPairs]
  exact ⟨fun h => h.2.2, fun h => ⟨hi, hj, h⟩⟩
theorem sig_inj {n k : Nat} {x y : Node} (hx : Norm n k x) (hy : Norm n k y) (h : sig n k x = sig n k y) : x = y := by
  unfold sig at h
  obtain ⟨h1, h⟩ := List.append_inj h (by simp)
  obtain ⟨h2, h3⟩ := List.append_inj h (by simp)
  have e1 : x.of_ = y.of_ := by
    obtain ⟨l, hl⟩ := hx.of_
    obtain ⟨m, hm⟩ := hy.of_
    have : Gq02.sorted n x.of_ = Gq02.sorted n y.of_ := sorted_eq (map_range_eq h1)
    rw [hl, hm, sorted_idem, sorted_idem] at this
    rw [hl, hm, this]
  have e2 : x.info.here = y.info.here := by
    obtain ⟨l, hl⟩ := hx.here
    obtain ⟨m, hm⟩ := hy.here
    have : Gq02.sorted k x.info.here = Gq02.sorted k y.info.here := sorted_eq (map_range_eq h2)
    rw [hl, hm, sorted_idem, sorted_idem] at this
    rw [hl, hm, this]
  have e3 : x.info.back = y.info.back := by
    obtain ⟨l, hl⟩ := hx.back
    obtain ⟨m, hm⟩ := hy.back
    have : Gq02.sortedPairs k x.info.back = Gq02.sortedPairs k y.info.back := by
      refine sortedPairs_eq fun i j hi hj => ?_
      have hk : k * i + j < k * k := by
        have : k * (i + 1) ≤ k * k := Nat.mul_le_mul_left k hi
        rw [Nat.mul_add _ _ _, Nat.mul_one] at this
        omega
      have := map_range_eq h3 (k * i + j) hk
      have d : (k * i + j) / k = i := by
        rw [Nat.mul_add_div (by omega), Nat.div_eq_of_lt hj, Nat.add_zero]
      have r : (k * i + j) % k = j := by
        rw [Nat.mul_add_mod, Nat.mod_eq_of_lt hj]
      rw [d, r] at this
      exact this
    rw [hl, hm, sortedPairs_idem, sortedPairs_idem] at this
    rw [hl, hm, this]
  obtain ⟨xo, xh, xb⟩ := x
  obtain ⟨yo, yh, yb⟩ := y
  simp only at e1 e2 e3
  rw [e1, e2, e3]
theorem norm_nx {l m : List E} (gm : Good m) {x : Node} {c : Nat} : Norm l.length m.length (nx l m x c) := by
  refine ⟨⟨_, rfl⟩, ⟨_, rfl⟩, ?_⟩
  show ∃ r, Gq02.closed m.length m.length _ = _
  have := gm.pos
  obtain ⟨k, hk⟩ : ∃ k, m.length = k + 1 := ⟨m.length - 1, by omega⟩
  rw [hk, closed_succ]
  exact ⟨_, rfl⟩
theorem norm_at {l m : List E} (gm : Good m) {w : List Nat} (h : w ≠ []) : Norm l.length m.length (at_ l m w) := by
  rw [← List.dropLast_concat_getLast h, at_snoc]
  exact norm_nx gm
theorem count_nodes {n k : Nat} {xs : List Node} (nd : xs.Nodup) (h : ∀ x ∈ xs, Norm n k x) : xs.length ≤ 2 ^ (n + k + k * k) := by
  have h1 : (xs.map (sig n k)).Nodup := by
    unfold List.Nodup
    rw [List.pairwise_map]
    refine List.Pairwise.imp_of_mem ?_ nd
    intro x y hx hy ne e
    exact ne (sig_inj (h x hx) (h y hy) e)
  have h2 := nodup_sub_length _ (allB (n + k + k * k)) h1 (fun s hs => by
    obtain ⟨x, _, rfl⟩ := List.mem_map.mp hs
    have := mem_allB (sig n k x)
    rw [sig_length] at this
    exact this)
  rw [List.length_map, allB_length] at h2
  exact h2

/-! ### The search -/
structure Inv (l m : List E) (k : Nat) (done ls : List Item) (seen : List Node) : Prop where
  sn : seen = (done ++ ls).map (·.1)
  nd : seen.Nodup
  ok : ∀ x ∈ done ++ ls, x.1 = at_ l m x.2 ∧ Lets x.2 ∧ x.2.length ≤ k
  now : ∀ x ∈ ls, x.2.length = k
  srt : ls.Pairwise fun y z => num y.2 < num z.2
  root : ∃ x ∈ done ++ ls, x.2 = []
  cov : ∀ x ∈ done, ∀ c ∈ Gq02.letters, (at_ l m (x.2 ++ [c])).of_ ≠ [] → ∃ y ∈ done ++ ls, y.1 = at_ l m (x.2 ++ [c]) ∧ num y.2 ≤ num (x.2 ++ [c])
  no : ∀ x ∈ done, Gq02.shows l m x = false
theorem shows_of_node {l m : List E} {x y : Item} (h : x.1 = y.1) : Gq02.shows l m x = Gq02.shows l m y := by
  unfold Gq02.shows
  rw [h]
theorem shows_alive {l m : List E} {x : Item} (h : Gq02.shows l m x = true) : x.1.of_ ≠ [] := by
  intro e
  unfold Gq02.shows at h
  rw [e] at h
  simp at h
theorem at_cons_snoc {l m : List E} {x : List Nat} {y : List Nat} (h : at_ l m x = at_ l m y) (c : Nat) : at_ l m (x ++ [c]) = at_ l m (y ++ [c]) := by
  rw [at_snoc, at_snoc, h]
/-- the way of a line through the layers -/
theorem trace {l m : List E} {k : Nat} {done ls : List Item} {seen : List Node} (I : Inv l m k done ls seen) : ∀ (n : Nat) (v : List Nat), v.length = n → Lets v → (at_ l m v).of_ ≠ [] →
    (∃ y ∈ done, y.1 = at_ l m v ∧ num y.2 ≤ num v) ∨ (∃ u t, v = u ++ t ∧ ∃ y ∈ ls, y.1 = at_ l m u ∧ num y.2 ≤ num u)
  | 0, v, hn, _, _ => by
    obtain rfl := List.eq_nil_of_length_eq_zero hn
    obtain ⟨x, hx, e⟩ := I.root
    have o := (I.ok x hx).1
    rw [e] at o
    rcases List.mem_append.1 hx with hx | hx
    · exact .inl ⟨x, hx, o, by rw [e]; exact Nat.le_refl _⟩
    · exact .inr ⟨[], [], rfl, x, hx, o, by rw [e]; exact Nat.le_refl _⟩
  | n + 1, v, hn, hl, al => by
    have hv : v ≠ [] := by
      rintro rfl
      simp at hn
    obtain ⟨u, c, rfl⟩ : ∃ u c, v = u ++ [c] := ⟨v.dropLast, v.getLast hv, (List.dropLast_concat_getLast hv).symm⟩
    have hu : u.length = n := by simpa using hn
    rcases trace I n u hu (lets_left hl) (alive_snoc al) with ⟨y, hy, e, le⟩ | ⟨u', t, e, r⟩
    · have ho := (I.ok y (List.mem_append_left _ hy))
      have ec : at_ l m (y.2 ++ [c]) = at_ l m (u ++ [c]) := at_cons_snoc (ho.1.symm.trans e) c
      have hc : c ∈ Gq02.letters := hl c (by simp)
      obtain ⟨z, hz, ez, lz⟩ := I.cov y hy c hc (by rw [ec]; exact al)
      have lz' : num z.2 ≤ num (u ++ [c]) := by
        rw [num_snoc] at lz ⊢
        omega
      rcases List.mem_append.mp hz with hz | hz
      · exact .inl ⟨z, hz, ez.trans ec, lz'⟩
      · exact .inr ⟨u ++ [c], [], by simp, z, hz, ez.trans ec, lz'⟩
    · subst e
      exact .inr ⟨u', t ++ [c], by rw [List.append_assoc], r⟩
theorem find_first {l m : List E} : ∀ {ls : List Item} {x : Item}, ls.find? (Gq02.shows l m) = some x → (ls.Pairwise fun y z => num y.2 < num z.2) → x ∈ ls ∧ Gq02.shows l m x = true ∧ ∀ y ∈ ls, Gq02.shows l m y = true → num x.2 ≤ num y.2
  | [], _, h, _ => by cases h
  | z :: ls, x, h, s => by
    have s := List.pairwise_cons.mp s
    rw [List.find?_cons] at h
    by_cases t : Gq02.shows l m z = true
    · rw [t] at h
      cases h
      refine ⟨List.mem_cons_self, t, fun y hy _ => ?_⟩
      rcases List.mem_cons.1 hy with rfl | hy
      · exact Nat.le_refl _
      · exact Nat.le_of_lt (s.1 y hy)
    · have t : Gq02.shows l m z = false := by simpa using t
      rw [t] at h
      obtain ⟨h1, h2, h3⟩ := find_first h s.2
      refine ⟨List.mem_cons_of_mem _ h1, h2, fun y hy k => ?_⟩
      rcases List.mem_cons.1 hy with rfl | hy
      · rw [t] at k
        cases k
      · exact h3 y hy k
theorem search_is {e f : E} : ∀ (fuel k : Nat) (done ls : List Item) (seen : List Node), Inv (Gq02.lefts e) (Gq02.lefts f) k done ls seen →
    2 ^ ((Gq02.lefts e).length + (Gq02.lefts f).length + (Gq02.lefts f).length * (Gq02.lefts f).length) + 1 ≤ fuel + done.length →
    IsDiffer e f (Gq02.search (Gq02.lefts e) (Gq02.lefts f) fuel seen ls)
  | fuel, k, done, ls, seen, I, hf => by
    have ended : ls = [] → ∀ w, ¬ Bad e f w := by
      intro hl w hw
      have s := (shows_iff hw.1).mpr hw
      rcases trace I _ w rfl hw.1 (shows_alive s) with ⟨y, hy, e1, _⟩ | ⟨_, _, _, y, hy, _⟩
      · have := I.no y hy
        rw [shows_of_node (y := (at_ (Gq02.lefts e) (Gq02.lefts f) w, w)) e1, s] at this
        cases this
      · rw [hl] at hy
        cases hy
    cases fuel with
    | zero =>
      show ∀ w, ¬ Bad e f w
      apply ended
      apply Decidable.byContradiction
      intro hne
      have hp : 0 < ls.length := List.length_pos_iff.mpr hne
      obtain ⟨r, hr, er⟩ := I.root
      have hx := (I.ok r hr).1
      have hrs : r.1 ∈ seen := by
        rw [I.sn]
        exact List.mem_map.mpr ⟨r, hr, rfl⟩
      have c := count_nodes (n := (Gq02.lefts e).length) (k := (Gq02.lefts f).length) (xs := seen.erase r.1) (I.nd.erase _) (fun x hx' => by
        have m1 := List.mem_of_mem_erase hx'
        rw [I.sn] at m1
        obtain ⟨y, hy, rfl⟩ := List.mem_map.mp m1
        rw [(I.ok y hy).1]
        refine norm_at (good_lefts f) fun e0 => ?_
        have : y.1 = r.1 := by rw [(I.ok y hy).1, hx, e0, er]
        rw [this] at hx'
        exact (List.Nodup.not_mem_erase I.nd) hx')
      rw [List.length_erase_of_mem hrs, I.sn, List.length_map, List.length_append] at c
      omega
    | succ fuel =>
      unfold Gq02.search
      cases hfind : ls.find? (Gq02.shows (Gq02.lefts e) (Gq02.lefts f)) with
      | some x =>
        dsimp only
        obtain ⟨x1, x2, x3⟩ := find_first hfind I.srt
        obtain ⟨o1, o2, o3⟩ := I.ok x (List.mem_append_right _ x1)
        have hx : Bad e f x.2 := (shows_iff o2).mp (by rw [shows_of_node (y := x) o1.symm]; exact x2)
        refine ⟨hx, fun v hv => ?_⟩
        have s := (shows_iff hv.1).mpr hv
        rcases trace I _ v rfl hv.1 (shows_alive s) with ⟨y, hy, e1, _⟩ | ⟨u, t, e0, y, hy, e1, le⟩
        · have := I.no y hy
          rw [shows_of_node (y := (at_ (Gq02.lefts e) (Gq02.lefts f) v, v)) e1, s] at this
          cases this
        · cases t with
          | nil =>
            rw [List.append_nil] at e0
            subst e0
            have := x3 y hy (by rw [shows_of_node (y := (at_ (Gq02.lefts e) (Gq02.lefts f) v, v)) e1]; exact s)
            omega
          | cons d t =>
            have hy2 := I.ok y (List.mem_append_right _ hy)
            have hul : Lets u := by
              rw [e0] at hv
              exact lets_left hv.1
            have l1 : y.2.length ≤ u.length := by
              apply Decidable.byContradiction
              intro z
              have := num_len hul hy2.2.1 (by omega)
              omega
            have l2 := I.now y hy
            have l3 := I.now x x1
            refine Nat.le_of_lt (num_len o2 hv.1 ?_)
            rw [e0, List.length_append, List.length_cons]
            omega
      | none =>
        dsimp only
        have hno : ∀ x ∈ ls, Gq02.shows (Gq02.lefts e) (Gq02.lefts f) x = false := by
          intro x hx
          have := List.find?_eq_none.mp hfind x hx
          simpa using this
        cases ls with
        | nil => exact ended rfl
        | cons x0 ls0 =>
          dsimp only
          have hold : ∀ y ∈ done ++ (x0 :: ls0), Lets y.2 ∧ y.2.length ≤ k := fun y hy => (I.ok y hy).2
          obtain ⟨b', c', r1, r2, r3⟩ := ex_layer (l := Gq02.lefts e) (m := Gq02.lefts f) (old := done ++ (x0 :: ls0)) (k := k) hold (x0 :: ls0) (seen, []) 0 []
            ⟨by simpa using I.sn, I.nd, fun y hy => (nomatch hy), fun y hy => (nomatch hy), by simp, fun v hv => (nomatch hv)⟩
            (fun x hx => by
              obtain ⟨o1, o2, _⟩ := I.ok x (List.mem_append_right _ hx)
              exact ⟨o1, o2, I.now x hx, by omega⟩) I.srt
          refine search_is fuel (k + 1) (done ++ (x0 :: ls0)) _ _ ⟨?_, r1.nd, fun x hx => ?_, fun x hx => (r1.ok x hx).2.2, r1.srt, ?_, fun x hx c hc al => ?_, fun x hx => ?_⟩ ?_
          · rw [List.map_append]
            exact r1.seen
          · rcases List.mem_append.1 hx with hx | hx
            · obtain ⟨o1, o2, o3⟩ := I.ok x hx
              exact ⟨o1, o2, by omega⟩
            · obtain ⟨o1, o2, o3⟩ := r1.ok x hx
              exact ⟨o1, o2, by omega⟩
          · obtain ⟨x, hx, e0⟩ := I.root
            exact ⟨x, List.mem_append_left _ hx, e0⟩
          · rcases List.mem_append.1 hx with hx | hx
            · obtain ⟨y, hy, e1⟩ := I.cov x hx c hc al
              exact ⟨y, List.mem_append_left _ hy, e1⟩
            · refine r1.cov _ (r3 x hx _ ?_) al
              simp only [Gq02.letters, List.mem_cons, List.not_mem_nil, or_false] at hc
              rcases hc with rfl | rfl | rfl | rfl <;> simp [covOf]
          · rcases List.mem_append.1 hx with hx | hx
            · exact I.no x hx
            · exact hno x hx
          · rw [List.length_append, List.length_cons]
            omega
theorem differ_is (e f : E) : IsDiffer e f (Gq02.differ e f) := by
  unfold Gq02.differ
  refine search_is _ 0 [] [(st0 (Gq02.lefts f), [])] _ ⟨rfl, by simp, fun x hx => ?_, fun x hx => ?_, by simp, ⟨(st0 (Gq02.lefts f), []), by simp, rfl⟩, fun x hx => (nomatch hx), fun x hx => (nomatch hx)⟩ ?_
  · simp only [List.nil_append, List.mem_singleton] at hx
    subst hx
    exact ⟨rfl, fun c hc => (nomatch hc), Nat.le_refl _⟩
  · rw [List.mem_singleton] at hx
    subst hx
    rfl
  · simp
end Wa

namespace Wa
open Gq02 (E Says stays steps)

/-! ### The places of an expression's letters: b is how many stand ahead of it -/
def First : E → Nat → Nat → Prop
  | .no, _, _ => False
  | .stay, _, _ => False
  | .step _, b, k => k = b + 1
  | .seq e f, b, k => First e b k ∨ (stays e = true ∧ First f (b + steps e) k)
  | .alt e f, b, k => First e b k ∨ First f (b + steps e) k
  | .star e, b, k => First e b k
def Last : E → Nat → Nat → Prop
  | .no, _, _ => False
  | .stay, _, _ => False
  | .step _, b, k => k = b + 1
  | .seq e f, b, k => Last f (b + steps e) k ∨ (stays f = true ∧ Last e b k)
  | .alt e f, b, k => Last e b k ∨ Last f (b + steps e) k
  | .star e, b, k => Last e b k
def Fol : E → Nat → Nat → Nat → Prop
  | .no, _, _, _ => False
  | .stay, _, _, _ => False
  | .step _, _, _, _ => False
  | .seq e f, b, k, j => Fol e b k j ∨ Fol f (b + steps e) k j ∨ (Last e b k ∧ First f (b + steps e) j)
  | .alt e f, b, k, j => Fol e b k j ∨ Fol f (b + steps e) k j
  | .star e, b, k, j => Fol e b k j ∨ (Last e b k ∧ First e b j)
def Lab : E → Nat → Nat → Nat → Prop
  | .no, _, _, _ => False
  | .stay, _, _, _ => False
  | .step d, b, k, c => k = b + 1 ∧ c = d
  | .seq e f, b, k, c => Lab e b k c ∨ Lab f (b + steps e) k c
  | .alt e f, b, k, c => Lab e b k c ∨ Lab f (b + steps e) k c
  | .star e, b, k, c => Lab e b k c
/-- what may still be gone behind the letter at a place -/
def Con : E → Nat → Nat → List Nat → Prop
  | .no, _, _, _ => False
  | .stay, _, _, _ => False
  | .step _, b, k, w => k = b + 1 ∧ w = []
  | .seq e f, b, k, w => (∃ u v, w = u ++ v ∧ Con e b k u ∧ Says f v) ∨ Con f (b + steps e) k w
  | .alt e f, b, k, w => Con e b k w ∨ Con f (b + steps e) k w
  | .star e, b, k, w => ∃ u v, w = u ++ v ∧ Con e b k u ∧ Says (.star e) v
theorem first_in : ∀ (e : E) (b k : Nat), First e b k → b < k ∧ k ≤ b + steps e
  | .no, _, _, h => h.elim
  | .stay, _, _, h => h.elim
  | .step _, b, k, h => by simp only [First] at h; simp only [steps]; omega
  | .seq e f, b, k, h => by
    simp only [steps]
    rcases h with h | ⟨_, h⟩
    · have := first_in e b k h; omega
    · have := first_in f _ k h; omega
  | .alt e f, b, k, h => by
    simp only [steps]
    rcases h with h | h
    · have := first_in e b k h; omega
    · have := first_in f _ k h; omega
  | .star e, b, k, h => first_in e b k h
theorem last_in : ∀ (e : E) (b k : Nat), Last e b k → b < k ∧ k ≤ b + steps e
  | .no, _, _, h => h.elim
  | .stay, _, _, h => h.elim
  | .step _, b, k, h => by simp only [Last] at h; simp only [steps]; omega
  | .seq e f, b, k, h => by
    simp only [steps]
    rcases h with h | ⟨_, h⟩
    · have := last_in f _ k h; omega
    · have := last_in e b k h; omega
  | .alt e f, b, k, h => by
    simp only [steps]
    rcases h with h | h
    · have := last_in e b k h; omega
    · have := last_in f _ k h; omega
  | .star e, b, k, h => last_in e b k h
theorem fol_in : ∀ (e : E) (b k j : Nat), Fol e b k j → (b < k ∧ k ≤ b + steps e) ∧ (b < j ∧ j ≤ b + steps e)
  | .no, _, _, _, h => h.elim
  | .stay, _, _, _, h => h.elim
  | .step _, _, _, _, h => h.elim
  | .seq e f, b, k, j, h => by
    simp only [steps]
    rcases h with h | h | ⟨h1, h2⟩
    · have := fol_in e b k j h; omega
    · have := fol_in f _ k j h; omega
    · have := last_in e b k h1
      have := first_in f _ j h2
      omega
  | .alt e f, b, k, j, h => by
    simp only [steps]
    rcases h with h | h
    · have := fol_in e b k j h; omega
    · have := fol_in f _ k j h; omega
  | .star e, b, k, j, h => by
    simp only [steps]
    rcases h with h | ⟨h1, h2⟩
    · exact fol_in e b k j h
    · exact ⟨last_in e b k h1, first_in e b j h2⟩
theorem lab_in : ∀ (e : E) (b k c : Nat), Lab e b k c → b < k ∧ k ≤ b + steps e
  | .no, _, _, _, h => h.elim
  | .stay, _, _, _, h => h.elim
  | .step _, b, k, c, h => by simp only [Lab] at h; simp only [steps]; omega
  | .seq e f, b, k, c, h => by
    simp only [steps]
    rcases h with h | h
    · have := lab_in e b k c h; omega
    · have := lab_in f _ k c h; omega
  | .alt e f, b, k, c, h => by
    simp only [steps]
    rcases h with h | h
    · have := lab_in e b k c h; omega
    · have := lab_in f _ k c h; omega
  | .star e, b, k, c, h => lab_in e b k c h
theorem con_in : ∀ (e : E) (b k : Nat) (w : List Nat), Con e b k w → b < k ∧ k ≤ b + steps e
  | .no, _, _, _, h => h.elim
  | .stay, _, _, _, h => h.elim
  | .step _, b, k, w, h => by simp only [Con] at h; simp only [steps]; omega
  | .seq e f, b, k, w, h => by
    simp only [steps]
    rcases h with ⟨u, _, _, h, _⟩ | h
    · have := con_in e b k u h; omega
    · have := con_in f _ k w h; omega
  | .alt e f, b, k, w, h => by
    simp only [steps]
    rcases h with h | h
    · have := con_in e b k w h; omega
    · have := con_in f _ k w h; omega
  | .star e, b, k, w, h => by
    obtain ⟨u, _, _, h, _⟩ := h
    exact con_in e b k u h
/-- the first letter -/
theorem says_first : ∀ (e : E) (b c : Nat) (w : List Nat), Says e (c :: w) ↔ ∃ k, First e b k ∧ Lab e b k c ∧ Con e b k w
  | .no, b, c, w => by simp [First, says_no]
  | .stay, b, c, w => by simp [First, says_stay]
  | .step d, b, c, w => by
    rw [says_step]
    simp only [First, Lab, Con]
    constructor
    · intro h
      cases h
      exact ⟨b + 1, rfl, ⟨rfl, rfl⟩, rfl, rfl⟩
    · rintro ⟨k, _, ⟨_, rfl⟩, _, rfl⟩
      rfl
  | .seq e f, b, c, w => by
    rw [says_seq_cons]
    simp only [First, Lab, Con]
    constructor
    · rintro (⟨u, v, rfl, h, h'⟩ | ⟨h, h'⟩)
      · obtain ⟨k, h1, h2, h3⟩ := (says_first e b c u).mp h
        exact ⟨k, .inl h1, .inl h2, .inl ⟨u, v, rfl, h3, h'⟩⟩
      · obtain ⟨k, h1, h2, h3⟩ := (says_first f (b + steps e) c w).mp h'
        exact ⟨k, .inr ⟨(stays_iff e).mpr h, h1⟩, .inr h2, .inr h3⟩
    · rintro ⟨k, h1, h2, h3⟩
      rcases h1 with h1 | ⟨s, h1⟩
      · have r := first_in e b k h1
        have h2 : Lab e b k c := by
          rcases h2 with h2 | h2
          · exact h2
          · have := lab_in f _ k c h2; omega
        rcases h3 with ⟨u, v, rfl, h3, h'⟩ | h3
        · exact .inl ⟨u, v, rfl, (says_first e b c u).mpr ⟨k, h1, h2, h3⟩, h'⟩
        · have := con_in f _ k w h3; omega
      · have r := first_in f _ k h1
        have h2 : Lab f (b + steps e) k c := by
          rcases h2 with h2 | h2
          · have := lab_in e _ k c h2; omega
          · exact h2
        rcases h3 with ⟨u, v, rfl, h3, h'⟩ | h3
        · have := con_in e _ k u h3; omega
        · exact .inr ⟨(stays_iff e).mp s, (says_first f _ c w).mpr ⟨k, h1, h2, h3⟩⟩
  | .alt e f, b, c, w => by
    rw [says_alt, says_first e b c w, says_first f (b + steps e) c w]
    simp only [First, Lab, Con]
    constructor
    · rintro (⟨k, h1, h2, h3⟩ | ⟨k, h1, h2, h3⟩)
      · exact ⟨k, .inl h1, .inl h2, .inl h3⟩
      · exact ⟨k, .inr h1, .inr h2, .inr h3⟩
    · rintro ⟨k, h1, h2, h3⟩
      rcases h1 with h1 | h1
      · have r := first_in e b k h1
        refine .inl ⟨k, h1, ?_, ?_⟩
        · rcases h2 with h2 | h2
          · exact h2
          · have := lab_in f _ k c h2; omega
        · rcases h3 with h3 | h3
          · exact h3
          · have := con_in f _ k w h3; omega
      · have r := first_in f _ k h1
        refine .inr ⟨k, h1, ?_, ?_⟩
        · rcases h2 with h2 | h2
          · have := lab_in e _ k c h2; omega
          · exact h2
        · rcases h3 with h3 | h3
          · have := con_in e _ k w h3; omega
          · exact h3
  | .star e, b, c, w => by
    rw [says_star_cons]
    simp only [First, Lab, Con]
    constructor
    · rintro ⟨u, v, rfl, h, h'⟩
      obtain ⟨k, h1, h2, h3⟩ := (says_first e b c u).mp h
      exact ⟨k, h1, h2, u, v, rfl, h3, h'⟩
    · rintro ⟨k, h1, h2, u, v, rfl, h3, h'⟩
      exact ⟨u, v, rfl, (says_first e b c u).mpr ⟨k, h1, h2, h3⟩, h'⟩
theorem con_nil : ∀ (e : E) (b k : Nat), Con e b k [] ↔ Last e b k
  | .no, _, _ => Iff.rfl
  | .stay, _, _ => Iff.rfl
  | .step _, b, k => by simp [Con, Last]
  | .seq e f, b, k => by
    simp only [Con, Last]
    constructor
    · rintro (⟨u, v, h, h1, h2⟩ | h)
      · obtain ⟨rfl, rfl⟩ := List.append_eq_nil_iff.mp h.symm
        exact .inr ⟨(stays_iff f).mpr h2, (con_nil e b k).mp h1⟩
      · exact .inl ((con_nil f _ k).mp h)
    · rintro (h | ⟨h1, h2⟩)
      · exact .inr ((con_nil f _ k).mpr h)
      · exact .inl ⟨[], [], rfl, (con_nil e b k).mpr h2, (stays_iff f).mp h1⟩
  | .alt e f, b, k => by
    simp only [Con, Last, con_nil e b k, con_nil f (b + steps e) k]
  | .star e, b, k => by
    simp only [Con, Last]
    constructor
    · rintro ⟨u, v, h, h1, h2⟩
      obtain ⟨rfl, rfl⟩ := List.append_eq_nil_iff.mp h.symm
      exact (con_nil e b k).mp h1
    · intro h
      exact ⟨[], [], rfl, (con_nil e b k).mpr h, .none e⟩
theorem con_cons : ∀ (e : E) (b k c : Nat) (w : List Nat), Con e b k (c :: w) ↔ ∃ j, Fol e b k j ∧ Lab e b j c ∧ Con e b j w
  | .no, _, _, _, _ => by simp [Con, Fol]
  | .stay, _, _, _, _ => by simp [Con, Fol]
  | .step _, _, _, _, _ => by simp [Con, Fol]
  | .seq e f, b, k, c, w => by
    simp only [Con, Fol, Lab]
    constructor
    · rintro (⟨u, v, h, h1, h2⟩ | h)
      · cases u with
        | nil =>
          have h2 : Says f (c :: w) := by rw [h]; exact h2
          obtain ⟨j, j1, j2, j3⟩ := (says_first f (b + steps e) c w).mp h2
          exact ⟨j, .inr (.inr ⟨(con_nil e b k).mp h1, j1⟩), .inr j2, .inr j3⟩
        | cons d u =>
          cases h
          obtain ⟨j, j1, j2, j3⟩ := (con_cons e b k c u).mp h1
          exact ⟨j, .inl j1, .inl j2, .inl ⟨u, v, rfl, j3, h2⟩⟩
      · obtain ⟨j, j1, j2, j3⟩ := (con_cons f _ k c w).mp h
        exact ⟨j, .inr (.inl j1), .inr j2, .inr j3⟩
    · rintro ⟨j, h1, h2, h3⟩
      rcases h1 with h1 | h1 | ⟨h0, h1⟩
      · have r := fol_in e b k j h1
        have h2 : Lab e b j c := by
          rcases h2 with h2 | h2
          · exact h2
          · have := lab_in f _ j c h2; omega
        rcases h3 with ⟨u, v, rfl, h3, h'⟩ | h3
        · exact .inl ⟨c :: u, v, rfl, (con_cons e b k c u).mpr ⟨j, h1, h2, h3⟩, h'⟩
        · have := con_in f _ j w h3; omega
      · have r := fol_in f _ k j h1
        have h2 : Lab f (b + steps e) j c := by
          rcases h2 with h2 | h2
          · have := lab_in e _ j c h2; omega
          · exact h2
        rcases h3 with ⟨u, v, rfl, h3, h'⟩ | h3
        · have := con_in e _ j u h3; omega
        · exact .inr ((con_cons f _ k c w).mpr ⟨j, h1, h2, h3⟩)
      · have r := first_in f _ j h1
        have h2 : Lab f (b + steps e) j c := by
          rcases h2 with h2 | h2
          · have := lab_in e _ j c h2; omega
          · exact h2
        rcases h3 with ⟨u, v, rfl, h3, h'⟩ | h3
        · have := con_in e _ j u h3; omega
        · exact .inl ⟨[], c :: w, rfl, (con_nil e b k).mpr h0, (says_first f _ c w).mpr ⟨j, h1, h2, h3⟩⟩
  | .alt e f, b, k, c, w => by
    simp only [Con, Fol, Lab]
    rw [con_cons e b k c w, con_cons f (b + steps e) k c w]
    constructor
    · rintro (⟨k, h1, h2, h3⟩ | ⟨k, h1, h2, h3⟩)
      · exact ⟨k, .inl h1, .inl h2, .inl h3⟩
      · exact ⟨k, .inr h1, .inr h2, .inr h3⟩
    · rintro ⟨j, h1, h2, h3⟩
      rcases h1 with h1 | h1
      · have r := fol_in e b k j h1
        refine .inl ⟨j, h1, ?_, ?_⟩
        · rcases h2 with h2 | h2
          · exact h2
          · have := lab_in f _ j c h2; omega
        · rcases h3 with h3 | h3
          · exact h3
          · have := con_in f _ j w h3; omega
      · have r := fol_in f _ k j h1
        refine .inr ⟨j, h1, ?_, ?_⟩
        · rcases h2 with h2 | h2
          · have := lab_in e _ j c h2; omega
          · exact h2
        · rcases h3 with h3 | h3
          · have := con_in e _ j w h3; omega
          · exact h3
  | .star e, b, k, c, w => by
    simp only [Con, Fol, Lab]
    constructor
    · rintro ⟨u, v, h, h1, h2⟩
      cases u with
      | nil =>
        have h2 : Says (.star e) (c :: w) := by rw [h]; exact h2
        obtain ⟨u', v', rfl, h3, h4⟩ := says_star_cons.mp h2
        obtain ⟨j, j1, j2, j3⟩ := (says_first e b c u').mp h3
        exact ⟨j, .inr ⟨(con_nil e b k).mp h1, j1⟩, j2, u', v', rfl, j3, h4⟩
      | cons d u =>
        cases h
        obtain ⟨j, j1, j2, j3⟩ := (con_cons e b k c u).mp h1
        exact ⟨j, .inl j1, j2, u, v, rfl, j3, h2⟩
    · rintro ⟨j, h1, h2, u, v, rfl, h3, h'⟩
      rcases h1 with h1 | ⟨h0, h1⟩
      · exact ⟨c :: u, v, rfl, (con_cons e b k c u).mpr ⟨j, h1, h2, h3⟩, h'⟩
      · exact ⟨[], c :: (u ++ v), rfl, (con_nil e b k).mpr h0, says_star_cons.mpr ⟨u, v, rfl, (says_first e b c u).mpr ⟨j, h1, h2, h3⟩, h'⟩⟩

/-! ### The machine by its letters' places -/
def GMv (e : E) (c p q : Nat) : Prop := ((p = 0 ∧ First e 0 q) ∨ Fol e 0 p q) ∧ Lab e 0 q c
def GFin (e : E) (q : Nat) : Prop := (q = 0 ∧ stays e = true) ∨ Last e 0 q
theorem grun_con (e : E) : ∀ (w : List Nat) (p : Nat), 0 < p → ((∃ q, Run (GMv e) p w q ∧ GFin e q) ↔ Con e 0 p w)
  | [], p, hp => by
    rw [con_nil]
    constructor
    · rintro ⟨q, h, f⟩
      cases h
      rcases f with ⟨f, _⟩ | f
      · omega
      · exact f
    · intro h
      exact ⟨p, .nil p, .inr h⟩
  | c :: w, p, hp => by
    rw [con_cons]
    constructor
    · rintro ⟨q, h, f⟩
      cases h with
      | @cons _ _ j _ _ a h =>
        have hj := (lab_in e 0 j c a.2).1
        refine ⟨j, ?_, a.2, (grun_con e w j hj).mp ⟨q, h, f⟩⟩
        rcases a.1 with ⟨z, _⟩ | z
        · omega
        · exact z
    · rintro ⟨j, h1, h2, h3⟩
      have hj := (lab_in e 0 j c h2).1
      obtain ⟨q, h, f⟩ := (grun_con e w j hj).mpr h3
      exact ⟨q, .cons ⟨.inr h1, h2⟩ h, f⟩
theorem grun_says (e : E) : ∀ (w : List Nat), (∃ q, Run (GMv e) 0 w q ∧ GFin e q) ↔ Says e w
  | [] => by
    rw [← stays_iff]
    constructor
    · rintro ⟨q, h, f⟩
      cases h
      rcases f with ⟨_, f⟩ | f
      · exact f
      · have := last_in e 0 0 f; omega
    · intro h
      exact ⟨0, .nil 0, .inl ⟨rfl, h⟩⟩
  | c :: w => by
    rw [says_first e 0 c w]
    constructor
    · rintro ⟨q, h, f⟩
      cases h with
      | @cons _ _ j _ _ a h =>
        have hj := (lab_in e 0 j c a.2).1
        refine ⟨j, ?_, a.2, (grun_con e w j hj).mp ⟨q, h, f⟩⟩
        rcases a.1 with ⟨_, z⟩ | z
        · exact z
        · have := fol_in e 0 0 j z; omega
    · rintro ⟨j, h1, h2, h3⟩
      have hj := (lab_in e 0 j c h2).1
      obtain ⟨q, h, f⟩ := (grun_con e w j hj).mpr h3
      exact ⟨q, .cons ⟨.inl ⟨rfl, h1⟩, h2⟩ h, f⟩
theorem gmv_in {e : E} {c p q : Nat} (h : GMv e c p q) : p ≤ steps e ∧ 0 < q ∧ q ≤ steps e := by
  obtain ⟨h1, h2⟩ := h
  have := lab_in e 0 q c h2
  rcases h1 with ⟨h1, _⟩ | h1
  · omega
  · have := fol_in e 0 p q h1; omega
theorem gfin_in {e : E} {q : Nat} (h : GFin e q) : q ≤ steps e := by
  rcases h with ⟨h, _⟩ | h
  · omega
  · have := last_in e 0 q h; omega
/-- leading along, by the machine -/
theorem gleads (e : E) (w : List Nat) : (∃ q, TW (GMv e) w 0 0 q w.length ∧ GFin e q) ↔ Leads (Says e) w := by
  constructor
  · rintro ⟨q, h, f⟩
    obtain ⟨u, h1, h2⟩ := tw_iff.mp h
    exact ⟨u, (grun_says e u).mp ⟨q, h2, f⟩, h1⟩
  · rintro ⟨u, h1, h2⟩
    obtain ⟨q, h, f⟩ := (grun_says e u).mpr h1
    exact ⟨q, tw_iff.mpr ⟨u, h2, h⟩, f⟩
end Wa

namespace Wa
open Gq02 (E Says stays steps turned)

/-! ### The parts of a code -/
abbrev Part := Nat × Nat
def flat : E → List Part
  | .no => []
  | .stay => [(0, 0)]
  | .step c => [(1, c)]
  | .seq e f => (2, 0) :: (flat e ++ flat f)
  | .alt e f => (3, 0) :: (flat e ++ flat f)
  | .star e => (4, 0) :: flat e
def Real : E → Prop
  | .no => False
  | .stay => True
  | .step _ => True
  | .seq e f => Real e ∧ Real f
  | .alt e f => Real e ∧ Real f
  | .star e => Real e
def lets : E → List Nat
  | .no => []
  | .stay => []
  | .step c => [c]
  | .seq e f => lets e ++ lets f
  | .alt e f => lets e ++ lets f
  | .star e => lets e
theorem lets_length : ∀ e : E, (lets e).length = steps e
  | .no => rfl
  | .stay => rfl
  | .step _ => rfl
  | .seq e f => by simp only [lets, steps, List.length_append, lets_length e, lets_length f]
  | .alt e f => by simp only [lets, steps, List.length_append, lets_length e, lets_length f]
  | .star e => lets_length e
/-- the letters among the parts -/
def lettersIn (ps : List Part) : List Nat := (ps.filter fun p => p.1 == 1).map (·.2)
theorem lettersIn_flat : ∀ e : E, lettersIn (flat e) = lets e
  | .no => rfl
  | .stay => rfl
  | .step _ => rfl
  | .seq e f => by
    have h1 := lettersIn_flat e
    have h2 := lettersIn_flat f
    unfold lettersIn at h1 h2 ⊢
    simp [flat, lets, h1, h2]
  | .alt e f => by
    have h1 := lettersIn_flat e
    have h2 := lettersIn_flat f
    unfold lettersIn at h1 h2 ⊢
    simp [flat, lets, h1, h2]
  | .star e => by
    have h1 := lettersIn_flat e
    unfold lettersIn at h1 ⊢
    simp [flat, lets, h1]
theorem flat_length : ∀ e : E, Real e → (flat e).length = Gq02.size e
  | .no, h => h.elim
  | .stay, _ => rfl
  | .step _, _ => rfl
  | .seq e f, h => by
    simp only [flat, Gq02.size, List.length_cons, List.length_append, flat_length e h.1, flat_length f h.2]
    omega
  | .alt e f, h => by
    simp only [flat, Gq02.size, List.length_cons, List.length_append, flat_length e h.1, flat_length f h.2]
    omega
  | .star e, h => by
    simp only [flat, Gq02.size, List.length_cons, flat_length e h]
    omega
theorem lab_lets : ∀ (e : E) (b k c : Nat), Lab e b k c ↔ b < k ∧ (lets e)[k - b - 1]? = some c
  | .no, b, k, c => by simp [Lab, lets]
  | .stay, b, k, c => by simp [Lab, lets]
  | .step d, b, k, c => by
    simp only [Lab, lets]
    constructor
    · rintro ⟨rfl, rfl⟩
      refine ⟨by omega, ?_⟩
      have : b + 1 - b - 1 = 0 := by omega
      rw [this]
      rfl
    · rintro ⟨h1, h2⟩
      have := (List.getElem?_eq_some_iff.mp h2).1
      simp only [List.length_singleton] at this
      have e : k - b - 1 = 0 := by omega
      rw [e] at h2
      cases h2
      exact ⟨by omega, rfl⟩
  | .seq e f, b, k, c => by
    simp only [Lab, lets, lab_lets e b k c, lab_lets f (b + steps e) k c]
    rw [← lets_length e, List.getElem?_append]
    by_cases h : k - b - 1 < (lets e).length
    · rw [if_pos h]
      constructor
      · rintro (z | ⟨z, _⟩)
        · exact z
        · omega
      · exact .inl
    · rw [if_neg h]
      have e1 : k - (b + (lets e).length) - 1 = k - b - 1 - (lets e).length := by omega
      rw [e1]
      constructor
      · rintro (⟨_, z⟩ | ⟨z1, z2⟩)
        · have := (List.getElem?_eq_some_iff.mp z).1
          omega
        · exact ⟨by omega, z2⟩
      · rintro ⟨z1, z2⟩
        exact .inr ⟨by omega, z2⟩
  | .alt e f, b, k, c => by
    simp only [Lab, lets, lab_lets e b k c, lab_lets f (b + steps e) k c]
    rw [← lets_length e, List.getElem?_append]
    by_cases h : k - b - 1 < (lets e).length
    · rw [if_pos h]
      constructor
      · rintro (z | ⟨z, _⟩)
        · exact z
        · omega
      · exact .inl
    · rw [if_neg h]
      have e1 : k - (b + (lets e).length) - 1 = k - b - 1 - (lets e).length := by omega
      rw [e1]
      constructor
      · rintro (⟨_, z⟩ | ⟨z1, z2⟩)
        · have := (List.getElem?_eq_some_iff.mp z).1
          omega
        · exact ⟨by omega, z2⟩
      · rintro ⟨z1, z2⟩
        exact .inr ⟨by omega, z2⟩
  | .star e, b, k, c => by
    simp only [Lab, lets, lab_lets e b k c]

/-! ### Pieces and what follows on each state -/
structure Piece where
  stay : Bool
  b : Nat
  e : Nat
def link (F : List Nat) (ends begins : Nat) : List Nat := F.mapIdx fun i x => if ends.testBit i = true then x ||| begins else x
def pAgain (p : Piece) : Piece := ⟨true, p.b, p.e⟩
def pOrder (l r : Piece) : Piece := ⟨l.stay && r.stay, if l.stay = true then l.b ||| r.b else l.b, if r.stay = true then l.e ||| r.e else r.e⟩
def pEither (l r : Piece) : Piece := ⟨l.stay || r.stay, l.b ||| r.b, l.e ||| r.e⟩
def glu : E → Nat → List Nat → Piece × List Nat
  | .no, _, F => (⟨false, 0, 0⟩, F)
  | .stay, _, F => (⟨true, 0, 0⟩, F)
  | .step _, s, F => (⟨false, 2 ^ s, 2 ^ s⟩, F)
  | .seq e f, s, F =>
    let r := glu f s F
    let l := glu e (s - steps f) r.2
    (pOrder l.1 r.1, link l.2 l.1.e r.1.b)
  | .alt e f, s, F =>
    let r := glu f s F
    let l := glu e (s - steps f) r.2
    (pEither l.1 r.1, l.2)
  | .star e, s, F =>
    let p := glu e s F
    (pAgain p.1, link p.2 p.1.e p.1.b)
/-- the stack of pieces, the next letter's state, what follows on each state -/
abbrev PSt := List Piece × Nat × List Nat
def pstep (st : PSt) (p : Part) : Option PSt :=
  if p.1 = 0 then some (⟨true, 0, 0⟩ :: st.1, st.2.1, st.2.2)
  else if p.1 = 1 then (if st.2.1 = 0 then none else some (⟨false, 2 ^ st.2.1, 2 ^ st.2.1⟩ :: st.1, st.2.1 - 1, st.2.2))
  else if p.1 = 4 then (match st.1 with
    | q :: r => some (pAgain q :: r, st.2.1, link st.2.2 q.e q.b)
    | [] => none)
  else (match st.1 with
    | l :: q :: r => if p.1 = 2 then some (pOrder l q :: r, st.2.1, link st.2.2 l.e q.b) else some (pEither l q :: r, st.2.1, st.2.2)
    | _ => none)
def prun : List Part → PSt → Option PSt
  | [], st => some st
  | p :: ps, st => (pstep st p).bind (prun ps)
theorem prun_append : ∀ (a b : List Part) (st : PSt), prun (a ++ b) st = (prun a st).bind (prun b)
  | [], _, _ => rfl
  | p :: a, b, st => by
    show (pstep st p).bind (prun (a ++ b)) = ((pstep st p).bind (prun a)).bind (prun b)
    cases pstep st p with
    | none => rfl
    | some x => exact prun_append a b x
theorem prun_flat : ∀ (e : E) (st : List Piece) (s : Nat) (F : List Nat), Real e → steps e ≤ s →
    prun (flat e).reverse (st, s, F) = some ((glu e s F).1 :: st, s - steps e, (glu e s F).2)
  | .no, _, _, _, h, _ => h.elim
  | .stay, st, s, F, _, _ => rfl
  | .step c, st, s, F, _, h => by
    have : s ≠ 0 := by simp only [steps] at h; omega
    simp [flat, prun, pstep, this, glu, steps]
  | .seq e f, st, s, F, h, k => by
    simp only [steps] at k
    simp only [flat, List.reverse_cons, List.reverse_append]
    rw [prun_append, prun_append, prun_flat f st s F h.2 (by omega)]
    simp only [Option.bind_some]
    rw [prun_flat e _ _ _ h.1 (by omega)]
    simp only [Option.bind_some, prun, pstep, glu, steps]
    simp
    omega
  | .alt e f, st, s, F, h, k => by
    simp only [steps] at k
    simp only [flat, List.reverse_cons, List.reverse_append]
    rw [prun_append, prun_append, prun_flat f st s F h.2 (by omega)]
    simp only [Option.bind_some]
    rw [prun_flat e _ _ _ h.1 (by omega)]
    simp only [Option.bind_some, prun, pstep, glu, steps]
    simp
    omega
  | .star e, st, s, F, h, k => by
    simp only [steps] at k
    simp only [flat, List.reverse_cons]
    rw [prun_append, prun_flat e st s F h k]
    simp [prun, pstep, glu, steps]

/-! ### Bits -/
def bit (x i : Nat) : Prop := x.testBit i = true
theorem bit_zero {i : Nat} : ¬ bit 0 i := by simp [bit]
theorem bit_or {x y i : Nat} : bit (x ||| y) i ↔ bit x i ∨ bit y i := by
  unfold bit
  rw [Nat.testBit_or, Bool.or_eq_true]
theorem bit_and {x y i : Nat} : bit (x &&& y) i ↔ bit x i ∧ bit y i := by
  unfold bit
  rw [Nat.testBit_and, Bool.and_eq_true]
theorem bit_pow {n i : Nat} : bit (2 ^ n) i ↔ i = n := by
  unfold bit
  rw [Nat.testBit_two_pow]
  simp [eq_comm]
theorem bit_one {i : Nat} : bit 1 i ↔ i = 0 := bit_pow (n := 0)
theorem bit_ext {x y : Nat} (h : ∀ i, bit x i ↔ bit y i) : x = y :=
  Nat.eq_of_testBit_eq fun i => bool_eq_of_iff (h i)
theorem bit_lt {x n : Nat} (h : ∀ i, bit x i → i < n) : x < 2 ^ n := by
  refine Nat.lt_pow_two_of_testBit x fun i hi => ?_
  cases e : x.testBit i with
  | false => rfl
  | true =>
    have := h i e
    omega
theorem bit_ne_zero {x : Nat} : x ≠ 0 ↔ ∃ i, bit x i := by
  constructor
  · intro h
    apply Classical.byContradiction
    intro k
    apply h
    apply bit_ext
    intro i
    exact ⟨fun z => (k ⟨i, z⟩).elim, fun z => (bit_zero z).elim⟩
  · rintro ⟨i, h⟩ rfl
    exact bit_zero h
def rowAt (F : List Nat) (p : Nat) : Nat := F.getD p 0
theorem rowAt_far {F : List Nat} {p : Nat} (h : ¬ p < F.length) : rowAt F p = 0 := by
  unfold rowAt
  rw [List.getD_eq_getElem?_getD (l := _), List.getElem?_eq_none (by omega)]
  rfl
theorem rowAt_lt {F : List Nat} {p q : Nat} (h : bit (rowAt F p) q) : p < F.length := by
  apply Decidable.byContradiction
  intro k
  rw [rowAt_far k] at h
  exact bit_zero h
theorem link_length {F : List Nat} {a b : Nat} : (link F a b).length = F.length := by simp [link]
theorem rowAt_link {F : List Nat} {a b p q : Nat} : bit (rowAt (link F a b) p) q ↔ bit (rowAt F p) q ∨ (p < F.length ∧ bit a p ∧ bit b q) := by
  by_cases h : p < F.length
  · have e1 : rowAt F p = F[p] := by
      unfold rowAt
      rw [List.getD_eq_getElem?_getD, List.getElem?_eq_getElem h]
      rfl
    have e2 : rowAt (link F a b) p = if a.testBit p = true then F[p] ||| b else F[p] := by
      unfold rowAt link
      rw [List.getD_eq_getElem?_getD, List.getElem?_mapIdx, List.getElem?_eq_getElem h]
      rfl
    rw [e1, e2]
    by_cases k : a.testBit p = true
    · rw [if_pos k, bit_or]
      constructor
      · rintro (z | z)
        · exact .inl z
        · exact .inr ⟨h, k, z⟩
      · rintro (z | ⟨_, _, z⟩)
        · exact .inl z
        · exact .inr z
    · rw [if_neg k]
      constructor
      · exact .inl
      · rintro (z | ⟨_, z, _⟩)
        · exact z
        · exact (k z).elim
  · rw [rowAt_far h, rowAt_far (by rw [link_length]; exact h)]
    constructor
    · intro z
      exact (bit_zero z).elim
    · rintro (z | ⟨z, _⟩)
      · exact z
      · omega
structure GluOk (e : E) (b : Nat) (F : List Nat) (r : Piece × List Nat) : Prop where
  stay : r.1.stay = stays e
  begins : ∀ k, bit r.1.b k ↔ First e b k
  ends : ∀ k, bit r.1.e k ↔ Last e b k
  len : r.2.length = F.length
  rows : ∀ p q, bit (rowAt r.2 p) q ↔ bit (rowAt F p) q ∨ (p < F.length ∧ Fol e b p q)
theorem glu_ok : ∀ (e : E) (b : Nat) (F : List Nat), GluOk e b F (glu e (b + steps e) F)
  | .no, b, F => ⟨rfl, fun _ => ⟨fun z => (bit_zero z).elim, fun z => z.elim⟩, fun _ => ⟨fun z => (bit_zero z).elim, fun z => z.elim⟩, rfl, fun p q => ⟨.inl, fun z => z.elim id fun z => z.2.elim⟩⟩
  | .stay, b, F => ⟨rfl, fun _ => ⟨fun z => (bit_zero z).elim, fun z => z.elim⟩, fun _ => ⟨fun z => (bit_zero z).elim, fun z => z.elim⟩, rfl, fun p q => ⟨.inl, fun z => z.elim id fun z => z.2.elim⟩⟩
  | .step c, b, F => ⟨rfl, fun k => bit_pow, fun k => bit_pow, rfl, fun p q => ⟨.inl, fun z => z.elim id fun z => z.2.elim⟩⟩
  | .seq e f, b, F => by
    have es : b + steps (.seq e f) = (b + steps e) + steps f := by simp only [steps]; omega
    have es2 : (b + steps e) + steps f - steps f = b + steps e := by omega
    have hr := glu_ok f (b + steps e) F
    have hl := glu_ok e b (glu f (b + steps e + steps f) F).2
    rw [es]
    show GluOk (.seq e f) b F (pOrder (glu e (b + steps e + steps f - steps f) (glu f (b + steps e + steps f) F).2).1 (glu f (b + steps e + steps f) F).1, _)
    rw [es2]
    refine ⟨?_, fun k => ?_, fun k => ?_, ?_, fun p q => ?_⟩
    · show (_ && _) = (stays e && stays f)
      rw [hl.stay, hr.stay]
    · show bit (if _ then _ else _) k ↔ First e b k ∨ (stays e = true ∧ First f (b + steps e) k)
      rw [hl.stay]
      by_cases s : stays e = true
      · rw [if_pos s, bit_or, hl.begins, hr.begins]
        simp [s]
      · rw [if_neg s, hl.begins]
        simp [s]
    · show bit (if _ then _ else _) k ↔ Last f (b + steps e) k ∨ (stays f = true ∧ Last e b k)
      rw [hr.stay]
      by_cases s : stays f = true
      · rw [if_pos s, bit_or, hl.ends, hr.ends]
        simp [s, or_comm]
      · rw [if_neg s, hr.ends]
        simp [s]
    · dsimp only
      rw [link_length, hl.len, hr.len]
    · dsimp only
      rw [rowAt_link, hl.rows, hr.rows, hl.ends, hr.begins, hl.len, hr.len]
      show _ ↔ _ ∨ (p < F.length ∧ (Fol e b p q ∨ Fol f (b + steps e) p q ∨ (Last e b p ∧ First f (b + steps e) q)))
      constructor
      · rintro (((z | ⟨z1, z2⟩) | ⟨z1, z2⟩) | ⟨z1, z2⟩)
        · exact .inl z
        · exact .inr ⟨z1, .inr (.inl z2)⟩
        · exact .inr ⟨z1, .inl z2⟩
        · exact .inr ⟨z1, .inr (.inr z2)⟩
      · rintro (z | ⟨z1, z | z | z⟩)
        · exact .inl (.inl (.inl z))
        · exact .inl (.inr ⟨z1, z⟩)
        · exact .inl (.inl (.inr ⟨z1, z⟩))
        · exact .inr ⟨z1, z⟩
  | .alt e f, b, F => by
    have es : b + steps (.alt e f) = (b + steps e) + steps f := by simp only [steps]; omega
    have es2 : (b + steps e) + steps f - steps f = b + steps e := by omega
    have hr := glu_ok f (b + steps e) F
    have hl := glu_ok e b (glu f (b + steps e + steps f) F).2
    rw [es]
    show GluOk (.alt e f) b F (pEither (glu e (b + steps e + steps f - steps f) (glu f (b + steps e + steps f) F).2).1 (glu f (b + steps e + steps f) F).1, _)
    rw [es2]
    refine ⟨?_, fun k => ?_, fun k => ?_, ?_, fun p q => ?_⟩
    · show (_ || _) = (stays e || stays f)
      rw [hl.stay, hr.stay]
    · show bit (_ ||| _) k ↔ First e b k ∨ First f (b + steps e) k
      rw [bit_or, hl.begins, hr.begins]
    · show bit (_ ||| _) k ↔ Last e b k ∨ Last f (b + steps e) k
      rw [bit_or, hl.ends, hr.ends]
    · dsimp only
      rw [hl.len, hr.len]
    · dsimp only
      rw [hl.rows, hr.rows, hr.len]
      show _ ↔ _ ∨ (p < F.length ∧ (Fol e b p q ∨ Fol f (b + steps e) p q))
      constructor
      · rintro ((z | ⟨z1, z2⟩) | ⟨z1, z2⟩)
        · exact .inl z
        · exact .inr ⟨z1, .inr z2⟩
        · exact .inr ⟨z1, .inl z2⟩
      · rintro (z | ⟨z1, z | z⟩)
        · exact .inl (.inl z)
        · exact .inr ⟨z1, z⟩
        · exact .inl (.inr ⟨z1, z⟩)
  | .star e, b, F => by
    have h := glu_ok e b F
    refine ⟨rfl, h.begins, h.ends, ?_, fun p q => ?_⟩
    · show (link _ _ _).length = _
      rw [link_length]
      exact h.len
    · show bit (rowAt (link _ _ _) p) q ↔ _
      rw [rowAt_link]
      have h1 := h.rows p q
      have h2 := h.ends p
      have h3 := h.begins q
      have h4 := h.len
      simp only [steps] at h1 h2 h3 h4 ⊢
      rw [h1, h2, h3, h4]
      show _ ↔ _ ∨ (p < F.length ∧ (Fol e b p q ∨ (Last e b p ∧ First e b q)))
      constructor
      · rintro ((z | ⟨z1, z2⟩) | ⟨z1, z2⟩)
        · exact .inl z
        · exact .inr ⟨z1, .inl z2⟩
        · exact .inr ⟨z1, .inr z2⟩
      · rintro (z | ⟨z1, z | z⟩)
        · exact .inl (.inl z)
        · exact .inl (.inr ⟨z1, z⟩)
        · exact .inr ⟨z1, z⟩

/-! ### The machine -/
/-- states |= 1 << (place + 1) for each place with the letter; i: the place of the first of ls -/
def statesFrom (c : Nat) : Nat → List Nat → Nat → Nat
  | _, [], acc => acc
  | i, x :: ls, acc => statesFrom c (i + 1) ls (if x = c then acc ||| 2 ^ (i + 1) else acc)
def statesOf (ls : List Nat) (c : Nat) : Nat := statesFrom c 0 ls 0
theorem bit_statesFrom {c q : Nat} : ∀ (ls : List Nat) (i acc : Nat), bit (statesFrom c i ls acc) q ↔ bit acc q ∨ (i < q ∧ ls[q - i - 1]? = some c)
  | [], i, acc => by simp [statesFrom]
  | x :: ls, i, acc => by
    rw [statesFrom, bit_statesFrom ls]
    have e : bit (if x = c then acc ||| 2 ^ (i + 1) else acc) q ↔ bit acc q ∨ (x = c ∧ q = i + 1) := by
      by_cases h : x = c
      · rw [if_pos h, bit_or, bit_pow]
        simp [h]
      · rw [if_neg h]
        simp [h]
    rw [e]
    constructor
    · rintro ((z | ⟨rfl, rfl⟩) | ⟨z1, z2⟩)
      · exact .inl z
      · refine .inr ⟨by omega, ?_⟩
        have : i + 1 - i - 1 = 0 := by omega
        rw [this]
        rfl
      · refine .inr ⟨by omega, ?_⟩
        have : q - i - 1 = (q - (i + 1) - 1) + 1 := by omega
        rw [this, List.getElem?_cons_succ]
        exact z2
    · rintro (z | ⟨z1, z2⟩)
      · exact .inl (.inl z)
      · by_cases h : q = i + 1
        · subst h
          have : i + 1 - i - 1 = 0 := by omega
          rw [this] at z2
          exact .inl (.inr ⟨by simpa using z2, rfl⟩)
        · have : q - i - 1 = (q - (i + 1) - 1) + 1 := by omega
          rw [this, List.getElem?_cons_succ] at z2
          exact .inr ⟨by omega, z2⟩
/-- how many letters; the moves of each letter; the states that end it -/
structure Mach where
  n : Nat
  mv : Nat → List Nat
  fin : Nat
def gluOf (e : E) : Piece × List Nat := glu e (steps e) (List.replicate (steps e + 1) 0)
def followers (e : E) : List Nat := (gluOf e).2.set 0 (gluOf e).1.b
def mach (e : E) : Mach := ⟨steps e, fun c => (followers e).map (fun row => row &&& statesOf (lets e) c), if (gluOf e).1.stay = true then (gluOf e).1.e ||| 1 else (gluOf e).1.e⟩
theorem gluOf_ok (e : E) : GluOk e 0 (List.replicate (steps e + 1) 0) (gluOf e) := by
  have := glu_ok e 0 (List.replicate (steps e + 1) 0)
  rw [Nat.zero_add] at this
  exact this
theorem rowAt_replicate {n p : Nat} : rowAt (List.replicate n 0) p = 0 := by
  by_cases h : p < n
  · unfold rowAt
    rw [List.getD_eq_getElem?_getD, List.getElem?_replicate, if_pos h]
    rfl
  · exact rowAt_far (by simpa using h)
theorem followers_length (e : E) : (followers e).length = steps e + 1 := by
  unfold followers
  rw [List.length_set, (gluOf_ok e).len, List.length_replicate]
theorem followers_bit (e : E) (p q : Nat) : bit (rowAt (followers e) p) q ↔ (p = 0 ∧ First e 0 q) ∨ Fol e 0 p q := by
  have g := gluOf_ok e
  by_cases h : p = 0
  · subst h
    have : rowAt (followers e) 0 = (gluOf e).1.b := by
      unfold followers rowAt
      rw [List.getD_eq_getElem?_getD, List.getElem?_set_self (by rw [g.len, List.length_replicate]; omega)]
      rfl
    rw [this, g.begins]
    constructor
    · intro z
      exact .inl ⟨rfl, z⟩
    · rintro (⟨_, z⟩ | z)
      · exact z
      · have := fol_in e 0 0 q z; omega
  · have : rowAt (followers e) p = rowAt (gluOf e).2 p := by
      unfold followers rowAt
      rw [List.getD_eq_getElem?_getD, List.getD_eq_getElem?_getD, List.getElem?_set_ne (by omega)]
    rw [this, g.rows, rowAt_replicate, List.length_replicate]
    constructor
    · rintro (z | ⟨_, z⟩)
      · exact (bit_zero z).elim
      · exact .inr z
    · rintro (⟨z, _⟩ | z)
      · exact (h z).elim
      · have := fol_in e 0 p q z
        exact .inr ⟨by omega, z⟩
theorem mach_length (e : E) (c : Nat) : ((mach e).mv c).length = steps e + 1 := by
  show (List.map _ _).length = _
  rw [List.length_map, followers_length]
theorem rowAt_map_and {F : List Nat} {x p q : Nat} : bit (rowAt (F.map fun row => row &&& x) p) q ↔ bit (rowAt F p) q ∧ bit x q := by
  by_cases h : p < F.length
  · have e1 : rowAt F p = F[p] := by
      unfold rowAt
      rw [List.getD_eq_getElem?_getD, List.getElem?_eq_getElem h]
      rfl
    have e2 : rowAt (F.map fun row => row &&& x) p = F[p] &&& x := by
      unfold rowAt
      rw [List.getD_eq_getElem?_getD, List.getElem?_map, List.getElem?_eq_getElem h]
      rfl
    rw [e1, e2, bit_and]
  · rw [rowAt_far h, rowAt_far (by rw [List.length_map]; exact h)]
    exact ⟨fun z => (bit_zero z).elim, fun z => (bit_zero z.1).elim⟩
theorem mach_mv (e : E) (c p q : Nat) : bit (rowAt ((mach e).mv c) p) q ↔ GMv e c p q := by
  show bit (rowAt (List.map _ _) p) q ↔ _
  rw [rowAt_map_and, followers_bit]
  have : bit (statesOf (lets e) c) q ↔ Lab e 0 q c := by
    unfold statesOf
    rw [bit_statesFrom, lab_lets]
    constructor
    · rintro (z | z)
      · exact (bit_zero z).elim
      · exact z
    · exact .inr
  rw [this]
  rfl
theorem mach_fin (e : E) (q : Nat) : bit (mach e).fin q ↔ GFin e q := by
  show bit (if _ then _ else _) q ↔ _
  have g := gluOf_ok e
  rw [g.stay]
  by_cases s : stays e = true
  · rw [if_pos s, bit_or, bit_one, g.ends]
    unfold GFin
    constructor
    · rintro (z | z)
      · exact .inr z
      · exact .inl ⟨z, s⟩
    · rintro (⟨z, _⟩ | z)
      · exact .inr z
      · exact .inl z
  · rw [if_neg s, g.ends]
    unfold GFin
    constructor
    · exact .inr
    · rintro (⟨_, z⟩ | z)
      · exact (s z).elim
      · exact z

/-! ### Views -/
/-- reached |= row for each state of the states; i: the state of the first of the rows -/
def reachFrom (states : Nat) : Nat → List Nat → Nat → Nat
  | _, [], acc => acc
  | i, x :: rows, acc => reachFrom states (i + 1) rows (if states.testBit i = true then acc ||| x else acc)
def reach (rows : List Nat) (states : Nat) : Nat := reachFrom states 0 rows 0
theorem bit_reachFrom {states q : Nat} : ∀ (rows : List Nat) (i acc : Nat), bit (reachFrom states i rows acc) q ↔ bit acc q ∨ ∃ p, bit states (i + p) ∧ bit (rowAt rows p) q
  | [], i, acc => by
    have : ∀ p, ¬ bit (rowAt [] p) q := fun p z => by
      have := rowAt_lt z
      simp at this
    simp [reachFrom, this]
  | x :: rows, i, acc => by
    rw [reachFrom, bit_reachFrom rows]
    have e : bit (if states.testBit i = true then acc ||| x else acc) q ↔ bit acc q ∨ (bit states i ∧ bit x q) := by
      by_cases h : states.testBit i = true
      · rw [if_pos h, bit_or]
        have h' : bit states i := h
        simp [h']
      · rw [if_neg h]
        have h' : ¬ bit states i := h
        simp [h']
    rw [e]
    constructor
    · rintro ((z | ⟨z1, z2⟩) | ⟨p, z1, z2⟩)
      · exact .inl z
      · exact .inr ⟨0, z1, z2⟩
      · refine .inr ⟨p + 1, ?_, z2⟩
        have : i + (p + 1) = i + 1 + p := by omega
        rw [this]
        exact z1
    · rintro (z | ⟨p, z1, z2⟩)
      · exact .inl (.inl z)
      · cases p with
        | zero => exact .inl (.inr ⟨z1, z2⟩)
        | succ p =>
          refine .inr ⟨p, ?_, z2⟩
          have : i + 1 + p = i + (p + 1) := by omega
          rw [this]
          exact z1
theorem bit_reach {rows : List Nat} {states q : Nat} : bit (reach rows states) q ↔ ∃ p, bit states p ∧ bit (rowAt rows p) q := by
  unfold reach
  rw [bit_reachFrom]
  constructor
  · rintro (z | ⟨p, z1, z2⟩)
    · exact (bit_zero z).elim
    · exact ⟨p, by simpa using z1, z2⟩
  · rintro ⟨p, z1, z2⟩
    exact .inr ⟨p, by simpa using z1, z2⟩
/-- if has_state(closed[state], middle): closed[state] |= closed[middle] -/
def wput (m : Nat) (R : List Nat) (i : Nat) : List Nat := if (rowAt R i).testBit m = true then R.set i (rowAt R i ||| rowAt R m) else R
def wrow (n : Nat) (R : List Nat) (m : Nat) : List Nat := (List.range n).foldl (wput m) R
def anyTimes (R : List Nat) : List Nat := (List.range R.length).foldl (wrow R.length) R
theorem wput_length {m i : Nat} {R : List Nat} : (wput m R i).length = R.length := by
  unfold wput
  split
  · rw [List.length_set]
  · rfl
theorem rowAt_set {R : List Nat} {i p x : Nat} (h : i < R.length) : rowAt (R.set i x) p = if p = i then x else rowAt R p := by
  by_cases e : p = i
  · subst e
    rw [if_pos rfl]
    unfold rowAt
    rw [List.getD_eq_getElem?_getD, List.getElem?_set_self h]
    rfl
  · rw [if_neg e]
    unfold rowAt
    rw [List.getD_eq_getElem?_getD, List.getD_eq_getElem?_getD, List.getElem?_set_ne (by omega)]
theorem rowAt_wput {m i p q : Nat} {R : List Nat} : bit (rowAt (wput m R i) p) q ↔ bit (rowAt R p) q ∨ (p = i ∧ bit (rowAt R p) m ∧ bit (rowAt R m) q) := by
  unfold wput
  by_cases h : (rowAt R i).testBit m = true
  · rw [if_pos h, rowAt_set (rowAt_lt h)]
    by_cases e : p = i
    · subst e
      rw [if_pos rfl, bit_or]
      have h' : bit (rowAt R p) m := h
      simp [h']
    · rw [if_neg e]
      simp [e]
  · rw [if_neg h]
    constructor
    · exact .inl
    · rintro (z | ⟨rfl, z, _⟩)
      · exact z
      · exact (h z).elim
theorem wrow_fold {m : Nat} {R : List Nat} : ∀ (n : Nat), ((List.range n).foldl (wput m) R).length = R.length ∧
    ∀ p q, bit (rowAt ((List.range n).foldl (wput m) R) p) q ↔ bit (rowAt R p) q ∨ (p < n ∧ bit (rowAt R p) m ∧ bit (rowAt R m) q)
  | 0 => by
    refine ⟨rfl, fun p q => ?_⟩
    simp
  | n + 1 => by
    obtain ⟨h1, h2⟩ := wrow_fold (m := m) (R := R) n
    rw [List.range_succ (n := _), List.foldl_append]
    simp only [List.foldl_cons, List.foldl_nil]
    refine ⟨by rw [wput_length, h1], fun p q => ?_⟩
    have mm : ∀ q, bit (rowAt ((List.range n).foldl (wput m) R) m) q ↔ bit (rowAt R m) q := by
      intro q
      rw [h2]
      constructor
      · rintro (z | ⟨_, _, z⟩) <;> exact z
      · exact .inl
    rw [rowAt_wput, h2 p q, h2 p m, mm q]
    constructor
    · rintro ((z | ⟨z1, z2, z3⟩) | ⟨z1, z2, z3⟩)
      · exact .inl z
      · exact .inr ⟨by omega, z2, z3⟩
      · refine .inr ⟨by omega, ?_, z3⟩
        rcases z2 with z | ⟨_, z, _⟩ <;> exact z
    · rintro (z | ⟨z1, z2, z3⟩)
      · exact .inl (.inl z)
      · by_cases e : p = n
        · exact .inr ⟨e, .inl z2, z3⟩
        · exact .inl (.inr ⟨by omega, z2, z3⟩)
theorem anyTimes_fold {R : List Nat} : ∀ (n : Nat), ((List.range n).foldl (wrow R.length) R).length = R.length ∧
    ∀ p q, bit (rowAt ((List.range n).foldl (wrow R.length) R) p) q ↔ Mid (fun i j => bit (rowAt R i) j) n p q
  | 0 => ⟨rfl, fun p q => Iff.rfl⟩
  | n + 1 => by
    obtain ⟨h1, h2⟩ := anyTimes_fold (R := R) n
    rw [List.range_succ (n := _), List.foldl_append]
    simp only [List.foldl_cons, List.foldl_nil]
    obtain ⟨g1, g2⟩ := wrow_fold (m := n) (R := (List.range n).foldl (wrow R.length) R) R.length
    unfold wrow
    refine ⟨g1.trans h1, fun p q => ?_⟩
    refine (g2 p q).trans ?_
    show bit (rowAt ((List.range n).foldl (wrow R.length) R) p) q ∨ (p < R.length ∧ bit (rowAt ((List.range n).foldl (wrow R.length) R) p) n ∧ bit (rowAt ((List.range n).foldl (wrow R.length) R) n) q) ↔ Mid _ n p q ∨ (Mid _ n p n ∧ Mid _ n n q)
    rw [h2 p q, h2 p n, h2 n q]
    constructor
    · rintro (z | ⟨_, z2, z3⟩)
      · exact .inl z
      · exact .inr ⟨z2, z3⟩
    · rintro (z | ⟨z2, z3⟩)
      · exact .inl z
      · refine .inr ⟨?_, z2, z3⟩
        have := (h2 p n).mpr z2
        have := rowAt_lt this
        omega
theorem anyTimes_length {R : List Nat} : (anyTimes R).length = R.length := (anyTimes_fold R.length).1
theorem anyTimes_bit {R : List Nat} (lt : ∀ i j, bit (rowAt R i) j → j < R.length) (rf : ∀ i, i < R.length → bit (rowAt R i) i) (p q : Nat) : bit (rowAt (anyTimes R) p) q ↔ p < R.length ∧ Cl (fun i j => bit (rowAt R i) j) p q := by
  unfold anyTimes
  rw [(anyTimes_fold R.length).2]
  constructor
  · intro h
    refine ⟨?_, mid_cl _ _ _ h⟩
    have := ((anyTimes_fold (R := R) R.length).2 p q).mpr h
    have := rowAt_lt this
    rw [(anyTimes_fold R.length).1] at this
    exact this
  · rintro ⟨h1, h2⟩
    exact cl_mid lt rf h2 h1
abbrev View := List Nat × Nat
def view0 (n : Nat) : View := ((List.range n).map (2 ^ ·), 1)
def viewRows (M : Mach) (v : View) (c : Nat) : List Nat := (List.range (M.n + 1)).map fun s => 2 ^ s ||| reach (M.mv c) (reach v.1 (rowAt (M.mv (turned c)) s))
def viewOn (M : Mach) (v : View) (c : Nat) : View :=
  (anyTimes (viewRows M v c), reach (anyTimes (viewRows M v c)) (reach (M.mv c) v.2))
structure VRep (e : E) (v : View) (w : List Nat) : Prop where
  len : v.1.length = steps e + 1
  back : ∀ p q, bit (rowAt v.1 p) q ↔ p ≤ steps e ∧ TW (GMv e) w p w.length q w.length
  here : ∀ q, bit v.2 q ↔ TW (GMv e) w 0 0 q w.length
theorem rowAt_map_range {n p : Nat} {f : Nat → Nat} (h : p < n) : rowAt ((List.range n).map f) p = f p := by
  unfold rowAt
  rw [List.getD_eq_getElem?_getD (l := _), List.getElem?_map, List.getElem?_range h]
  rfl
theorem gtw_in {e : E} {w : List Nat} {p x q y : Nat} (h : TW (GMv e) w p x q y) (hp : p ≤ steps e) : q ≤ steps e := by
  induction h with
  | refl => exact hp
  | head _ b _ ih => exact ih (gmv_in b).2.2
theorem vrep_0 (e : E) : VRep e (view0 (steps e + 1)) [] := by
  refine ⟨by simp [view0], fun p q => ?_, fun q => ?_⟩
  · show bit (rowAt ((List.range (steps e + 1)).map (2 ^ ·)) p) q ↔ _
    rw [tw_nil]
    by_cases h : p < steps e + 1
    · rw [rowAt_map_range h, bit_pow]
      constructor
      · rintro rfl
        exact ⟨by omega, rfl, rfl⟩
      · rintro ⟨_, rfl, _⟩
        rfl
    · rw [rowAt_far (by simpa using h)]
      constructor
      · intro z
        exact (bit_zero z).elim
      · rintro ⟨z, _⟩
        omega
  · show bit 1 q ↔ _
    rw [bit_one, tw_nil]
    simp [eq_comm]
theorem vrep_on {e : E} {v : View} {w : List Nat} (r : VRep e v w) (c : Nat) : VRep e (viewOn (mach e) v c) (w ++ [c]) := by
  have hlen : (viewRows (mach e) v c).length = steps e + 1 := by simp [viewRows, mach]
  have hrow : ∀ p q, bit (rowAt (viewRows (mach e) v c) p) q ↔ p ≤ steps e ∧ (p = q ∨ Once (GMv e) w c p q) := by
    intro p q
    by_cases h : p < steps e + 1
    · have e1 : rowAt (viewRows (mach e) v c) p = 2 ^ p ||| reach ((mach e).mv c) (reach v.1 (rowAt ((mach e).mv (turned c)) p)) := rowAt_map_range h
      rw [e1, bit_or, bit_pow, bit_reach]
      constructor
      · rintro (z | ⟨b, z1, z2⟩)
        · exact ⟨by omega, .inl z.symm⟩
        · obtain ⟨a, z3, z4⟩ := bit_reach.mp z1
          exact ⟨by omega, .inr ⟨a, b, (mach_mv e _ _ _).mp z3, ((r.back a b).mp z4).2, (mach_mv e _ _ _).mp z2⟩⟩
      · rintro ⟨_, rfl | ⟨a, b, h1, h2, h3⟩⟩
        · exact .inl rfl
        · exact .inr ⟨b, bit_reach.mpr ⟨a, (mach_mv e _ _ _).mpr h1, (r.back a b).mpr ⟨(gmv_in h1).2.2, h2⟩⟩, (mach_mv e _ _ _).mpr h3⟩
    · rw [rowAt_far (by rw [hlen]; exact h)]
      constructor
      · intro z
        exact (bit_zero z).elim
      · rintro ⟨z, _⟩
        omega
  have hback : ∀ p q, bit (rowAt (anyTimes (viewRows (mach e) v c)) p) q ↔ p ≤ steps e ∧ Cl (Once (GMv e) w c) p q := by
    intro p q
    rw [anyTimes_bit, hlen]
    · constructor
      · rintro ⟨h1, h2⟩
        refine ⟨by omega, cl_mono (fun i j k => ?_) h2⟩
        rcases ((hrow i j).mp k).2 with rfl | k
        · exact .refl _
        · exact .head k (.refl _)
      · rintro ⟨h1, h2⟩
        refine ⟨by omega, cl_mono (fun i j k => ?_) h2⟩
        obtain ⟨a, b, k1, k2, k3⟩ := k
        exact .head ((hrow i j).mpr ⟨(gmv_in k1).1, .inr ⟨a, b, k1, k2, k3⟩⟩) (.refl _)
    · intro i j k
      rw [hlen]
      obtain ⟨k0, rfl | ⟨a, b, k1, k2, k3⟩⟩ := (hrow i j).mp k
      · omega
      · have := (gmv_in k3).2.2
        omega
    · intro i k
      rw [hlen] at k
      exact (hrow i i).mpr ⟨by omega, .inl rfl⟩
  refine ⟨?_, fun p q => ?_, fun q => ?_⟩
  · show (anyTimes _).length = _
    rw [anyTimes_length, hlen]
  · rw [tw_back]
    exact hback p q
  · rw [tw_here]
    show bit (reach (anyTimes (viewRows (mach e) v c)) (reach ((mach e).mv c) v.2)) q ↔ _
    rw [bit_reach]
    constructor
    · rintro ⟨b, h1, h2⟩
      obtain ⟨a, h3, h4⟩ := bit_reach.mp h1
      exact ⟨a, b, (r.here a).mp h3, (mach_mv e _ _ _).mp h4, ((hback b q).mp h2).2⟩
    · rintro ⟨a, b, h1, h2, h3⟩
      exact ⟨b, bit_reach.mpr ⟨a, (r.here a).mpr h1, (mach_mv e _ _ _).mpr h2⟩, (hback b q).mpr ⟨(gmv_in h2).2.2, h3⟩⟩
def viewAt (e : E) (w : List Nat) : View := w.foldl (viewOn (mach e)) (view0 (steps e + 1))
theorem viewAt_snoc (e : E) (w : List Nat) (c : Nat) : viewAt e (w ++ [c]) = viewOn (mach e) (viewAt e w) c := by
  unfold viewAt
  rw [List.foldl_append]
  rfl
theorem vrep_fold {e : E} : ∀ (u : List Nat) (v : View) (w : List Nat), VRep e v w → VRep e (u.foldl (viewOn (mach e)) v) (w ++ u)
  | [], v, w, r => by rw [List.append_nil]; exact r
  | c :: u, v, w, r => by
    have := vrep_fold u _ _ (vrep_on r c)
    rw [List.append_assoc _ _ _] at this
    exact this
theorem vrep_at (e : E) (w : List Nat) : VRep e (viewAt e w) w := by
  have := vrep_fold w _ _ (vrep_0 e)
  exact this
/-- (view[1] & machine.final) != 0 -/
theorem view_leads (e : E) (w : List Nat) : (viewAt e w).2 &&& (mach e).fin ≠ 0 ↔ Leads (Says e) w := by
  rw [bit_ne_zero, ← gleads]
  constructor
  · rintro ⟨q, h⟩
    obtain ⟨h1, h2⟩ := bit_and.mp h
    exact ⟨q, ((vrep_at e w).here q).mp h1, (mach_fin e q).mp h2⟩
  · rintro ⟨q, h1, h2⟩
    exact ⟨q, bit_and.mpr ⟨((vrep_at e w).here q).mpr h1, (mach_fin e q).mpr h2⟩⟩
/-- a view's masks are below 2 ^ states -/
theorem view_lt (e : E) (w : List Nat) : (viewAt e w).1.length = steps e + 1 ∧ (∀ x ∈ (viewAt e w).1, x < 2 ^ (steps e + 1)) ∧ (viewAt e w).2 < 2 ^ (steps e + 1) := by
  have r := vrep_at e w
  refine ⟨r.len, fun x hx => ?_, bit_lt fun i h => ?_⟩
  · obtain ⟨p, hp, rfl⟩ := List.mem_iff_getElem.mp hx
    refine bit_lt fun i h => ?_
    have e1 : rowAt (viewAt e w).1 p = (viewAt e w).1[p] := by
      unfold rowAt
      rw [List.getD_eq_getElem?_getD, List.getElem?_eq_getElem hp]
      rfl
    rw [← e1] at h
    have := (r.back p i).mp h
    have := gtw_in this.2 this.1
    omega
  · have := gtw_in ((r.here i).mp h) (Nat.zero_le _)
    omega
end Wa

namespace Wa
open Gq02 (E Says stays steps turned)

/-! ### The program's search -/
structure Stop where
  states : Nat
  view : View
  letter : Nat
  before : Nat
/-- a stop, and the line that it stands for -/
structure It where
  s : Stop
  w : List Nat
/-- x & ~y -/
def andNot (x y : Nat) : Nat := x ^^^ (x &&& y)
theorem bit_andNot {x y i : Nat} : bit (andNot x y) i ↔ bit x i ∧ ¬ bit y i := by
  unfold bit andNot
  rw [Nat.testBit_xor, Nat.testBit_and]
  cases x.testBit i <;> cases y.testBit i <;> simp
structure SI (e f : E) (items : List It) (seen : View → Nat) (bnd : Nat) : Prop where
  ok : ∀ x ∈ items, Lets x.w ∧ x.s.view = viewAt f x.w ∧ ∀ q, bit x.s.states q → Run (GMv e) 0 x.w q
  ne : ∀ x ∈ items, x.s.states ≠ 0
  lt : ∀ x ∈ items, num x.w < bnd
  srt : items.Pairwise fun x y => num x.w < num y.w
  seen : ∀ v q, bit (seen v) q ↔ ∃ x ∈ items, x.s.view = v ∧ bit x.s.states q
  dis : items.Pairwise fun x y => x.s.view = y.s.view → ∀ q, bit x.s.states q → ¬ bit y.s.states q
  back : ∀ (i : Nat) (x : It), items[i]? = some x → (i = 0 ∧ x.w = []) ∨ (0 < i ∧ ∃ y, x.s.before < i ∧ items[x.s.before]? = some y ∧ x.w = y.w ++ [x.s.letter])
def Cov (e f : E) (items : List It) (x : It) (c : Nat) : Prop := ∀ q j, bit x.s.states q → GMv e c q j → ∃ y ∈ items, bit y.s.states j ∧ y.s.view = viewAt f (x.w ++ [c]) ∧ num y.w ≤ num (x.w ++ [c])
def setAt (seen : View → Nat) (v : View) (n : Nat) : View → Nat := fun u => if u = v then n else seen u
/-- put_down: it is new, or not -/
theorem si_put {e f : E} {items : List It} {seen : View → Nat} {bnd : Nat} (h : SI e f items seen bnd) {x : It} {i c : Nat} (hx : items[i]? = some x) (hc : c ∈ Gq02.letters) (hb : bnd ≤ 6 * num x.w + c) :
    (andNot (reach ((mach e).mv c) x.s.states) (seen (viewOn (mach f) x.s.view c)) = 0 → SI e f items seen (6 * num x.w + c + 1) ∧ Cov e f items x c) ∧
    (andNot (reach ((mach e).mv c) x.s.states) (seen (viewOn (mach f) x.s.view c)) ≠ 0 →
      SI e f (items ++ [⟨⟨andNot (reach ((mach e).mv c) x.s.states) (seen (viewOn (mach f) x.s.view c)), viewOn (mach f) x.s.view c, c, i⟩, x.w ++ [c]⟩])
        (setAt seen (viewOn (mach f) x.s.view c) (seen (viewOn (mach f) x.s.view c) ||| andNot (reach ((mach e).mv c) x.s.states) (seen (viewOn (mach f) x.s.view c)))) (6 * num x.w + c + 1) ∧
      Cov e f (items ++ [⟨⟨andNot (reach ((mach e).mv c) x.s.states) (seen (viewOn (mach f) x.s.view c)), viewOn (mach f) x.s.view c, c, i⟩, x.w ++ [c]⟩]) x c) := by
  have hxm : x ∈ items := List.mem_of_getElem? hx
  obtain ⟨o1, o2, o3⟩ := h.ok x hxm
  have hi : i < items.length := (List.getElem?_eq_some_iff.mp hx).1
  have hn := num_snoc x.w c
  have hv : viewOn (mach f) x.s.view c = viewAt f (x.w ++ [c]) := by rw [viewAt_snoc, o2]
  have hr : ∀ j, bit (reach ((mach e).mv c) x.s.states) j ↔ ∃ q, bit x.s.states q ∧ GMv e c q j := by
    intro j
    rw [bit_reach]
    constructor
    · rintro ⟨q, z1, z2⟩
      exact ⟨q, z1, (mach_mv e c q j).mp z2⟩
    · rintro ⟨q, z1, z2⟩
      exact ⟨q, z1, (mach_mv e c q j).mpr z2⟩
  have old : ∀ j, bit (seen (viewOn (mach f) x.s.view c)) j → ∃ y ∈ items, bit y.s.states j ∧ y.s.view = viewAt f (x.w ++ [c]) ∧ num y.w ≤ num (x.w ++ [c]) := by
    intro j hj
    obtain ⟨y, hy, y1, y2⟩ := (h.seen _ j).mp hj
    have := h.lt y hy
    exact ⟨y, hy, y2, y1.trans hv, by omega⟩
  refine ⟨fun z => ⟨⟨h.ok, h.ne, fun y hy => ?_, h.srt, h.seen, h.dis, h.back⟩, fun q j hq hj => ?_⟩, fun z => ⟨⟨fun y hy => ?_, fun y hy => ?_, fun y hy => ?_, ?_, fun v j => ?_, ?_, fun k y hy => ?_⟩, fun q j hq hj => ?_⟩⟩
  · have := h.lt y hy
    omega
  · apply Classical.byContradiction
    intro no
    have hb1 : bit (reach ((mach e).mv c) x.s.states) j := (hr j).mpr ⟨q, hq, hj⟩
    have : bit (andNot (reach ((mach e).mv c) x.s.states) (seen (viewOn (mach f) x.s.view c))) j := bit_andNot.mpr ⟨hb1, fun k => no (old j k)⟩
    rw [z] at this
    exact bit_zero this
  · rcases List.mem_append.1 hy with hy | hy
    · exact h.ok y hy
    · rw [List.mem_singleton] at hy
      subst hy
      refine ⟨lets_snoc o1 hc, hv, fun j hj => ?_⟩
      obtain ⟨q, q1, q2⟩ := (hr j).mp (bit_andNot.mp hj).1
      exact run_snoc.mpr ⟨q, o3 q q1, q2⟩
  · rcases List.mem_append.1 hy with hy | hy
    · exact h.ne y hy
    · rw [List.mem_singleton] at hy
      subst hy
      exact z
  · rcases List.mem_append.1 hy with hy | hy
    · have := h.lt y hy
      omega
    · rw [List.mem_singleton] at hy
      subst hy
      dsimp only
      omega
  · rw [List.pairwise_append]
    refine ⟨h.srt, by simp, fun y hy u hu => ?_⟩
    rw [List.mem_singleton] at hu
    subst hu
    have := h.lt y hy
    dsimp only
    omega
  · unfold setAt
    by_cases k : v = viewOn (mach f) x.s.view c
    · rw [if_pos k, bit_or, h.seen, k]
      constructor
      · rintro (⟨y, hy, y1, y2⟩ | y2)
        · exact ⟨y, List.mem_append_left _ hy, y1, y2⟩
        · exact ⟨_, List.mem_append_right _ (List.mem_singleton.mpr rfl), rfl, y2⟩
      · rintro ⟨y, hy, y1, y2⟩
        rcases List.mem_append.1 hy with hy | hy
        · exact .inl ⟨y, hy, y1, y2⟩
        · rw [List.mem_singleton] at hy
          subst hy
          exact .inr y2
    · rw [if_neg k, h.seen]
      constructor
      · rintro ⟨y, hy, y1, y2⟩
        exact ⟨y, List.mem_append_left _ hy, y1, y2⟩
      · rintro ⟨y, hy, y1, y2⟩
        rcases List.mem_append.1 hy with hy | hy
        · exact ⟨y, hy, y1, y2⟩
        · rw [List.mem_singleton] at hy
          subst hy
          exact (k y1.symm).elim
  · rw [List.pairwise_append]
    refine ⟨h.dis, by simp, fun y hy u hu ev j j1 j2 => ?_⟩
    rw [List.mem_singleton] at hu
    subst hu
    dsimp only at ev j2
    exact (bit_andNot.mp j2).2 ((h.seen _ j).mpr ⟨y, hy, ev, j1⟩)
  · by_cases k1 : k < items.length
    · rw [List.getElem?_append_left k1] at hy
      rcases h.back k y hy with r | ⟨r1, u, r2, r3, r4⟩
      · exact .inl r
      · exact .inr ⟨r1, u, r2, by rw [List.getElem?_append_left (by omega)]; exact r3, r4⟩
    · rw [List.getElem?_append_right (by omega)] at hy
      have k2 : k - items.length = 0 := by
        have := (List.getElem?_eq_some_iff.mp hy).1
        simp only [List.length_singleton] at this
        omega
      rw [k2] at hy
      cases hy
      refine .inr ⟨by omega, x, by dsimp only; omega, ?_, rfl⟩
      dsimp only
      rw [List.getElem?_append_left hi]
      exact hx
  · have hb1 : bit (reach ((mach e).mv c) x.s.states) j := (hr j).mpr ⟨q, hq, hj⟩
    by_cases k : bit (seen (viewOn (mach f) x.s.view c)) j
    · obtain ⟨y, hy, r⟩ := old j k
      exact ⟨y, List.mem_append_left _ hy, r⟩
    · exact ⟨_, List.mem_append_right _ (List.mem_singleton.mpr rfl), bit_andNot.mpr ⟨hb1, k⟩, hv, Nat.le_refl _⟩
theorem cov_more {e f : E} {items t : List It} {x : It} {c : Nat} (h : Cov e f items x c) : Cov e f (items ++ t) x c := by
  intro q j hq hj
  obtain ⟨y, hy, r⟩ := h q j hq hj
  exact ⟨y, List.mem_append_left _ hy, r⟩
theorem si_up {e f : E} {items : List It} {seen : View → Nat} {b b' : Nat} (h : SI e f items seen b) (k : b ≤ b') : SI e f items seen b' :=
  ⟨h.ok, h.ne, fun x hx => Nat.lt_of_lt_of_le (h.lt x hx) k, h.srt, h.seen, h.dis, h.back⟩
def ShowsIt (e f : E) (x : It) : Prop := x.s.states &&& (mach e).fin ≠ 0 ∧ ¬ x.s.view.2 &&& (mach f).fin ≠ 0
/-- between two turns: k stops are done -/
structure LI (e f : E) (items : List It) (seen : View → Nat) (k : Nat) : Prop where
  si : SI e f items seen (match items[k]? with | some x => 6 * num x.w + 2 | none => 6 * num ((items.getLast?.map It.w).getD []) + 6)
  kle : k ≤ items.length
  root : ∃ x, items[0]? = some x ∧ x.w = [] ∧ bit x.s.states 0
  cov : ∀ (i : Nat) (x : It), i < k → items[i]? = some x → ∀ c ∈ Gq02.letters, Cov e f items x c
  no : ∀ (i : Nat) (x : It), i < k → items[i]? = some x → ¬ ShowsIt e f x
theorem li_start (e f : E) : LI e f [⟨⟨1, view0 (steps f + 1), 0, 0⟩, []⟩] (setAt (fun _ => 0) (view0 (steps f + 1)) 1) 0 := by
  refine ⟨⟨fun x hx => ?_, fun x hx => ?_, fun x hx => ?_, by simp, fun v q => ?_, by simp, fun i x hx => ?_⟩, Nat.zero_le _, ⟨_, rfl, rfl, ?_⟩, fun i x hi => (by omega), fun i x hi => (by omega)⟩
  · rw [List.mem_singleton] at hx
    subst hx
    refine ⟨fun c hc => (nomatch hc), rfl, fun q hq => ?_⟩
    rw [bit_one.mp hq]
    exact .nil 0
  · rw [List.mem_singleton] at hx
    subst hx
    show (1 : Nat) ≠ 0
    omega
  · rw [List.mem_singleton] at hx
    subst hx
    show num [] < 6 * num [] + 2
    rw [num_nil]
    omega
  · unfold setAt
    constructor
    · intro h
      by_cases k : v = view0 (steps f + 1)
      · rw [if_pos k] at h
        exact ⟨_, List.mem_singleton.mpr rfl, k.symm, h⟩
      · rw [if_neg k] at h
        exact (bit_zero h).elim
    · rintro ⟨y, hy, y1, y2⟩
      rw [List.mem_singleton] at hy
      subst hy
      rw [if_pos y1.symm]
      exact y2
  · cases i with
    | zero =>
      cases hx
      exact .inl ⟨rfl, rfl⟩
    | succ i => simp at hx
  · exact bit_one.mpr rfl
/-- the way of a line through the stops -/
theorem li_trace {e f : E} {items : List It} {seen : View → Nat} {k : Nat} (I : LI e f items seen k) : ∀ (n : Nat) (v : List Nat) (q : Nat), v.length = n → Lets v → Run (GMv e) 0 v q →
    ∃ (i : Nat) (x : It), items[i]? = some x ∧ num x.w ≤ num v ∧ ((bit x.s.states q ∧ x.s.view = viewAt f v ∧ i < k) ∨ k ≤ i) ∧ (k ≤ i → ∃ u t, v = u ++ t ∧ num x.w ≤ num u ∧ (t = [] → bit x.s.states q ∧ x.s.view = viewAt f v))
  | 0, v, q, hn, _, hq => by
    obtain rfl := List.eq_nil_of_length_eq_zero hn
    cases hq
    obtain ⟨x, hx, xw, xb⟩ := I.root
    have o := I.si.ok x (List.mem_of_getElem? hx)
    rw [xw] at o
    refine ⟨0, x, hx, by rw [xw]; exact Nat.le_refl _, ?_, fun _ => ⟨[], [], rfl, by rw [xw]; exact Nat.le_refl _, fun _ => ⟨xb, o.2.1⟩⟩⟩
    by_cases z : 0 < k
    · exact .inl ⟨xb, o.2.1, z⟩
    · exact .inr (by omega)
  | n + 1, v, q, hn, hl, hq => by
    have hv : v ≠ [] := by
      rintro rfl
      simp at hn
    obtain ⟨u, c, rfl⟩ : ∃ u c, v = u ++ [c] := ⟨v.dropLast, v.getLast hv, (List.dropLast_concat_getLast hv).symm⟩
    have hu : u.length = n := by simpa using hn
    obtain ⟨p, p1, p2⟩ := run_snoc.mp hq
    have hc : c ∈ Gq02.letters := hl c (by simp)
    obtain ⟨i, x, hx, x1, x2, x3⟩ := li_trace I n u p hu (lets_left hl) p1
    by_cases z : i < k
    · obtain ⟨b1, b2, _⟩ : bit x.s.states p ∧ x.s.view = viewAt f u ∧ i < k := by
        rcases x2 with x2 | x2
        · exact x2
        · omega
      obtain ⟨y, hy, y1, y2, y3⟩ := I.cov i x z hx c hc p q b1 p2
      obtain ⟨j, hj⟩ := List.getElem?_of_mem hy
      have ov := (I.si.ok x (List.mem_of_getElem? hx)).2.1
      have ev : viewAt f (x.w ++ [c]) = viewAt f (u ++ [c]) := by rw [viewAt_snoc, viewAt_snoc, ← ov, b2]
      have yl : num y.w ≤ num (u ++ [c]) := by
        rw [num_snoc] at y3 ⊢
        omega
      refine ⟨j, y, hj, yl, ?_, fun _ => ⟨u ++ [c], [], by simp, yl, fun _ => ⟨y1, y2.trans ev⟩⟩⟩
      by_cases jk : j < k
      · exact .inl ⟨y1, y2.trans ev, jk⟩
      · exact .inr (by omega)
    · obtain ⟨u', t, e1, e2, _⟩ := x3 (by omega)
      refine ⟨i, x, hx, ?_, .inr (by omega), fun _ => ⟨u', t ++ [c], by rw [e1, List.append_assoc], e2, fun k => by simp at k⟩⟩
      have := num_append_le u [c]
      omega
theorem shows_bad {e f : E} {x : It} (h : Lets x.w ∧ x.s.view = viewAt f x.w ∧ ∀ q, bit x.s.states q → Run (GMv e) 0 x.w q) (s : ShowsIt e f x) : Bad e f x.w := by
  obtain ⟨h1, h2, h3⟩ := h
  obtain ⟨q, hq⟩ := bit_ne_zero.mp s.1
  obtain ⟨q1, q2⟩ := bit_and.mp hq
  refine ⟨h1, (grun_says e x.w).mp ⟨q, h3 q q1, (mach_fin e q).mp q2⟩, ?_⟩
  rw [← view_leads, ← h2]
  exact s.2
theorem bad_run {e f : E} {v : List Nat} (h : Bad e f v) : ∃ q, Run (GMv e) 0 v q ∧ GFin e q ∧ ¬ (viewAt f v).2 &&& (mach f).fin ≠ 0 := by
  obtain ⟨q, h1, h2⟩ := (grun_says e v).mpr h.2.1
  refine ⟨q, h1, h2, ?_⟩
  rw [view_leads]
  exact h.2.2
theorem shows_of {e f : E} {x : It} {v : List Nat} {q : Nat} (h1 : bit x.s.states q) (h2 : x.s.view = viewAt f v) (h3 : GFin e q) (h4 : ¬ (viewAt f v).2 &&& (mach f).fin ≠ 0) : ShowsIt e f x :=
  ⟨bit_ne_zero.mpr ⟨q, bit_and.mpr ⟨h1, (mach_fin e q).mpr h3⟩⟩, by rw [h2]; exact h4⟩
theorem items_le {e f : E} {items : List It} {seen : View → Nat} {b i j : Nat} {x y : It} (h : SI e f items seen b) (hx : items[i]? = some x) (hy : items[j]? = some y) (hij : i ≤ j) : num x.w ≤ num y.w := by
  by_cases e : i = j
  · subst e
    rw [hx] at hy
    cases hy
    exact Nat.le_refl _
  · have := List.pairwise_iff_getElem.mp h.srt
    obtain ⟨h1, h2⟩ := List.getElem?_eq_some_iff.mp hx
    obtain ⟨h3, h4⟩ := List.getElem?_eq_some_iff.mp hy
    have := this i j h1 h3 (by omega)
    rw [h2, h4] at this
    omega
/-- it shows it: its line is the first -/
theorem li_found {e f : E} {items : List It} {seen : View → Nat} {k : Nat} (I : LI e f items seen k) {x : It} (hx : items[k]? = some x) (s : ShowsIt e f x) : IsDiffer e f (some x.w) := by
  refine ⟨shows_bad (I.si.ok x (List.mem_of_getElem? hx)) s, fun v hv => ?_⟩
  obtain ⟨q, q1, q2, q3⟩ := bad_run hv
  obtain ⟨i, y, hy, y1, y2, _⟩ := li_trace I _ v q rfl hv.1 q1
  rcases y2 with ⟨b1, b2, b3⟩ | z
  · exact (I.no i y b3 hy (shows_of b1 b2 q2 q3)).elim
  · have := items_le I.si hx hy z
    omega
/-- all is done: there is none -/
theorem li_end {e f : E} {items : List It} {seen : View → Nat} (I : LI e f items seen items.length) : IsDiffer e f none := by
  intro v hv
  obtain ⟨q, q1, q2, q3⟩ := bad_run hv
  obtain ⟨i, y, hy, _, y2, _⟩ := li_trace I _ v q rfl hv.1 q1
  rcases y2 with ⟨b1, b2, b3⟩ | z
  · exact I.no i y b3 hy (shows_of b1 b2 q2 q3)
  · have := (List.getElem?_eq_some_iff.mp hy).1
    omega
/-- a whole turn -/
theorem li_next {e f : E} {items t : List It} {seen seen' : View → Nat} {k : Nat} {x : It} (I : LI e f items seen k) (hx : items[k]? = some x) (s : ¬ ShowsIt e f x)
    (h : SI e f (items ++ t) seen' (6 * num x.w + 6)) (hc : ∀ c ∈ Gq02.letters, Cov e f (items ++ t) x c) : LI e f (items ++ t) seen' (k + 1) := by
  have hk : k < items.length := (List.getElem?_eq_some_iff.mp hx).1
  have hx' : (items ++ t)[k]? = some x := by rw [List.getElem?_append_left hk]; exact hx
  refine ⟨?_, by rw [List.length_append]; omega, ?_, fun i y hi hy => ?_, fun i y hi hy => ?_⟩
  · cases hy : (items ++ t)[k + 1]? with
    | some y =>
      refine si_up h ?_
      have := List.pairwise_iff_getElem.mp h.srt
      obtain ⟨h1, h2⟩ := List.getElem?_eq_some_iff.mp hx'
      obtain ⟨h3, h4⟩ := List.getElem?_eq_some_iff.mp hy
      have := this k (k + 1) h1 h3 (by omega)
      rw [h2, h4] at this
      show 6 * num x.w + 6 ≤ 6 * num y.w + 2
      omega
    | none =>
      have hl : (items ++ t).length = k + 1 := by
        have := List.getElem?_eq_none_iff.mp hy
        have := (List.getElem?_eq_some_iff.mp hx').1
        omega
      have : (items ++ t).getLast? = some x := by
        rw [List.getLast?_eq_getElem?, hl]
        exact hx'
      show SI e f (items ++ t) seen' (6 * num (((items ++ t).getLast?.map It.w).getD []) + 6)
      rw [this]
      exact h
  · obtain ⟨y, hy, r⟩ := I.root
    exact ⟨y, by rw [List.getElem?_append_left (by omega)]; exact hy, r⟩
  · rw [List.getElem?_append_left (by omega)] at hy
    by_cases e1 : i = k
    · subst e1
      rw [hx] at hy
      cases hy
      exact hc
    · exact fun c z => cov_more (I.cov i y (by omega) hy c z)
  · rw [List.getElem?_append_left (by omega)] at hy
    by_cases e1 : i = k
    · subst e1
      rw [hx] at hy
      cases hy
      exact s
    · exact I.no i y (by omega) hy

/-! ### How many stops there can be -/
def allL (n : Nat) : Nat → List (List Nat)
  | 0 => [[]]
  | k + 1 => (List.range n).flatMap fun x => (allL n k).map (x :: ·)
theorem flatMap_length {A B : Type} (f : A → List B) (m : Nat) : ∀ l : List A, (∀ x ∈ l, (f x).length = m) → (l.flatMap f).length = l.length * m
  | [], _ => by simp
  | x :: l, h => by
    rw [List.flatMap_cons, List.length_append, h x List.mem_cons_self, flatMap_length f m l (fun y hy => h y (List.mem_cons_of_mem _ hy)), List.length_cons, Nat.add_mul, Nat.one_mul, Nat.add_comm]
theorem allL_length (n : Nat) : ∀ k, (allL n k).length = n ^ k
  | 0 => rfl
  | k + 1 => by
    rw [allL, flatMap_length _ (n ^ k) _ (fun x _ => by rw [List.length_map, allL_length n k]), List.length_range, Nat.pow_succ, Nat.mul_comm]
theorem mem_allL {n : Nat} : ∀ l : List Nat, (∀ x ∈ l, x < n) → l ∈ allL n l.length
  | [], _ => List.mem_singleton.mpr rfl
  | x :: l, h => by
    rw [List.length_cons, allL, List.mem_flatMap]
    exact ⟨x, List.mem_range.mpr (h x List.mem_cons_self), List.mem_map.mpr ⟨l, mem_allL l fun y hy => h y (List.mem_cons_of_mem _ hy), rfl⟩⟩
/-- a state among them -/
noncomputable def pick (x : Nat) : Nat := open Classical in if h : ∃ i, bit x i then Classical.choose h else 0
theorem pick_bit {x : Nat} (h : x ≠ 0) : bit x (pick x) := by
  have h' := bit_ne_zero.mp h
  unfold pick
  rw [dif_pos h']
  exact Classical.choose_spec h'
theorem grun_in {e : E} {w : List Nat} {p q : Nat} (h : Run (GMv e) p w q) (hp : p ≤ steps e) : q ≤ steps e := by
  induction h with
  | nil => exact hp
  | cons a _ ih => exact ih (gmv_in a).2.2
theorem keys_count {n m k : Nat} {xs : List (Nat × View)} (nd : xs.Nodup) (h : ∀ x ∈ xs, x.1 < m ∧ x.2.1.length = k ∧ (∀ y ∈ x.2.1, y < n) ∧ x.2.2 < n) : xs.length ≤ m * n ^ (k + 1) := by
  have h1 : (xs.map fun x => x.1 :: x.2.2 :: x.2.1).Nodup := by
    unfold List.Nodup
    rw [List.pairwise_map]
    refine List.Pairwise.imp_of_mem ?_ nd
    intro x y _ _ ne e
    injection e with e1 e2
    injection e2 with e2 e3
    exact ne (Prod.ext e1 (Prod.ext e3 e2))
  have h2 := nodup_sub_length _ ((List.range m).flatMap fun q => (allL n (k + 1)).map (q :: ·)) h1 (fun s hs => by
    obtain ⟨x, hx, rfl⟩ := List.mem_map.mp hs
    obtain ⟨x1, x2, x3, x4⟩ := h x hx
    rw [List.mem_flatMap]
    refine ⟨x.1, List.mem_range.mpr x1, List.mem_map.mpr ⟨x.2.2 :: x.2.1, ?_, rfl⟩⟩
    have := mem_allL (n := n) (x.2.2 :: x.2.1) (fun y hy => by
      rcases List.mem_cons.1 hy with rfl | hy
      · exact x4
      · exact x3 y hy)
    rw [List.length_cons, x2] at this
    exact this)
  rw [List.length_map, flatMap_length _ (n ^ (k + 1)) _ (fun q _ => by rw [List.length_map, allL_length]), List.length_range] at h2
  exact h2
theorem si_count {e f : E} {items : List It} {seen : View → Nat} {b : Nat} (h : SI e f items seen b) : items.length ≤ (steps e + 1) * (2 ^ (steps f + 1)) ^ (steps f + 2) := by
  have nd : (items.map fun x => (pick x.s.states, x.s.view)).Nodup := by
    unfold List.Nodup
    rw [List.pairwise_map]
    refine List.Pairwise.imp_of_mem ?_ h.dis
    intro x y hx hy d ee
    injection ee with e1 e2
    have b1 := pick_bit (h.ne x hx)
    have b2 := pick_bit (h.ne y hy)
    rw [← e1] at b2
    exact d e2 _ b1 b2
  have := keys_count (n := 2 ^ (steps f + 1)) (m := steps e + 1) (k := steps f + 1) nd (fun z hz => by
    obtain ⟨x, hx, rfl⟩ := List.mem_map.mp hz
    obtain ⟨o1, o2, o3⟩ := h.ok x hx
    have l := view_lt f x.w
    rw [← o2] at l
    have := grun_in (o3 _ (pick_bit (h.ne x hx))) (Nat.zero_le _)
    exact ⟨by dsimp only; omega, l.1, l.2.1, l.2.2⟩)
  rw [List.length_map] at this
  exact this
theorem small_pow {a b : Nat} (ha : a ≤ 7) (hb : b ≤ 3) : a * (2 ^ (b + 1)) ^ (b + 2) ≤ 7340032 := by
  have h : (2 ^ (b + 1)) ^ (b + 2) ≤ 1048576 := by
    rcases (by omega : b = 0 ∨ b = 1 ∨ b = 2 ∨ b = 3) with rfl | rfl | rfl | rfl <;> decide
  calc a * (2 ^ (b + 1)) ^ (b + 2) ≤ 7 * 1048576 := Nat.mul_le_mul ha h
    _ = 7340032 := by decide
end Wa

namespace Wa
open Gq02 (E Says stays steps turned)

/-! ### Reading a code -/
/-- k codes are still to be read: their parts, and what is left -/
def readN : Nat → List Nat → Option (List Part × List Nat)
  | 0, l => some ([], l)
  | _ + 1, [] => none
  | k + 1, 0 :: r => (readN k r).map fun x => ((0, 0) :: x.1, x.2)
  | _ + 1, [1] => none
  | k + 1, 1 :: c :: r => if 2 ≤ c ∧ c ≤ 5 then (readN k r).map fun x => ((1, c) :: x.1, x.2) else none
  | k + 1, 2 :: r => (readN (k + 2) r).map fun x => ((2, 0) :: x.1, x.2)
  | k + 1, 3 :: r => (readN (k + 2) r).map fun x => ((3, 0) :: x.1, x.2)
  | k + 1, 4 :: r => (readN (k + 1) r).map fun x => ((4, 0) :: x.1, x.2)
  | _ + 1, _ :: _ => none
theorem letters_contains {c : Nat} : Gq02.letters.contains c = true ↔ 2 ≤ c ∧ c ≤ 5 := by
  rw [List.contains_iff_mem]
  exact ⟨letter_ge, letter_of⟩
def pre (ps : List Part) (o : Option (List Part × List Nat)) : Option (List Part × List Nat) := o.map fun x => (ps ++ x.1, x.2)
theorem pre_pre {a b : List Part} {o : Option (List Part × List Nat)} : pre a (pre b o) = pre (a ++ b) o := by
  cases o with
  | none => rfl
  | some x => simp [pre]
theorem pre_nil {o : Option (List Part × List Nat)} : pre [] o = o := by
  cases o with
  | none => rfl
  | some x => rfl
structure ExprSome (l : List Nat) (e : E) (r : List Nat) : Prop where
  len : r.length < l.length
  real : Real e
  rd : ∀ k, readN (k + 1) l = pre (flat e) (readN k r)
theorem readN_stay {k : Nat} {r : List Nat} : readN (k + 1) (0 :: r) = pre [(0, 0)] (readN k r) := rfl
theorem readN_letter {k c : Nat} {r : List Nat} (h : 2 ≤ c ∧ c ≤ 5) : readN (k + 1) (1 :: c :: r) = pre [(1, c)] (readN k r) := by
  show (if 2 ≤ c ∧ c ≤ 5 then _ else _) = _
  rw [if_pos h]
  rfl
theorem readN_noletter {k c : Nat} {r : List Nat} (h : ¬ (2 ≤ c ∧ c ≤ 5)) : readN (k + 1) (1 :: c :: r) = none := by
  show (if 2 ≤ c ∧ c ≤ 5 then _ else _) = _
  rw [if_neg h]
theorem readN_seq {k : Nat} {r : List Nat} : readN (k + 1) (2 :: r) = pre [(2, 0)] (readN (k + 2) r) := rfl
theorem readN_alt {k : Nat} {r : List Nat} : readN (k + 1) (3 :: r) = pre [(3, 0)] (readN (k + 2) r) := rfl
theorem readN_star {k : Nat} {r : List Nat} : readN (k + 1) (4 :: r) = pre [(4, 0)] (readN (k + 1) r) := rfl
theorem readN_far {k x : Nat} {r : List Nat} (h : 5 ≤ x) : readN (k + 1) (x :: r) = none := by
  match x, h with
  | x + 5, _ => rfl
theorem expr_read : ∀ (f : Nat) (l : List Nat), l.length < f → match Gq02.expr f l with
    | some (e, r) => ExprSome l e r
    | none => ∀ k, readN (k + 1) l = none
  | 0, l, h => by omega
  | f + 1, l, h => by
    match l, h with
    | [], _ =>
      show ∀ k, _ = _
      intro k
      rfl
    | 0 :: r, _ =>
      show ExprSome (0 :: r) .stay r
      exact ⟨by simp, trivial, fun k => rfl⟩
    | [1], _ =>
      show ∀ k, _ = _
      intro k
      rfl
    | 1 :: c :: r, _ =>
      by_cases hc : Gq02.letters.contains c = true
      · have e1 : Gq02.expr (f + 1) (1 :: c :: r) = some (.step c, r) := by
          show (if _ then _ else _) = _
          rw [if_pos hc]
        rw [e1]
        exact ⟨by simp; omega, trivial, fun k => readN_letter (letters_contains.mp hc)⟩
      · have e1 : Gq02.expr (f + 1) (1 :: c :: r) = none := by
          show (if _ then _ else _) = _
          rw [if_neg hc]
        rw [e1]
        exact fun k => readN_noletter fun z => hc (letters_contains.mpr z)
    | 2 :: r, h =>
      have h1 := expr_read f r (by simp at h; omega)
      have e0 : Gq02.expr (f + 1) (2 :: r) = (Gq02.expr f r).bind fun (e : E × List Nat) => (Gq02.expr f e.2).map fun (d : E × List Nat) => (E.seq e.1 d.1, d.2) := rfl
      rw [e0]
      cases q1 : Gq02.expr f r with
      | none =>
        rw [q1] at h1
        show ∀ k, _ = _
        intro k
        rw [readN_seq, h1 (k + 1)]
        rfl
      | some x =>
        obtain ⟨e, r1⟩ := x
        rw [q1] at h1
        have h1 : ExprSome r e r1 := h1
        have h2 := expr_read f r1 (by simp at h; have := h1.len; omega)
        rw [Option.bind_some]
        dsimp only
        cases q2 : Gq02.expr f r1 with
        | none =>
          rw [q2] at h2
          show ∀ k, _ = _
          intro k
          rw [readN_seq, h1.rd, h2 k]
          rfl
        | some y =>
          obtain ⟨d, r2⟩ := y
          rw [q2] at h2
          have h2 : ExprSome r1 d r2 := h2
          show ExprSome (2 :: r) (.seq e d) r2
          refine ⟨?_, ⟨h1.real, h2.real⟩, fun k => ?_⟩
          · have := h1.len
            have := h2.len
            simp
            omega
          · rw [readN_seq, h1.rd, h2.rd, pre_pre, pre_pre]
            rfl
    | 3 :: r, h =>
      have h1 := expr_read f r (by simp at h; omega)
      have e0 : Gq02.expr (f + 1) (3 :: r) = (Gq02.expr f r).bind fun (e : E × List Nat) => (Gq02.expr f e.2).map fun (d : E × List Nat) => (E.alt e.1 d.1, d.2) := rfl
      rw [e0]
      cases q1 : Gq02.expr f r with
      | none =>
        rw [q1] at h1
        show ∀ k, _ = _
        intro k
        rw [readN_alt, h1 (k + 1)]
        rfl
      | some x =>
        obtain ⟨e, r1⟩ := x
        rw [q1] at h1
        have h1 : ExprSome r e r1 := h1
        have h2 := expr_read f r1 (by simp at h; have := h1.len; omega)
        rw [Option.bind_some]
        dsimp only
        cases q2 : Gq02.expr f r1 with
        | none =>
          rw [q2] at h2
          show ∀ k, _ = _
          intro k
          rw [readN_alt, h1.rd, h2 k]
          rfl
        | some y =>
          obtain ⟨d, r2⟩ := y
          rw [q2] at h2
          have h2 : ExprSome r1 d r2 := h2
          show ExprSome (3 :: r) (.alt e d) r2
          refine ⟨?_, ⟨h1.real, h2.real⟩, fun k => ?_⟩
          · have := h1.len
            have := h2.len
            simp
            omega
          · rw [readN_alt, h1.rd, h2.rd, pre_pre, pre_pre]
            rfl
    | 4 :: r, h =>
      have h1 := expr_read f r (by simp at h; omega)
      have e0 : Gq02.expr (f + 1) (4 :: r) = (Gq02.expr f r).map fun (e : E × List Nat) => (E.star e.1, e.2) := rfl
      rw [e0]
      cases q1 : Gq02.expr f r with
      | none =>
        rw [q1] at h1
        show ∀ k, _ = _
        intro k
        rw [readN_star, h1 k]
        rfl
      | some x =>
        obtain ⟨e, r1⟩ := x
        rw [q1] at h1
        have h1 : ExprSome r e r1 := h1
        show ExprSome (4 :: r) (.star e) r1
        refine ⟨?_, h1.real, fun k => ?_⟩
        · have := h1.len
          simp
          omega
        · rw [readN_star, h1.rd, pre_pre]
          rfl
    | (x + 5) :: r, _ =>
      show ∀ k, _ = _
      intro k
      rfl
/-- it is just one code -/
theorem parsed_some {l : List Nat} {e : E} (h : Gq02.parsed l = some e) : Real e ∧ readN 1 l = some (flat e, []) := by
  unfold Gq02.parsed at h
  have h1 := expr_read (l.length + 1) l (by omega)
  cases q : Gq02.expr (l.length + 1) l with
  | none =>
    rw [q] at h
    cases h
  | some x =>
    obtain ⟨d, r⟩ := x
    rw [q] at h h1
    have h1 : ExprSome l d r := h1
    cases r with
    | nil =>
      cases h
      refine ⟨h1.real, ?_⟩
      rw [h1.rd]
      simp [pre, readN]
    | cons a r => cases h
theorem parsed_none {l : List Nat} (h : Gq02.parsed l = none) : readN 1 l = none ∨ ∃ ps a r, readN 1 l = some (ps, a :: r) := by
  unfold Gq02.parsed at h
  have h1 := expr_read (l.length + 1) l (by omega)
  cases q : Gq02.expr (l.length + 1) l with
  | none =>
    rw [q] at h1
    exact .inl (h1 0)
  | some x =>
    obtain ⟨d, r⟩ := x
    rw [q] at h h1
    have h1 : ExprSome l d r := h1
    cases r with
    | nil => cases h
    | cons a r =>
      refine .inr ⟨flat d, a, r, ?_⟩
      rw [h1.rd]
      simp [pre, readN]
end Wa

namespace Wa
open Gq02 (E Says stays steps turned)

/-! ### The calls, one behind another -/
def isRow (p : Int) : Prop := p = 0 ∨ p = 1 ∨ p = 4 ∨ p = 5
def isBare (p : Int) : Prop := p = 2 ∨ p = 3 ∨ p = 6 ∨ p = 7
/-- one call is taken off: its number, its row, what is left -/
inductive Cut : List Int → Int → List Int → List Int → Prop where
  | row {p n : Int} {r : List Int} : isRow p → 0 ≤ n → n.toNat ≤ r.length → Cut (p :: n :: r) p (r.take n.toNat) (r.drop n.toNat)
  | bare {p : Int} {r : List Int} : isBare p → Cut (p :: r) p [] r
def callAs (p : Int) (row : List Int) : List (List Int) := if p = 0 ∨ p = 1 ∨ p = 4 ∨ p = 5 then [[p], row] else [[p]]
theorem shape_row {p : Int} (h : isRow p) : PyGq02.shape p = some (0, 1) := by
  rcases h with rfl | rfl | rfl | rfl <;> rfl
theorem shape_bare {p : Int} (h : isBare p) : PyGq02.shape p = some (0, 0) := by
  rcases h with rfl | rfl | rfl | rfl <;> rfl
theorem shape_cases {p : Int} {x : Nat × Nat} (h : PyGq02.shape p = some x) : isRow p ∨ isBare p := by
  unfold PyGq02.shape at h
  unfold isRow isBare
  apply Decidable.byContradiction
  intro k
  have : ∀ n : Int, n = 0 ∨ n = 1 ∨ n = 2 ∨ n = 3 ∨ n = 4 ∨ n = 5 ∨ n = 6 ∨ n = 7 → p ≠ n := by
    intro n hn e
    omega
  rw [if_neg (this 0 (by omega)), if_neg (this 1 (by omega)), if_neg (this 2 (by omega)), if_neg (this 3 (by omega)), if_neg (this 4 (by omega)), if_neg (this 5 (by omega)), if_neg (this 6 (by omega)), if_neg (this 7 (by omega))] at h
  cases h
theorem call_cut {p : Int} {r t : List Int} {c : List (List Int)} (h : PyFlat.call PyGq02.shape (p :: r) = some (c, t)) : ∃ row, Cut (p :: r) p row t ∧ c = callAs p row := by
  unfold PyFlat.call at h
  dsimp only at h
  cases hs : PyGq02.shape p with
  | none =>
    rw [hs] at h
    cases h
  | some x =>
    rcases shape_cases hs with k | k
    · rw [shape_row k] at h
      dsimp only at h
      rw [if_neg (by omega), List.drop_zero, List.take_zero] at h
      unfold PyFlat.rows at h
      cases r with
      | nil =>
        unfold PyFlat.row at h
        cases h
      | cons n r =>
        unfold PyFlat.row at h
        dsimp only at h
        by_cases q : 0 ≤ n ∧ n.toNat ≤ r.length
        · rw [if_pos q] at h
          unfold PyFlat.rows at h
          cases h
          refine ⟨r.take n.toNat, .row k q.1 q.2, ?_⟩
          unfold callAs
          rw [if_pos (by exact k)]
        · rw [if_neg q] at h
          cases h
    · rw [shape_bare k] at h
      dsimp only at h
      rw [if_neg (by omega), List.drop_zero, List.take_zero] at h
      unfold PyFlat.rows at h
      cases h
      refine ⟨[], .bare k, ?_⟩
      unfold callAs
      rw [if_neg]
      unfold isBare at k
      omega
theorem calls_cut {f : Nat} {p : Int} {r : List Int} {cs : List (List (List Int))} (h : PyFlat.calls PyGq02.shape f (p :: r) = some cs) :
    ∃ row t f' cs', Cut (p :: r) p row t ∧ PyFlat.calls PyGq02.shape f' t = some cs' ∧ cs = callAs p row :: cs' := by
  cases f with
  | zero => cases h
  | succ f =>
    unfold PyFlat.calls at h
    cases hc : PyFlat.call PyGq02.shape (p :: r) with
    | none =>
      rw [hc] at h
      cases h
    | some x =>
      obtain ⟨c, t⟩ := x
      rw [hc] at h
      dsimp only at h
      cases ht : PyFlat.calls PyGq02.shape f t with
      | none =>
        rw [ht] at h
        cases h
      | some cs' =>
        rw [ht] at h
        cases h
        obtain ⟨row, k1, k2⟩ := call_cut hc
        exact ⟨row, t, f, cs', k1, ht, by rw [k2]⟩
theorem calls_nil {f : Nat} {cs : List (List (List Int))} (h : PyFlat.calls PyGq02.shape f [] = some cs) : cs = [] := by
  cases f <;> (unfold PyFlat.calls at h; cases h; rfl)
/-- what is due from a desk on -/
def due (d : Gq02.St) (raw : List (List (List Int))) : List Int := PyFlat.told (PyFlat.played (fun s c => Gq02Neutral.step s (c.headD [])) d (raw.map PyGq02.whole))
def stepOf (d : Gq02.St) (p : Int) (row : List Int) : Gq02.St × List Int := Gq02Neutral.step d (p :: row)
theorem whole_callAs {p : Int} {row : List Int} (h : isRow p ∨ (isBare p ∧ row = [])) : (PyGq02.whole (callAs p row)).headD [] = p :: row := by
  rcases h with h | ⟨h, rfl⟩
  · rcases h with rfl | rfl | rfl | rfl <;> rfl
  · rcases h with rfl | rfl | rfl | rfl <;> rfl
theorem cut_kind {l t row : List Int} {p : Int} (h : Cut l p row t) : isRow p ∨ (isBare p ∧ row = []) := by
  cases h with
  | row k => exact .inl k
  | bare k => exact .inr ⟨k, rfl⟩
theorem due_cons {d : Gq02.St} {l t row : List Int} {p : Int} {raw : List (List (List Int))} (h : Cut l p row t) :
    due d (callAs p row :: raw) = ((stepOf d p row).2.length : Int) :: ((stepOf d p row).2 ++ due (stepOf d p row).1 raw) := by
  unfold due
  rw [List.map_cons, PyFlat.played]
  rw [whole_callAs (cut_kind h)]
  rfl
theorem due_nil {d : Gq02.St} : due d [] = [] := rfl
/-- the bounds of a row's numbers -/
def RowOk (row : List Int) : Prop := row.length ≤ 100 ∧ ∀ x ∈ row, 0 ≤ x ∧ x ≤ 4294967295
theorem rowOk_of {p : Int} {row : List Int} (k : isRow p) (h : PyInside.call PyGq02.bound (callAs p row) = true) : RowOk row := by
  have : PyInside.call PyGq02.bound [[p], row] = true := by
    have e : callAs p row = [[p], row] := by
      unfold callAs
      rw [if_pos (by exact k)]
    rw [e] at h
    exact h
  have hb : PyGq02.bound p = ([], [(0, 4294967295, 0, 100)]) := by
    rcases k with rfl | rfl | rfl | rfl <;> rfl
  unfold PyInside.call at this
  dsimp only at this
  rw [hb] at this
  simp only [PyInside.each, PyInside.lists, Bool.true_and, Bool.and_true, Bool.and_eq_true, decide_eq_true_eq, List.all_eq_true, PyInside.within] at this
  exact ⟨this.1.2, fun x hx => this.2 x hx⟩
theorem nat_of {x : Int} (h : 0 ≤ x ∧ x ≤ 4294967295) : Gq02Neutral.nat x = true := by
  unfold Gq02Neutral.nat
  simp only [decide_eq_true_eq, Bool.and_eq_true]
  omega
theorem callOf_ok {p : Int} {row : List Int} (hp : 0 ≤ p ∧ p ≤ 7) (h : RowOk row) : Gq02Neutral.callOf (p :: row) = Gq02Neutral.callIn (p.toNat :: row.map Int.toNat) := by
  unfold Gq02Neutral.callOf
  have : (p :: row).all Gq02Neutral.nat = true := by
    rw [List.all_eq_true]
    intro x hx
    rcases List.mem_cons.1 hx with rfl | hx
    · exact nat_of (by omega)
    · exact nat_of (h.2 x hx)
  rw [if_neg (by rw [this]; exact Bool.noConfusion)]
  rfl
/-- what each number asks -/
def callNo (p : Int) (row : List Nat) : Gq02.Call :=
  if p = 0 then .one row else if p = 1 then .two row else if p = 2 then .within else if p = 3 then .alike else if p = 4 then .leads row else if p = 5 then .straight row else if p = 6 then .shortest else .swap
theorem rowOk_nil : RowOk [] := ⟨by simp, fun x hx => (nomatch hx)⟩
theorem stepOf_eq {d : Gq02.St} {p : Int} {row : List Int} (h : isRow p ∨ (isBare p ∧ row = [])) (k : RowOk row) : stepOf d p row = Gq02.step d (callNo p (row.map Int.toNat)) := by
  unfold stepOf Gq02Neutral.step
  have hp : 0 ≤ p ∧ p ≤ 7 := by
    rcases h with h | ⟨h, _⟩
    · unfold isRow at h; omega
    · unfold isBare at h; omega
  rw [callOf_ok hp k]
  rcases h with h | ⟨h, rfl⟩
  · rcases h with rfl | rfl | rfl | rfl <;> rfl
  · rcases h with rfl | rfl | rfl | rfl <;> rfl
/-- what is asked of the whole list -/
structure Asked (l : List Int) (raw : List (List (List Int))) : Prop where
  calls : PyFlat.calls PyGq02.shape l.length l = some raw
  le : raw.length ≤ 40
  bound : ∀ c ∈ raw, PyInside.call PyGq02.bound c = true
  ans : PyGq02.answers l = due Gq02.init raw
  short : (PyGq02.answers l).length ≤ 10000000
theorem asked_of {l : List Int} (h : PyGq02.answers_asked l = true) : ∃ raw, Asked l raw := by
  unfold PyGq02.answers_asked at h
  cases hc : PyFlat.calls PyGq02.shape l.length l with
  | none =>
    rw [hc] at h
    cases h
  | some raw =>
    rw [hc] at h
    simp only [Bool.and_eq_true, and_assoc] at h
    obtain ⟨_, h2, h3, _, h5⟩ := h
    refine ⟨raw, hc, ?_, ?_, ?_, ?_⟩
    · unfold PyFlat.atMost at h2
      exact decide_eq_true_eq.mp h2
    · unfold PyInside.calls at h3
      exact List.all_eq_true.mp h3
    · unfold PyGq02.answers PyGq02.calls
      rw [hc]
      rfl
    · unfold PyFlat.short at h5
      exact decide_eq_true_eq.mp h5
end Wa

namespace Wa
open Gq02 (E Says stays steps turned)

/-! ### Straight, leads, shortest by the machine -/
def runOn (M : Mach) (S : Nat) (w : List Nat) : Nat := w.foldl (fun S c => reach (M.mv c) S) S
theorem runOn_bit (e : E) : ∀ (w : List Nat) (S q : Nat), bit (runOn (mach e) S w) q ↔ ∃ p, bit S p ∧ Run (GMv e) p w q
  | [], S, q => by
    constructor
    · intro h
      exact ⟨q, h, .nil q⟩
    · rintro ⟨p, h, r⟩
      cases r
      exact h
  | c :: w, S, q => by
    show bit (runOn (mach e) (reach ((mach e).mv c) S) w) q ↔ _
    rw [runOn_bit e w]
    constructor
    · rintro ⟨p, h, r⟩
      obtain ⟨o, h1, h2⟩ := bit_reach.mp h
      exact ⟨o, h1, .cons ((mach_mv e c o p).mp h2) r⟩
    · rintro ⟨o, h1, r⟩
      cases r with
      | @cons _ _ p _ _ a r => exact ⟨p, bit_reach.mpr ⟨o, h1, (mach_mv e c o p).mpr a⟩, r⟩
/-- the states behind a row of letters, gone from the beginning -/
theorem run_says_mach (e : E) (w : List Nat) : runOn (mach e) 1 w &&& (mach e).fin ≠ 0 ↔ Says e w := by
  rw [bit_ne_zero, ← grun_says]
  constructor
  · rintro ⟨q, h⟩
    obtain ⟨h1, h2⟩ := bit_and.mp h
    obtain ⟨p, hp, r⟩ := (runOn_bit e w 1 q).mp h1
    rw [bit_one.mp hp] at r
    exact ⟨q, r, (mach_fin e q).mp h2⟩
  · rintro ⟨q, r, f⟩
    exact ⟨q, bit_and.mpr ⟨(runOn_bit e w 1 q).mpr ⟨0, bit_one.mpr rfl, r⟩, (mach_fin e q).mpr f⟩⟩
theorem straight_mach (e : E) (w : List Nat) : Gq02.straight e w = decide (runOn (mach e) 1 w &&& (mach e).fin ≠ 0) := by
  apply bool_eq_of_iff
  rw [straight_iff, decide_eq_true_eq, run_says_mach]
theorem leads_mach (f : E) {w : List Nat} (hw : Lets w) : Gq02.leads f w = decide ((viewAt f w).2 &&& (mach f).fin ≠ 0) := by
  apply bool_eq_of_iff
  rw [leads_iff f hw, decide_eq_true_eq, view_leads]
theorem isLine_iff {w : List Nat} : Gq02.isLine w = true ↔ w.length ≤ 20 ∧ Lets w := by
  unfold Gq02.isLine
  rw [Bool.and_eq_true, decide_eq_true_eq, List.all_eq_true]
  constructor
  · rintro ⟨h1, h2⟩
    exact ⟨h1, fun c hc => List.contains_iff_mem.mp (h2 c hc)⟩
  · rintro ⟨h1, h2⟩
    exact ⟨h1, fun c hc => List.contains_iff_mem.mpr (h2 c hc)⟩
/-- nothing leads by no expression -/
theorem bad_no {e : E} {w : List Nat} : Bad e .no w ↔ Lets w ∧ Says e w := by
  unfold Bad
  constructor
  · rintro ⟨h1, h2, _⟩
    exact ⟨h1, h2⟩
  · rintro ⟨h1, h2⟩
    refine ⟨h1, h2, ?_⟩
    rintro ⟨u, hu, _⟩
    exact says_no hu
/-- the letters of an expression are letters -/
def LetE : E → Prop
  | .no => True
  | .stay => True
  | .step c => c ∈ Gq02.letters
  | .seq e f => LetE e ∧ LetE f
  | .alt e f => LetE e ∧ LetE f
  | .star e => LetE e
/-- each expression leads straight along some line -/
theorem some_line : ∀ e : E, Real e → LetE e → ∃ w, Lets w ∧ Says e w
  | .no, h, _ => h.elim
  | .stay, _, _ => ⟨[], fun c hc => (nomatch hc), .stay⟩
  | .step c, _, h => ⟨[c], fun d hd => by rw [List.mem_singleton.mp hd]; exact h, .step c⟩
  | .seq e f, h, k => by
    obtain ⟨u, h1, h2⟩ := some_line e h.1 k.1
    obtain ⟨v, g1, g2⟩ := some_line f h.2 k.2
    refine ⟨u ++ v, fun c hc => ?_, .seq e f u v h2 g2⟩
    rcases List.mem_append.mp hc with z | z
    · exact h1 c z
    · exact g1 c z
  | .alt e f, h, k => by
    obtain ⟨u, h1, h2⟩ := some_line e h.1 k.1
    exact ⟨u, h1, .left e f u h2⟩
  | .star e, _, _ => ⟨[], fun c hc => (nomatch hc), .none e⟩
/-- the letters that it says are letters -/
theorem says_lets {e : E} {w : List Nat} (h : Says e w) : LetE e → Lets w := by
  induction h with
  | stay => intro _ c hc; cases hc
  | step c =>
    intro k d hd
    rw [List.mem_singleton.mp hd]
    exact k
  | seq e f v w _ _ ih1 ih2 =>
    intro k c hc
    rcases List.mem_append.mp hc with z | z
    · exact ih1 k.1 c z
    · exact ih2 k.2 c z
  | left e f w _ ih => intro k; exact ih k.1
  | right e f w _ ih => intro k; exact ih k.2
  | none e => intro _ c hc; cases hc
  | more e v w _ _ ih1 ih2 =>
    intro k c hc
    rcases List.mem_append.mp hc with z | z
    · exact ih1 k c z
    · exact ih2 k c z
theorem expr_letE : ∀ (f : Nat) (l : List Nat) (e : E) (r : List Nat), Gq02.expr f l = some (e, r) → LetE e
  | 0, l, e, r, h => by cases h
  | f + 1, l, e, r, h => by
    match l with
    | [] => cases h
    | 0 :: t => cases h; exact trivial
    | [1] => cases h
    | 1 :: c :: t =>
      have h : (if Gq02.letters.contains c = true then some (E.step c, t) else none) = some (e, r) := h
      by_cases hc : Gq02.letters.contains c = true
      · rw [if_pos hc] at h
        cases h
        exact List.contains_iff_mem.mp hc
      · rw [if_neg hc] at h
        cases h
    | 2 :: t =>
      have h : ((Gq02.expr f t).bind fun (e : E × List Nat) => (Gq02.expr f e.2).map fun (d : E × List Nat) => (E.seq e.1 d.1, d.2)) = some (e, r) := h
      cases q1 : Gq02.expr f t with
      | none => rw [q1] at h; cases h
      | some x =>
        rw [q1, Option.bind_some] at h
        cases q2 : Gq02.expr f x.2 with
        | none => rw [q2] at h; cases h
        | some y =>
          rw [q2] at h
          cases h
          exact ⟨expr_letE f t x.1 x.2 q1, expr_letE f x.2 y.1 y.2 q2⟩
    | 3 :: t =>
      have h : ((Gq02.expr f t).bind fun (e : E × List Nat) => (Gq02.expr f e.2).map fun (d : E × List Nat) => (E.alt e.1 d.1, d.2)) = some (e, r) := h
      cases q1 : Gq02.expr f t with
      | none => rw [q1] at h; cases h
      | some x =>
        rw [q1, Option.bind_some] at h
        cases q2 : Gq02.expr f x.2 with
        | none => rw [q2] at h; cases h
        | some y =>
          rw [q2] at h
          cases h
          exact ⟨expr_letE f t x.1 x.2 q1, expr_letE f x.2 y.1 y.2 q2⟩
    | 4 :: t =>
      have h : ((Gq02.expr f t).map fun (e : E × List Nat) => (E.star e.1, e.2)) = some (e, r) := h
      cases q1 : Gq02.expr f t with
      | none => rw [q1] at h; cases h
      | some x =>
        rw [q1] at h
        cases h
        exact expr_letE f t x.1 x.2 q1
    | (x + 5) :: t => cases h
theorem parsed_letE {l : List Nat} {e : E} (h : Gq02.parsed l = some e) : LetE e := by
  unfold Gq02.parsed at h
  cases q : Gq02.expr (l.length + 1) l with
  | none => rw [q] at h; cases h
  | some x =>
    obtain ⟨d, r⟩ := x
    rw [q] at h
    cases r with
    | nil =>
      cases h
      exact expr_letE _ _ _ _ q
    | cons a r => cases h
/-- there is a shortest line -/
theorem shortest_some {e : E} (h : Real e) (k : LetE e) : ∃ w, Gq02.shortest e = some w := by
  have d := differ_is e .no
  unfold Gq02.shortest
  cases q : Gq02.differ e .no with
  | none =>
    rw [q] at d
    obtain ⟨w, h1, h2⟩ := some_line e h k
    exact (d w (bad_no.mpr ⟨h1, h2⟩)).elim
  | some w => exact ⟨w, rfl⟩
end Wa

/-! ### Dicts whose keys are tuples within tuples -/
namespace Wn
open PySem PySem.Spec PyProof.Rows L2
mutual
/-- v is the key k -/
inductive HKey (H : Hp) : NestedKey → V → Prop where
  | int (i : Int) : HKey H (.num i) (.int i)
  | tup {a : Addr} {vs : List V} {ks : List NestedKey} : H a = some (.tup vs) → HKeys H ks vs → HKey H (.tup ks) (.ref a)
inductive HKeys (H : Hp) : List NestedKey → List V → Prop where
  | nil : HKeys H [] []
  | cons {k : NestedKey} {v : V} {ks : List NestedKey} {vs : List V} : HKey H k v → HKeys H ks vs → HKeys H (k :: ks) (v :: vs)
end
def TupsIn (H H' : Hp) : Prop := ∀ b ys, H b = some (.tup ys) → H' b = some (.tup ys)
mutual
theorem HKey.mono {H H' : Hp} (t : TupsIn H H') : ∀ {k : NestedKey} {v : V}, HKey H k v → HKey H' k v
  | _, _, .int i => .int i
  | _, _, .tup e r => .tup (t _ _ e) (HKeys.mono t r)
theorem HKeys.mono {H H' : Hp} (t : TupsIn H H') : ∀ {ks : List NestedKey} {vs : List V}, HKeys H ks vs → HKeys H' ks vs
  | _, _, .nil => .nil
  | _, _, .cons a b => .cons (HKey.mono t a) (HKeys.mono t b)
end
mutual
theorem HKey.is {P : Program} {w : World} {H : Hp} {h : Heap} (ok : HOk P w H h) : ∀ {k : NestedKey} {v : V} {u : Value}, HKey H k v → RelV v u → NestedIs h k u
  | _, _, u, .int i, r => by
    obtain ⟨t, rfl⟩ := r
    exact .int i t
  | _, _, u, .tup (a := a) e q, r => by
    cases (show u = Value.ref a from r)
    obtain ⟨_, its, rv, o, h1, h2, n, h3⟩ := (show ObjOk P w H h a (.tup _) from ok a _ e)
    exact .tup h1 h2 h3 (by simpa using HKeys.is ok q rv)
theorem HKeys.is {P : Program} {w : World} {H : Hp} {h : Heap} (ok : HOk P w H h) : ∀ {ks : List NestedKey} {vs : List V} {us : List Value}, HKeys H ks vs → Vals vs us → NestedAll h ks us
  | _, _, _, .nil, .nil => .nil
  | _, _, _, .cons a b, .cons r t => .cons (HKey.is ok a r) (HKeys.is ok b t)
end
abbrev NEnt := NestedKey × Addr × V
def nAt (kvs : List NEnt) (k : NestedKey) : Option V := (kvs.find? fun x => decide (x.1 = k)).map (·.2.2)
def nSet (k : NestedKey) (v : V) (x : NEnt) : NEnt := if x.1 = k then (x.1, x.2.1, v) else x
def nPut (kvs : List NEnt) (k : NestedKey) (a : Addr) (v : V) : List NEnt := if (nAt kvs k).isSome then kvs.map (nSet k v) else kvs ++ [(k, a, v)]
def NRel (p : NEnt) (q : NestedKey × Addr × Value) : Prop := p.1 = q.1 ∧ p.2.1 = q.2.1 ∧ RelV p.2.2 q.2.2
theorem nrel_at {kvs : List NEnt} {xs : List (NestedKey × Addr × Value)} (r : Paired NRel kvs xs) (k : NestedKey) : RelO (nAt kvs k) ((atKey xs k).map (·.2)) := by
  induction r with
  | nil => exact True.intro
  | @cons p q ps qs hq t ih =>
    obtain ⟨h1, h2, h3⟩ := hq
    by_cases e : p.1 = k
    · have e' : q.1 = k := by rw [← h1]; exact e
      have g : RelO (some p.2.2) (some q.2.2) := h3
      simpa [nAt, atKey, List.find?_cons, e, e'] using g
    · have e' : ¬ q.1 = k := by rw [← h1]; exact e
      simpa [nAt, atKey, List.find?_cons, e, e'] using ih
theorem nrel_map {kvs : List NEnt} {xs : List (NestedKey × Addr × Value)} (r : Paired NRel kvs xs) (k : NestedKey) {v : V} {u : Value} (rv : RelV v u) : Paired NRel (kvs.map (nSet k v)) (xs.map (putAt k u)) := by
  induction r with
  | nil => exact .nil
  | @cons p q ps qs hq t ih =>
    refine .cons ?_ ih
    obtain ⟨h1, h2, h3⟩ := hq
    unfold nSet putAt
    by_cases e : p.1 = k
    · have e' : q.1 = k := by rw [← h1]; exact e
      rw [if_pos e, if_pos e']
      exact ⟨h1, h2, rv⟩
    · have e' : ¬ q.1 = k := by rw [← h1]; exact e
      rw [if_neg e, if_neg e']
      exact ⟨h1, h2, h3⟩
theorem paired_append {α β : Type} {F : α → β → Prop} : ∀ {a : List α} {b : List β} {c : List α} {d : List β}, Paired F a b → Paired F c d → Paired F (a ++ c) (b ++ d)
  | _, _, _, _, .nil, s => s
  | _, _, _, _, .cons r t, s => .cons r (paired_append t s)
theorem nrel_put {kvs : List NEnt} {xs : List (NestedKey × Addr × Value)} (r : Paired NRel kvs xs) (k : NestedKey) (a : Addr) {v : V} {u : Value} (rv : RelV v u) : Paired NRel (nPut kvs k a v) (storedH xs k a u) := by
  have q := (nrel_at r k).isSome_eq
  rw [Option.isSome_map] at q
  unfold nPut storedH
  rw [q]
  split
  · exact nrel_map r k rv
  · exact paired_append r (.cons ⟨rfl, rfl, rv⟩ .nil)
theorem nPut_length (kvs : List NEnt) (k : NestedKey) (a : Addr) (v : V) : (nPut kvs k a v).length ≤ kvs.length + 1 := by
  unfold nPut
  split <;> simp
theorem nAt_map (k j : NestedKey) (v : V) : ∀ kvs : List NEnt, nAt (kvs.map (nSet k v)) j = (nAt kvs j).map fun x => if j = k then v else x
  | [] => rfl
  | p :: r => by
    have ih := nAt_map k j v r
    unfold nAt at ih ⊢
    by_cases e : p.1 = j
    · by_cases e2 : p.1 = k
      · have e3 : j = k := e.symm.trans e2
        simp [nSet, e2, List.find?_cons, e3]
      · have e3 : ¬ j = k := fun z => e2 (e.trans z)
        simp [nSet, e2, List.find?_cons, e, e3]
    · have e1 : (nSet k v p).1 = p.1 := by
        unfold nSet
        split <;> rfl
      simp [List.find?_cons, e1, e]
      simpa using ih
theorem nAt_append (k j : NestedKey) (a : Addr) (v : V) : ∀ kvs : List NEnt, nAt kvs k = none → nAt (kvs ++ [(k, a, v)]) j = if j = k then some v else nAt kvs j
  | [], _ => by
    by_cases e : j = k
    · simp [nAt, e]
    · have e' : ¬ k = j := fun z => e z.symm
      simp [nAt, e, e']
  | p :: r, h => by
    unfold nAt at h ⊢
    by_cases e0 : p.1 = k
    · simp [List.find?_cons, e0] at h
    · have hr : nAt r k = none := by
        unfold nAt
        simpa [List.find?_cons, e0] using h
      have ih := nAt_append k j a v r hr
      unfold nAt at ih
      by_cases e : p.1 = j
      · have e2 : ¬ j = k := fun z => e0 (e.trans z)
        simp [List.find?_cons, e, e2]
      · simp only [List.cons_append, List.find?_cons, e, decide_false]
        exact ih
theorem nAt_put (kvs : List NEnt) (k j : NestedKey) (a : Addr) (v : V) : nAt (nPut kvs k a v) j = if j = k then some v else nAt kvs j := by
  unfold nPut
  by_cases h : (nAt kvs k).isSome = true
  · rw [if_pos h, nAt_map]
    by_cases e : j = k
    · subst e
      obtain ⟨x, hx⟩ := Option.isSome_iff_exists.mp h
      simp [hx]
    · simp [e]
  · rw [if_neg h]
    exact nAt_append k j a v kvs (by simpa using h)
theorem nPut_mem {kvs : List NEnt} {k : NestedKey} {a : Addr} {v : V} {x : NEnt} (h : x ∈ nPut kvs k a v) : (∃ y ∈ kvs, x.1 = y.1 ∧ x.2.1 = y.2.1) ∨ (x.1 = k ∧ x.2.1 = a) := by
  unfold nPut at h
  split at h
  · obtain ⟨y, hy, rfl⟩ := List.mem_map.1 h
    refine .inl ⟨y, hy, ?_⟩
    unfold nSet
    split <;> exact ⟨rfl, rfl⟩
  · rcases List.mem_append.1 h with h | h
    · exact .inl ⟨x, h, rfl, rfl⟩
    · rw [List.mem_singleton] at h
      subst h
      exact .inr ⟨rfl, rfl⟩
theorem nPut_keys {kvs : List NEnt} {k : NestedKey} {a : Addr} {v : V} (h : nAt kvs k = none) : (nPut kvs k a v).map (·.1) = kvs.map (·.1) ++ [k] := by
  unfold nPut
  rw [h]
  simp
theorem nPut_keys_old {kvs : List NEnt} {k : NestedKey} {a : Addr} {v : V} (h : (nAt kvs k).isSome = true) : (nPut kvs k a v).map (·.1) = kvs.map (·.1) := by
  unfold nPut
  rw [if_pos h, List.map_map]
  refine List.map_congr_left fun z _ => ?_
  show (nSet k v z).1 = z.1
  unfold nSet
  split <;> rfl
/-- what stands at a dict's address, by its one object -/
def NdObj (P : Program) (w : World) (d : Addr) (kvs : List NEnt) : Heap → Prop := fun h => ∃ xs : List (NestedKey × Addr × Value), Paired NRel kvs xs ∧
  ∃ o es ep, h.get? d = some o ∧ o.ExactDict ∧ o.data = .dict es ep ∧ es.toList = xs.map (entryOfKey (nestedKind P w)) ∧ (xs.map (·.1)).Nodup
structure ND (P : Program) (w : World) (H : Hp) (d : Addr) (kvs : List NEnt) : Prop where
  at_ : H d = some (.ext (NdObj P w d kvs))
  len : kvs.length ≤ sizeLine
  sys : (d == sysModules) = false
  keys : ∀ p ∈ kvs, HKey H p.1 (.ref p.2.1) ∧ p.1.depth ≤ 8
theorem ND.mono {P : Program} {w : World} {H H' : Hp} {d : Addr} {kvs : List NEnt} (n : ND P w H d kvs) (t : TupsIn H H') (e : H' d = H d) : ND P w H' d kvs :=
  ⟨e.trans n.at_, n.len, n.sys, fun p hp => ⟨(n.keys p hp).1.mono t, (n.keys p hp).2⟩⟩
theorem nd_of {P : Program} {w : World} {H : Hp} {h : Heap} {d : Addr} {kvs : List NEnt} (ok : HOk P w H h) (n : ND P w H d kvs) : ∃ xs, Paired NRel kvs xs ∧ h.DictOfH (nestedKind P w) d xs := by
  obtain ⟨⟨xs, r, o, es, ep, h1, h2, h3, h4, h5⟩, _, _⟩ := (show ObjOk P w H h d (.ext (NdObj P w d kvs)) from ok d _ n.at_)
  refine ⟨xs, r, o, es, ep, h1, h2, h3, h4, ?_, h5⟩
  have all : ∀ {l : List NEnt} {m : List (NestedKey × Addr × Value)}, Paired NRel l m → (∀ p ∈ l, HKey H p.1 (.ref p.2.1) ∧ p.1.depth ≤ 8) → ∀ x ∈ m, (nestedKind P w).is h x.1 x.2.1 := by
    intro l m q
    induction q with
    | nil => intro _ x hx; exact nomatch hx
    | @cons p q ps qs hq t ih =>
      intro hk x hx
      rcases List.mem_cons.1 hx with e | hx
      · subst e
        obtain ⟨k1, k2⟩ := hk p List.mem_cons_self
        obtain ⟨e1, e2, _⟩ := hq
        rw [e1, e2] at k1
        rw [e1] at k2
        exact ⟨k1.is ok rfl, k2⟩
      · exact ih (fun y hy => hk y (List.mem_cons_of_mem _ hy)) x hx
  exact all r n.keys
theorem nd_ext_stable {P : Program} {w : World} {d : Addr} {kvs : List NEnt} : ∀ h1 h2 : Heap, NdObj P w d kvs h1 → (∀ o, h1.get? d = some o → h2.get? d = some o) → NdObj P w d kvs h2 := by
  rintro h1 h2 ⟨xs, r, o, es, ep, g1, g2⟩ k
  exact ⟨xs, r, o, es, ep, k _ g1, g2⟩
section
variable {X : Cx} {pins : List (Addr × Obj)} {σ : L2.St} {H : Hp} {s : Shared} {d b : Addr} {k : NestedKey} {v : V} {u r : Value} {kvs : List NEnt} {A : Around} {E : Value → Shared → Prop}
theorem n_room (hu : A.units + 64 < cLine) : (nestedKind X.prog X.w).room A.in1 := by
  show A.units + 1 + 8 < cLine
  omega
theorem n_key (I : Inv X pins σ H s) (hk : HKey H k (.ref b)) (hd : k.depth ≤ 8) : (nestedKind X.prog X.w).is s.heap k b := ⟨hk.is I.hok rfl, hd⟩
theorem n_getItem {Q : Value → Shared → Prop} (hu : A.units + 64 < cLine) (I : Inv X pins σ H s) (n : ND X.prog X.w H d kvs) (hk : HKey H k (.ref b)) (hd : k.depth ≤ 8) (l : nAt kvs k = some v) (h : ∀ w' s', Inv X pins σ H s' → RelV v w' → Q w' s') :
    wpAny (model X.prog X.w) A (getItem (.ref d) (.ref b)) Q E s := by
  obtain ⟨xs, rel, dd⟩ := nd_of I.hok n
  obtain ⟨w', hw, rw'⟩ := RelO.some_of (v := v) (o := (atKey xs k).map (·.2)) (by rw [← l]; exact nrel_at rel k)
  obtain ⟨p, hp, hp2⟩ := Option.map_eq_some_iff.1 hw
  refine wpAny_getItem_heap (n_room hu) (n_key I hk hd) dd hp ?_
  rw [hp2]
  exact h w' _ (I.tok _) rw'
theorem n_notIn {Q : Value → Shared → Prop} (hu : A.units + 64 < cLine) (I : Inv X pins σ H s) (n : ND X.prog X.w H d kvs) (hk : HKey H k (.ref b)) (hd : k.depth ≤ 8) (h : ∀ s', Inv X pins σ H s' → Q (.bool (!(nAt kvs k).isSome)) s') :
    wpAny (model X.prog X.w) A (compareOp .NotIn (.ref b) (.ref d)) Q E s := by
  obtain ⟨xs, rel, dd⟩ := nd_of I.hok n
  refine wpAny_notIn_heap (n_room hu) (n_key I hk hd) n.sys dd ?_
  have q := (nrel_at rel k).isSome_eq
  rw [Option.isSome_map] at q
  rw [← q]
  exact h _ (I.tok _)
theorem n_get2 {x : V} {Q : Value → Shared → Prop} (hu : A.units + 64 < cLine) (I : Inv X pins σ H s) (n : ND X.prog X.w H d kvs) (hk : HKey H k (.ref b)) (hd : k.depth ≤ 8) (rd : RelV x r) (h : ∀ w' s', Inv X pins σ H s' → RelV ((nAt kvs k).getD x) w' → Q w' s') :
    wpAny (model X.prog X.w) A (call (.builtin "dict.get") [.ref d, .ref b, r]) Q E s := by
  obtain ⟨xs, rel, dd⟩ := nd_of I.hok n
  refine call_meetsIn PySem.F.slot_dict_get dd.typeIs PySem.F.entry_dict_get (PySem.F.args_dict_get_3 _ _ _) (meetsH_dict_get_default (nestedKind X.prog X.w) d b n.sys r) ⟨n_room hu, k, xs, n_key I hk hd, dd, h _ _ (I.tok _) ?_⟩
  exact (nrel_at rel k).getD rd
theorem n_setItem {Q : Unit → Shared → Prop} (hu : A.units + 64 < cLine) (I : Inv X pins σ H s) (n : ND X.prog X.w H d kvs) (hk : HKey H k (.ref b)) (hd : k.depth ≤ 8) (hl : kvs.length < sizeLine) (rv : RelV v r)
    (h : ∀ s', Inv X pins σ (upd H d (.ext (NdObj X.prog X.w d (nPut kvs k b v)))) s' → Q () s') : wpAny (model X.prog X.w) A (setItem (.ref d) (.ref b) r) Q E s := by
  obtain ⟨xs, rel, dd⟩ := nd_of I.hok n
  have hz : xs.length ≤ sizeLine := by rw [← Paired.length rel]; exact n.len
  refine wpAny_setItem_heap (hsz := hz) (n_room hu) (n_key I hk hd) dd fun h' dd' hs => h _ ?_
  rcases dd' with ⟨q, es, ep, hq, h2, h3, h4, _, h5⟩
  exact d_write I (by rw [n.at_]; exact True.intro) hs ⟨q, hq⟩ ⟨⟨_, nrel_put rel k b rv, q, es, ep, hq, h2, h3, h4, h5⟩, ⟨q, hq⟩, nd_ext_stable⟩
end
/-- the dict behind a store -/
theorem ND.put {P : Program} {w : World} {H : Hp} {d b : Addr} {k : NestedKey} {v : V} {kvs : List NEnt} (n : ND P w H d kvs) (hk : HKey H k (.ref b)) (hd : k.depth ≤ 8) (hl : kvs.length < sizeLine) :
    ND P w (upd H d (.ext (NdObj P w d (nPut kvs k b v)))) d (nPut kvs k b v) := by
  have t : TupsIn H (upd H d (.ext (NdObj P w d (nPut kvs k b v)))) := fun c ys e => by
    rw [upd_ne (ne_of e n.at_ (fun z => nomatch z))]
    exact e
  refine ⟨upd_same, by have := nPut_length kvs k b v; omega, n.sys, fun p hp => ?_⟩
  rcases nPut_mem hp with ⟨y, hy, e1, e2⟩ | ⟨e1, e2⟩
  · obtain ⟨k1, k2⟩ := n.keys y hy
    rw [e1, e2]
    exact ⟨k1.mono t, k2⟩
  · rw [e1, e2]
    exact ⟨hk.mono t, hd⟩
/-! the rules -/
/-- {} -/
def tNNew (P : Program) (w : World) : TE := fun _ H Q => ∀ p, H p = none → (p == sysModules) = false → Q (.ref p) (upd H p (.ext (NdObj P w p [])))
theorem pe_nnew {X : Cx} {pos : Pos} : PE X (.Dict [] [] pos) (tNNew X.prog X.w) := ⟨fun pins s σ H Q I h => by
  have hb := I.big
  refine wpAny_Dict_empty ⟨.ref s.heap.objs.size, _, I.laid (a := s.heap.objs.size) (o := .ext (NdObj X.prog X.w s.heap.objs.size [])) (t' := s.toks) (fun _ _ q => Heap.get?_push_of_some _ q) (Nat.le_refl _) ?_, rfl, h _ (I.hok.fresh (Nat.le_refl _)) (beq_eq_false_iff_ne.mpr (Ne.symm (Nat.ne_of_lt hb)))⟩
  exact ⟨⟨[], .nil, _, #[], 0, Heap.get?_push_size _ rfl, ⟨rfl, rfl, rfl⟩, rfl, rfl, List.nodup_nil⟩, ⟨_, Heap.get?_push_size _ rfl⟩, nd_ext_stable⟩⟩
theorem ND.new {P : Program} {w : World} {H : Hp} {d : Addr} (e : H d = some (.ext (NdObj P w d []))) (hs : (d == sysModules) = false) : ND P w H d [] := ⟨e, Nat.zero_le _, hs, fun p hp => nomatch hp⟩
def tNGet (P : Program) (w : World) (td ty : TE) : TE := fun σ H Q => td σ H fun x H1 => ty σ H1 fun y H2 => ∃ d b kvs k v, x = .ref d ∧ y = .ref b ∧ ND P w H2 d kvs ∧ HKey H2 k (.ref b) ∧ k.depth ≤ 8 ∧ nAt kvs k = some v ∧ Q v H2
def tNNotIn (P : Program) (w : World) (ty td : TE) : TE := fun σ H Q => ty σ H fun y H1 => td σ H1 fun x H2 => ∃ d b kvs k, x = .ref d ∧ y = .ref b ∧ ND P w H2 d kvs ∧ HKey H2 k (.ref b) ∧ k.depth ≤ 8 ∧ Q (.bl (!(nAt kvs k).isSome)) H2
def sNPut (P : Program) (w : World) (td ty tv : TE) : TS := fun D σ H => tv σ H fun v H1 => td σ H1 fun x H2 => ty σ H2 fun y H3 => ∃ d b kvs k, x = .ref d ∧ y = .ref b ∧ ND P w H3 d kvs ∧ HKey H3 k (.ref b) ∧ k.depth ≤ 8 ∧ kvs.length < sizeLine ∧
  D.nx σ (upd H3 d (.ext (NdObj P w d (nPut kvs k b v))))
def tNGet2 (P : Program) (w : World) (td ty tx : TE) : TE := fun σ H Q => td σ H fun x H1 => ∃ d kvs0, x = .ref d ∧ ND P w H1 d kvs0 ∧ ty σ H1 fun y H2 => tx σ H2 fun z H3 => ∃ b kvs k, y = .ref b ∧ ND P w H3 d kvs ∧ HKey H3 k (.ref b) ∧ k.depth ≤ 8 ∧ Q ((nAt kvs k).getD z) H3
section
variable {X : Cx} {o i e f value : Expr} {pos pos' apos cpos : Pos} {td ty tv tx : TE}
theorem nd_typeIs {pins : List (Addr × Obj)} {σ : L2.St} {H : Hp} {s : Shared} {d : Addr} {kvs : List NEnt} (I : Inv X pins σ H s) (n : ND X.prog X.w H d kvs) : s.TypeIs (.ref d) "dict" := by
  obtain ⟨xs, _, dd⟩ := nd_of I.hok n
  exact dd.typeIs
theorem pe_nget (hu : X.A.units + 64 < cLine) (ho : PE X o td) (hi : PE X i ty) (hs : NoSl i) : PE X (.Subscript o i pos) (tNGet X.prog X.w td ty) := by
  refine ⟨fun pins s σ H Q I h => ?_⟩
  refine subD_of PySem.F.slot_dict_getitem.lookup hs (thn (ho.run pins s σ H _ I h) fun u s1 ⟨x, H1, I1, rx, q1⟩ => thn (hi.run pins s1 σ H1 _ I1 q1) fun iv s2 ⟨y, H2, I2, ry, d, b, kvs, k, v, ex, ey, n, hk, hd, l, q2⟩ => ?_)
  subst ex ey
  obtain rfl : u = .ref d := rx
  obtain rfl : iv = Value.ref b := ry
  exact ⟨nd_typeIs I2 n, n_getItem hu I2 n hk hd l fun w' s3 I3 rw' => ⟨v, H2, I3, rw', q2⟩⟩
theorem pc_nnotin (hu : X.A.units + 64 < cLine) (hi : PE X i ty) (ho : PE X o td) : PC X .NotIn i o (tNNotIn X.prog X.w ty td) := by
  refine ⟨fun pins s σ H Q I h => ?_⟩
  refine thn (hi.run pins s σ H _ I h) fun iv s1 ⟨y, H1, I1, ry, q1⟩ => thn (ho.run pins s1 σ H1 _ I1 q1) fun u s2 ⟨x, H2, I2, rx, d, b, kvs, k, ex, ey, n, hk, hd, q2⟩ => ?_
  subst ex ey
  obtain rfl : u = .ref d := rx
  obtain rfl : iv = Value.ref b := ry
  exact n_notIn hu I2 n hk hd fun s3 I3 => ⟨.bl (!(nAt kvs k).isSome), H2, I3, rfl, q2⟩
theorem ps_nput (hu : X.A.units + 64 < cLine) (ho : PE X o td) (hi : PE X i ty) (hv : PE X value tv) (hs : swapsWith value (some (.Subscript o i pos')) pos.line X.env = pure false) :
    PS X (.Assign [.Subscript o i pos'] value pos) (sNPut X.prog X.w td ty tv) := by
  refine ⟨fun pins s σ H D I h => ?_⟩
  refine wpAny_Assign_Subscript (thn (hv.run pins s σ H _ I h) fun r s1 ⟨v, H1, I1, rv, q1⟩ => thn (ho.run pins s1 σ H1 _ I1 q1) fun u s2 ⟨x, H2, I2, rx, q2⟩ => thn (hi.run pins s2 σ H2 _ I2 q2) fun iv s3 ⟨y, H3, I3, ry, d, b, kvs, k, ex, ey, n, hk, hd, hl, q3⟩ => ?_) hs
  subst ex ey
  obtain rfl : u = .ref d := rx
  obtain rfl : iv = Value.ref b := ry
  exact n_setItem hu I3 n hk hd hl rv fun s4 I4 => ⟨σ, _, I4, q3⟩
theorem pe_nget2 (hu : X.A.units + 64 < cLine) (ho : PE X o td) (he : PE X e ty) (hf : PE X f tx) (m : M2 X o "get" apos e f cpos) : PE X (.Call (.Attribute o "get" apos) [e, f] [] cpos) (tNGet2 X.prog X.w td ty tx) := by
  refine ⟨fun pins s σ H Q I h => ?_⟩
  refine wpAny_Call_method m.base m.few m.line PySem.F.plainAttrs_dict PySem.F.slot_dict_get PySem.F.type_dict_get (thn (ho.run pins s σ H _ I h) fun u s1 ⟨x, H1, I1, rx, d, kvs0, ex, n0, q1⟩ => ?_)
  subst ex
  obtain rfl : u = .ref d := rx
  obtain ⟨xs0, _, dd⟩ := nd_of I1.hok n0
  refine ⟨dd.typeIs, fun b q => ?_, ?_⟩
  · cases q
    rcases dd with ⟨ob, _, _, h1, h2, _⟩
    exact ⟨ob, h1, h2.2.1⟩
  rw [m.trees]
  refine Calls.callWith_builtin rfl (Calls.evalArgs_plain (Calls.spliced_cons (thn (he.run pins s1 σ H1 _ I1 q1) ?_)))
  rintro kv s2 ⟨y, H2, I2, ry, q2⟩
  refine Calls.spliced_cons (thn (hf.run pins s2 σ H2 _ I2 q2) ?_)
  rintro dv s3 ⟨z, H3, I3, rz, b, kvs, k, rfl, n, hk, hd, q3⟩
  obtain rfl : kv = Value.ref b := ry
  exact Calls.spliced_nil (n_get2 hu I3 n hk hd rz fun w' s4 I4 rw' => ⟨_, H3, I4, rw', q3⟩)
end
end Wn

/-! ### Rules that the layer lacks -/
namespace Wr
open PySem PySem.Spec PyProof.Rows L2
section
variable {X : Cx}
/-- X(), X an own exception class without own __init__ -/
theorem pmk_own0 {C : Addr} {bmB : List Value} {B newId initId : String} {x : Str} {p pos : Pos} (F : ExcBaseFacts B newId initId bmB) (q : PySem.W.excIn X.K C bmB newId = true) (gC : X.mg x = some (.ref C))
    (kC : PySem.W.keepIn X.K (.ref C) = true) (r : Raises X (.ref C)) (hg : Gl X x) (hdb : (x == ("__debug__" : Str)) = false := by decide) :
    PMk X (.Call (.Name x p) [] [] pos) (fun _ H Q => Q (.ref C) none H) := by
  intro pn m τ G Q J told
  have known := exc_obj J.kIn q
  obtain ⟨bm, N, nm, qn, bs, hdct, sn, sub, ab, col, dd, k0, k1, k2, k3, k5, mN, hC, hN, hni, T⟩ := known
  have made : ∀ A1 E1, wpAny (model X.prog X.w) A1 (call (.ref C) []) _ E1 m := fun A1 E1 =>
    wpAny_call_exc_subT (rest := []) F T hC hN hni (fun h1 e hm => mk_of J hm r told (J.hok.gone hm.new)) (Nat.zero_le _)
  exact wpAny_Call_Name_kw (ld_glob J hg gC (PySem.W.callWith_K0 J.kIn kC (made _ _)) hdb)
/-- xs[i], by values, for xs[i] op= e -/
def gIxL (K : PySem.W.Frag) : V → V → Hp → VK → Prop := fun o i H Q => ∃ (a : Addr) (xs : List V) (n : Nat) (v : V), o = .ref a ∧ i = .int (n : Int) ∧ SqL K H a xs ∧ xs[n]? = some v ∧ Q v H
theorem get_list : PGet X (gIxL X.K) := by
  intro pn m τ G o j ov jv Q J r1 r2 told
  obtain ⟨a, xs, n, v, rfl, rfl, sq, gx, q⟩ := told
  obtain rfl : ov = Value.ref a := r1
  rcases r2 with ⟨tk, rfl⟩
  rcases J.list sq with ⟨vs, rel, isL, few⟩
  rcases rel.get gx with ⟨u, gu, ru⟩
  have lt := (List.getElem?_eq_some_iff.mp gu).1
  have len := rel.length
  have far := line63
  exact wpAny_getItem_list isL.isList (by omega) (by omega) (by simpa using gu) ⟨v, G, J, ru, q⟩
theorem ip_or : PIp X .BitOr (ipI fun i j => Builtin.bitOr i j) := by
  intro pn m τ G _ _ _ _ Q J r1 r2 ⟨i, j, e1, e2, q⟩
  subst e1 e2
  rcases r1 with ⟨_, rfl⟩
  rcases r2 with ⟨_, rfl⟩
  exact ior_int ⟨.int _, G, J.tok _, ⟨_, rfl⟩, q⟩
end
/-! enumerate(a tuple): the two objects that it makes -/
abbrev itrT (T : Addr) : Obj := { cls := .type "tuple_iterator", data := .fields #[.ref T, .int 0 0] }
abbrev enuT (k : Addr) : Obj := { cls := .type "enumerate", data := .fields #[.none, .bool false, .ref k, rawInt 0, .none, .none] }
abbrev tupO (d0 : Option Addr) (sl0 : Array (Option Value)) (c0 : Nat) (vals : Array Value) : Obj := { cls := .type "tuple", dict := d0, data := .seq vals c0, slots := sl0 }
/-- enumerate.__new__ -/
theorem enu_new (T : Addr) (vals : Array Value) (c0 : Nat) (d0 : Option Addr) (sl0 : Array (Option Value)) :
    Meets (Builtin.«enumerate.__new__» ⟨[.type "enumerate", .ref T], []⟩) fun _ R m => m.heap.get? T = some (tupO d0 sl0 c0 vals) ∧
      R (.ok (.ret (.ref (m.heap.push (itrT T)).objs.size))) { m with heap := (m.heap.push (itrT T)).push (enuT m.heap.objs.size) } := by
  refine .of_wp fun pr wd Ar R m hm => ?_
  rcases m with ⟨hp, gl, dl, tk, ou⟩
  have at0 := hm.1
  have fin := hm.2
  have subs := sub_enumerate
  have isT : Heap.IsTuple (Shared.heap ⟨hp, gl, dl, tk, ou⟩) T vals := ⟨_, at0, rfl, c0, rfl⟩
  wp_walk using PySem.AutoSeq1.wpAny_loadPart' at0
  refine wpAny_stack_any fun _ => ?_
  refine wpAny_pure ?_
  split
  · rename_i cl _ _ _ _ _
    by_cases z : (cl == Value.type "enumerate") = true
    · rw [z]
      wp_walk using PySem.AutoSeq1.wpAny_loadPart' at0, wpAny_pyIter_tuple isT
      exact ⟨_, rfl, fin⟩
    · rw [Bool.eq_false_iff.mpr z]
      wp_walk using PySem.AutoSeq1.wpAny_loadPart' at0, wpAny_pyIter_tuple isT
      exact ⟨_, rfl, fin⟩
  · wp_walk using PySem.AutoSeq1.wpAny_loadPart' at0, wpAny_pyIter_tuple isT
    exact ⟨_, rfl, fin⟩
/-- what lies where, behind enumerate(the tuple T) -/
structure Enued (h0 h1 : Heap) (T : Addr) : Prop where
  enu : IsEnum h1 (h0.objs.size + 1) h0.objs.size 0 .none
  itr : h1.IsTupleIter h0.objs.size T 0
  old : ∀ c ob, h0.get? c = some ob → h1.get? c = some ob
theorem enued (h0 : Heap) (T : Addr) : Enued h0 ((h0.push (itrT T)).push (enuT h0.objs.size)) T := by
  have z1 : (h0.push (itrT T)).objs.size = h0.objs.size + 1 := Heap.size_push ..
  have top := Heap.get?_push_size (h0.push (itrT T)) (o := enuT h0.objs.size) rfl
  rw [z1] at top
  exact ⟨top, ⟨itrT T, Heap.get?_push_of_some _ (Heap.get?_push_size _ rfl), rfl, rfl⟩, fun c ob g => Heap.get?_push_of_some _ (Heap.get?_push_of_some _ g)⟩
theorem enu_call {pr : Program} {wd : World} {Ar : Around} {m : Shared} {Er : Value → Shared → Prop} {T : Addr} {vals : Array Value} {Q : Value → Shared → Prop} (isT : m.heap.IsTuple T vals)
    (go : ∀ h1, Enued m.heap h1 T → Q (.ref (m.heap.objs.size + 1)) { m with heap := h1 }) :
    wpAny (model pr wd) Ar (call (.type "enumerate") [.ref T]) Q Er m := by
  rcases isT with ⟨⟨cl, d0, dt, sl0⟩, at0, ec, c0, ed⟩
  obtain rfl : cl = .type "tuple" := ec
  obtain rfl : dt = .seq vals c0 := ed
  refine callType_new F.called_enumerate (by decide) (F.typeCall_enumerate_1 _) (F.newCall_enumerate_1 _) (fun ob => F.args_object_init_2 ob _)
    F.entry_enumerate_new (enu_new T vals c0 d0 sl0) ⟨at0, ?_⟩
  have N := enued m.heap T
  have z1 : (m.heap.push (itrT T)).objs.size = m.heap.objs.size + 1 := Heap.size_push ..
  show _ ∧ _
  rw [z1]
  exact ⟨⟨_, N.enu, rfl⟩, go _ N⟩
/-- of two addresses -/
theorem two {p q c : Addr} {M : Addr → Prop} (mem : c ∈ [p, q]) (m1 : M p) (m2 : M q) : M c := by
  simp only [List.mem_cons, List.not_mem_nil, or_false] at mem
  rcases mem with r | r
  · exact r ▸ m1
  · exact r ▸ m2
/-- the tuple at T, item by item, each in a new pair with its place -/
def IteT (K : PySem.W.Frag) (T : Addr) : It where
  go := fun n H => ∃ (xs : List V) (x : V), SqT K H T xs ∧ xs[n]? = some x
  yld := fun n H v H' => ∃ N x, v = .ref N ∧ H N = none ∧ H' = upd H N (.tup [.int (n : Nat), x]) ∧ ∀ xs, SqT K H T xs → xs[n]? = some x
  stop := fun n H => ∃ xs : List V, SqT K H T xs ∧ xs.length = n
/-- between two turns: the enumerate at p, the tuple's iterator at q -/
def EnuAt (T p q : Addr) (n : Nat) (h : Heap) : Prop := (∃ last, IsEnum h p q ((n : Nat) : Int) last) ∧ h.IsTupleIter q T n ∧ p ≠ q
theorem enu_turn {P : Program} {w : World} {K : PySem.W.Frag} {els : List Expr} {kn : Nat} {tp : Pos} (T p q : Addr) (nq : T ≠ q) (np : T ≠ p) : Turn P w K (.Tuple els kn tp) (IteT K T) [p, q] p (EnuAt T p q) where
  mem := List.mem_cons_self
  obj := by
    rintro n h ⟨⟨last, at1⟩, ⟨ob, at2, _, ed⟩, _⟩ c mem
    refine two (M := fun c => ∃ o, h.get? c = some o ∧ ∀ v, o.data ≠ Data.cell v) mem ⟨_, at1, fun _ no => nomatch no⟩ ⟨ob, at2, fun _ no => ?_⟩
    rw [ed] at no
    exact nomatch no
  keep := by
    rintro n h h' ⟨⟨last, at1⟩, it1, ne⟩ kept
    exact ⟨⟨last, kept p (by simp) _ at1⟩, it1.at fun ob g => kept q (by simp) ob g, ne⟩
  item := by
    intro Y eP eW eK calm n pn m τ G Er J fr st gg
    subst eP eW eK
    rcases st with ⟨⟨last, at1⟩, it1, ne⟩
    rcases gg with ⟨xs, x, sq, gx⟩
    rcases J.tuple sq with ⟨vs, rel, isT, _⟩
    rcases rel.get gx with ⟨u, gu, ru⟩
    have lp : p < m.heap.objs.size := Heap.lt_size at1
    have lq : q < m.heap.objs.size := by
      rcases it1 with ⟨_, g, _⟩
      exact Heap.lt_size g
    have ln : n < vs.toArray.size := by
      have := (List.getElem?_eq_some_iff.mp gu).1
      simpa using this
    have hd0 : Around.handled (Around.in1 Y.A) = none := J.ok.hd calm
    refine wpAny_pyNext_enum_itemD (Draws.tuple hd0 q T nq vs.toArray) at1 ⟨it1, isT⟩ ln ne (by simp [ne, Ne.symm np]) fun u2 h1 t1 gu2 own it2 pr1 _ oth => ?_
    obtain rfl : u2 = u := by
      rw [List.getElem?_toArray, gu] at gu2
      exact (Option.some.inj gu2).symm
    refine ⟨_, rfl, wpAny_letOwnedTupleGo_enum (s := { m with heap := h1, toks := t1 + 1 }) own fun h2 at2 same => ?_⟩
    have pr2 : h2.get? m.heap.objs.size = some { cls := .type "tuple", data := .seq #[.int n t1, u2] } := (same.2 _ (Nat.ne_of_gt lp)).trans pr1
    have J1 : Inv Y pn τ (upd G m.heap.objs.size (.tup [.int (n : Nat), x])) { m with heap := h2, toks := t1 + 1 } := by
      refine J.turnedNew (ch := [p, q]) (fun c ob out g => ?_) fr (Nat.le_refl _) ?_
      · have c1 : c ≠ p := fun r => out (by simp [r])
        have c2 : c ≠ q := fun r => out (by simp [r])
        exact (same.2 c c1).trans (oth c ob c1 c2 g)
      · exact ⟨by show 2 ≤ sizeLine; decide, [.int n t1, u2], .cons ⟨_, rfl⟩ (.cons ru .nil), ⟨_, pr2, rfl, _, rfl⟩⟩
    have nx : ((n + 1 : Nat) : Int) = (n : Int) + 1 := Int.natCast_succ n
    refine ⟨.ref m.heap.objs.size, _, J1, rfl, ⟨_, x, rfl, J.hok.fresh (Nat.le_refl _), rfl, fun ys sy => ?_⟩, ⟨⟨u2, nx ▸ at2⟩, it2.1.at fun ob g => (same.2 q (Ne.symm ne)).trans g, ne⟩, fun c mem => ?_⟩
    · rw [J.tuple_inj sy sq]
      exact gx
    · have lc : c < m.heap.objs.size := two (M := (· < m.heap.objs.size)) mem lp lq
      rw [upd_ne (Nat.ne_of_lt lc)]
      exact (fr c mem).1
  done := by
    intro Y eP eW eK calm n pn m τ G Er J fr st gg
    subst eP eW eK
    rcases st with ⟨⟨last, at1⟩, it1, ne⟩
    rcases gg with ⟨xs, sq, len⟩
    rcases J.tuple sq with ⟨vs, rel, isT, _⟩
    obtain ⟨g0, g1, _, g3, g4, g5⟩ := fr q (by simp)
    have hd0 : Around.handled (Around.in1 Y.A) = none := J.ok.hd calm
    obtain rfl : n = vs.toArray.size := by
      have := rel.length
      rw [List.size_toArray]
      omega
    exact wpAny_pyNext_enum_endD (Draws.tuple hd0 q T nq vs.toArray) at1 ⟨it1, isT⟩ fun h1 oth => ⟨rfl, J.turned (t' := m.toks) oth g0 g1 g3 g4 g5⟩
  self := by
    rintro Ar n m Q Er ⟨⟨_, at1⟩, _⟩ go
    exact wpAny_pyIter_enum at1 go
/-- enumerate(x), x a tuple -/
def iEnuT (K : PySem.W.Frag) (ta : TA) : TI := fun σ H R => ta σ H fun vs H1 => ∃ T xs, vs = [.ref T] ∧ SqT K H1 T xs ∧ R (IteT K T) H1
theorem pi_enuT {X : Cx} {e : Expr} {ta : TA} {np cp tp : Pos} {els : List Expr} {kn : Nat} (hg : Gl X "enumerate") (hm : X.mg "enumerate" = none) (ha : PA X [e] ta)
    (hs : starEach [e] X.env = [(false, eval e X.env)] := by rfl) : PI X (.Tuple els kn tp) (.Call (.Name "enumerate" np) [e] [] cp) (iEnuT X.K ta) := by
  constructor
  intro pn m τ G R J told
  have args := ha.run cp pn m τ G _ J told
  refine Call_ (ld_blt J hg hm boot_enumerate ?_)
  refine PyProof.Rows.callWith_type1 (thn args ?_) hs rfl
  rintro us m1 ⟨_, G1, J1, rel, T, xs, rfl, sq, q⟩
  rcases rel with _ | ⟨⟨⟩, ⟨⟩⟩
  rcases J1.tuple sq with ⟨vs, _, isT, _⟩
  have lT : T < m1.heap.objs.size := by
    rcases isT with ⟨_, g, _⟩
    exact Heap.lt_size g
  refine enu_call isT fun h1 N => wpAny_pyIter_enum N.enu ?_
  have J2 := J1.kept (t' := m1.toks) N.old
  refine ⟨_, [m1.heap.objs.size + 1, m1.heap.objs.size], EnuAt T _ _, _, G1, rfl, J2, enu_turn T _ _ (Nat.ne_of_lt lT) (Nat.ne_of_lt (Nat.lt_succ_of_lt lT)), ⟨⟨_, N.enu⟩, N.itr, Nat.succ_ne_self _⟩, fun c mem => ?_, q⟩
  have le : m1.heap.objs.size ≤ c := two (M := (m1.heap.objs.size ≤ ·)) mem (Nat.le_succ _) (Nat.le_refl _)
  exact J1.fpOk le (J1.hok.fresh le)
/-- one of two readings -/
theorem pi_or {X : Cx} {g e : Expr} {i1 i2 : TI} (p1 : PI X g e i1) (p2 : PI X g e i2) : PI X g e (fun σ H R => i1 σ H R ∨ i2 σ H R) :=
  ⟨fun pn m τ G R J told => told.elim (fun t1 => p1.run pn m τ G R J t1) fun t2 => p2.run pn m τ G R J t2⟩
end Wr

namespace Wr
open PySem PySem.Spec PyProof.Rows L2
/-! list(reversed(a list)) -/
section
variable {pr : Program} {wd : World} {Ar : Around} {m : Shared}
/-- a reversed list tells a length, though not by __len__; the hint is of no use to the list -/
theorem lri_hint {Er : Value → Shared → Prop} {q : Addr} {Q : Bool → Shared → Prop} (ty : m.TypeIs (.ref q) "list_reverseiterator") (told : Q false m) :
    wpAny (model pr wd) Ar (Builtin.List.listLengthHint (.ref q)) Q Er m := by
  rw [Builtin.List.listLengthHint]
  refine wpAny_bind (wpAny_specialOf ty RT.nolen_lri ?_)
  change wpAny _ Ar (specialOf (Value.ref q) (Str.ofString "__length_hint__") >>= _) _ _ _
  refine wpAny_bind (wpAny_specialOf ty RT.hint_lri ?_)
  obtain ⟨nm, is⟩ : ∃ x, x = "list_reverseiterator.__length_hint__" := ⟨_, rfl⟩
  have cut : splitId nm = some ("list_reverseiterator", "__length_hint__") := by
    rw [is]
    decide +kernel
  rw [← is]
  wp_delta
  rw [cut, is]
  have sub : isSubtype (.type "list_reverseiterator") (.type "list_reverseiterator") = pure true := by
    rw [isSubtype_type]
    kernel_rfl
  refine wpAny_bind (wpAny_isInstance (b := true) ty sub ?_)
  exact wpAny_pure told
/-- the new list N, the reversed list q over the list L: before the first item is drawn -/
structure RevTo (h : Heap) (N q L : Addr) (vals : Array Value) (c0 : Nat) : Prop where
  itr : h.IsRevIter q L ((vals.size : Int) - 1)
  src : h.IsList L vals
  new : h.get? N = some { cls := .type "list", data := .seq #[] c0 }
  few : vals.size ≤ sizeLine
  ne1 : L ≠ q
  ne2 : N ≠ q
  ne3 : N ≠ L
/-- and behind the last -/
structure RevDone (h h' : Heap) (N q : Addr) (vals got : Array Value) (c1 : Nat) : Prop where
  old : ∀ c ob, c ≠ N → c ≠ q → h.get? c = some ob → h'.get? c = some ob
  new : h'.get? N = some { cls := .type "list", dict := none, data := .seq got c1, slots := #[] }
  got : ItemsOf (fun n v => vals[vals.size - 1 - n]? = some v) got vals.size
/-- what a builtin's body leaves -/
abbrev Fins (pr : Program) (wd : World) (Ar : Around) (R : Result → Shared → Prop) (m : Shared) (b : Sem PySem.Fin) : Prop :=
  wpAny (model pr wd) Ar.in1 b (fun f m' => match f with
    | .done v => R (.ok v) m'
    | .again c => c.quiet = true ∧ codeAny (model pr wd) Ar c R m') (fun x m' => R (.error x) m') m
theorem rev_into {R : Result → Shared → Prop} {N q L : Addr} {vals : Array Value} {c0 : Nat} {res : Value} (calm : Ar.handled = none) (D : RevTo m.heap N q L vals c0)
    (fin : ∀ h' tk got c1, RevDone m.heap h' N q vals got c1 → R (.ok (.ret res)) { m with heap := h', toks := tk }) : Fins pr wd Ar R m (Builtin.List.listExtendWith (.ref N) (.ref q) res) := by
  have ty : m.TypeIs (.ref q) "list_reverseiterator" := D.itr.typeIs
  have other : Builtin.List.listSameRef (.ref N) (.ref q) = false := by
    have := D.ne2
    simp [Builtin.List.listSameRef, this]
  have out : N ∉ [q, L] := by
    intro mem
    exact two (M := fun c => N = c → False) mem D.ne2 D.ne3 rfl
  have way := (Walks.listRev (prog := pr) (w := wd) (A := Ar.in1) calm q L D.ne1 vals).toS
  have st0 : m.heap.IsRevIter q L (((vals.size : Nat) : Int) - 1 - ((0 : Nat) : Int)) := by
    have := D.itr
    simpa using this
  rw [Fins, Builtin.List.listExtendWith]
  refine wpAny_bind (wpAny_typeOf ty ?_)
  rw [other, if_neg (by decide)]
  refine wpAny_bind (wpAny_pyIter_revIter D.itr (wpAny_bind (wpAny_holding (lri_hint ty ?_))))
  rw [if_neg (by decide)]
  refine wpAny_pure ⟨plainId_quiet (F.plain_extend_loop) _, ?_⟩
  refine codeAny_extend_loopS way D.few _ out _ vals.size 0 _ _ _ rfl (Nat.zero_le _) ⟨Nat.zero_le _, st0, D.src⟩ D.new (ItemsOf.nil _) fun m' got c1 mv new' items => ?_
  rw [Moved.eq_with mv]
  refine fin _ _ got c1 ⟨fun c ob n1 n2 g => mv.heap c ob (fun mem => ?_) g, new', items⟩
  exact two (M := fun x => c = x → False) mem n1 n2 rfl
theorem rev_start {R : Result → Shared → Prop} {N q L : Addr} {vals : Array Value} (calm : Ar.handled = none) (D : RevTo m.heap N q L vals 0)
    (fin : ∀ h' tk got c1, RevDone m.heap h' N q vals got c1 → R (.ok (.ret .none)) { m with heap := h', toks := tk }) : Fins pr wd Ar R m (Builtin.«list.__init__» ⟨[.ref N, .ref q], []⟩) := by
  show wpAny _ _ (Builtin.List.listItems (.ref N) >>= fun was => Builtin.List.listUpdate (.ref N) (fun _ => #[]) >>= fun _ => letGo was.toList.reverse >>= fun _ => Builtin.List.listExtendWith (.ref N) (.ref q) .none) _ _ m
  refine wpAny_bind ?_
  rw [Builtin.List.listItems]
  refine wpAny_bind (wpAny_seqItems D.new rfl ?_)
  refine wpAny_pure ?_
  change wpAny _ _ (updateSeq N (fun _ => #[]) >>= fun _ => letGo (#[] : Array Value).toList.reverse >>= fun _ => _) _ _ m
  refine wpAny_bind (wpAny_updateSeq D.new rfl (wpAny_bind (wpAny_letGo ?_)))
  have rest : ∀ c ob, c ≠ N → m.heap.get? c = some ob → (m.heap.update N (Obj.mapSeq fun _ => (#[] : Array Value))).get? c = some ob := by
    intro c ob ne g
    rw [← g]
    exact Heap.get?_update_other _ _ (Ne.symm ne)
  have D2 : RevTo (m.heap.update N (Obj.mapSeq fun _ => (#[] : Array Value))) N q L vals _ :=
    ⟨D.itr.at fun ob g => rest q ob (Ne.symm D.ne2) g, D.src.at fun ob g => rest L ob (Ne.symm D.ne3) g, Heap.get?_update_self (Obj.mapSeq fun _ => (#[] : Array Value)) D.new rfl, D.few, D.ne1, D.ne2, D.ne3⟩
  refine rev_into (m := { m with heap := m.heap.update N (Obj.mapSeq fun _ => (#[] : Array Value)) }) calm D2 fun h' tk got c1 E => fin h' tk got c1 ?_
  exact ⟨fun c ob n1 n2 g => E.old c ob n1 n2 (rest c ob n1 g), E.new, E.got⟩
theorem rev_list {Er : Value → Shared → Prop} {q L : Addr} {vals : Array Value} {Q : Value → Shared → Prop} (calm : Ar.handled = none) (itr : m.heap.IsRevIter q L ((vals.size : Int) - 1)) (src : m.heap.IsList L vals) (ne : L ≠ q) (few : vals.size ≤ sizeLine)
    (fin : ∀ h' tk got c1, RevDone m.heap h' m.heap.objs.size q vals got c1 → Q (.ref m.heap.objs.size) { m with heap := h', toks := tk }) : wpAny (model pr wd) Ar (call (.type "list") [.ref q]) Q Er m := by
  have above : ∀ c, (∃ ob, m.heap.get? c = some ob) → m.heap.objs.size ≠ c := fun c ⟨_, g⟩ => Nat.ne_of_gt (Heap.lt_size g)
  have n2 : m.heap.objs.size ≠ q := above q (by obtain ⟨ob, g, _⟩ := itr; exact ⟨ob, g⟩)
  have n3 : m.heap.objs.size ≠ L := above L (by obtain ⟨ob, g, _⟩ := src; exact ⟨ob, g⟩)
  refine callType_codes (Q₁ := fun v m1 => v = .ref m.heap.objs.size ∧ m1 = { m with heap := m.heap.push { cls := .type "list", data := .seq #[] } })
    PySem.F.called_list (PySem.F.typeCall_list_1 _) PySem.F.entry_list_init (code_list_new _ ⟨rfl, rfl⟩) ?_
  rintro _ _ ⟨rfl, rfl⟩
  have new := Heap.get?_push_size m.heap (o := { cls := .type "list", data := .seq #[] }) rfl
  have D : RevTo (m.heap.push { cls := .type "list", data := .seq #[] }) m.heap.objs.size q L vals 0 := ⟨itr.at fun _ g => Heap.get?_push_of_some _ g, src.push _, new, few, ne, n2, n3⟩
  refine ⟨⟨_, new, rfl⟩, PySem.F.args_list_init_2 _ _, rev_start (Ar := Ar.in1) (m := { m with heap := m.heap.push { cls := .type "list", data := .seq #[] } }) calm D fun h' tk got c1 E => ⟨rfl, fin h' tk got c1 ?_⟩⟩
  exact ⟨fun c ob n1 n2 g => E.old c ob n1 n2 (Heap.get?_push_of_some _ g), E.new, E.got⟩
end
/-- list(reversed(x)), x a list: a new list -/
def tLstRev (K : PySem.W.Frag) (te : TE) : TE := fun σ H Q => te σ H fun v H1 => ∃ (a : Addr) (xs : List V), v = .ref a ∧ SqL K H1 a xs ∧ ∀ q, H1 q = none → Q (.ref q) (upd H1 q (.lst xs.reverse))
theorem pe_lstRev {X : Cx} {e : Expr} {te : TE} {p p2 pos pos2 : Pos} (hc : X.calm = true) (hg : Gl X "list") (hm : X.mg "list" = none) (hg2 : Gl X "reversed") (hm2 : X.mg "reversed" = none) (he : PE X e te)
    (s1 : starEach [e] X.env = [(false, eval e X.env)] := by rfl)
    (s2 : starEach [.Call (.Name "reversed" p2) [e] [] pos2] X.env = [(false, eval (.Call (.Name "reversed" p2) [e] [] pos2) X.env)] := by rfl) :
    PE X (.Call (.Name "list" p) [.Call (.Name "reversed" p2) [e] [] pos2] [] pos) (tLstRev X.K te) := by
  constructor
  intro pn m τ G Q J told
  have inner := he.run pn m τ G _ J told
  refine Call_ (ld_blt J hg hm boot_list (PyProof.Rows.callWith_type1 (args_cons (Call_ (ld_blt J hg2 hm2 PyProof.Rows.boot_reversed ?_)) s2) s2 rfl))
  refine PyProof.Rows.callWith_type1 (args_cons (thn inner ?_) s1) s1 rfl
  rintro u m1 ⟨_, G1, J1, ru, L, xs, rfl, sq, q⟩
  have eu : u = Value.ref L := ru
  subst eu
  rcases J1.list sq with ⟨vs, rel, isL, few⟩
  refine args_nil (call_reversed_list isL.isList (args_nil ?_))
  have src := isL.isList
  have lt : L < m1.heap.objs.size := by
    obtain ⟨_, g, _⟩ := id src
    exact Heap.lt_size g
  have z1 : (m1.heap.push (revObj L ((vs.toArray.size : Int) - 1))).objs.size = m1.heap.objs.size + 1 := Heap.size_push ..
  have few2 : vs.toArray.size ≤ sizeLine := by
    have := rel.length
    rw [List.size_toArray]
    omega
  refine rev_list (m := { m1 with heap := m1.heap.push (revObj L ((vs.toArray.size : Int) - 1)) }) (J1.ok.hd hc) ⟨_, Heap.get?_push_size _ rfl, rfl, rfl⟩ (src.push _) (Nat.ne_of_lt lt) few2 fun h' tk got c1 E => ?_
  have new : h'.get? (m1.heap.objs.size + 1) = some { cls := .type "list", dict := none, data := .seq got c1, slots := #[] } := z1 ▸ E.new
  have old : ∀ c ob, m1.heap.get? c = some ob → h'.get? c = some ob := fun c ob g => by
    have lc := Heap.lt_size g
    refine E.old c ob ?_ (Nat.ne_of_lt lc) (Heap.get?_push_of_some _ g)
    rw [z1]
    exact Nat.ne_of_lt (Nat.lt_succ_of_lt lc)
  have J3 : Inv X pn τ (upd G1 (m1.heap.objs.size + 1) (.lst xs.reverse)) { m1 with heap := h', toks := tk } := by
    refine J1.laid (a := m1.heap.objs.size + 1) (t' := tk) old (Nat.le_succ _) ⟨?_, got.toList, c1, RT.vals_rev rel E.got, ?_⟩
    · rw [List.length_reverse]
      exact few
    · rw [Array.toArray_toList]
      exact new
  show EP X pn τ Q (.ref (m1.heap.push (revObj L ((vs.toArray.size : Int) - 1))).objs.size) _
  rw [z1]
  exact ⟨.ref (m1.heap.objs.size + 1), _, J3, rfl, q _ (J1.hok.fresh (Nat.le_succ _))⟩
/-! bits -/
theorem add_or {x y : Nat} (h : x &&& y = 0) : x + y = x ||| y := by
  have hx : x < 2 ^ (x + y + 1) := Nat.lt_of_lt_of_le Nat.lt_two_pow_self (Nat.pow_le_pow_right (by omega) (by omega))
  have hy : y < 2 ^ (x + y + 1) := Nat.lt_of_lt_of_le Nat.lt_two_pow_self (Nat.pow_le_pow_right (by omega) (by omega))
  have hxy : x + y < 2 ^ (x + y + 1) := Nat.lt_of_lt_of_le Nat.lt_two_pow_self (Nat.pow_le_pow_right (by omega) (by omega))
  have hz : BitVec.ofNat (x + y + 1) x &&& BitVec.ofNat (x + y + 1) y = 0#(x + y + 1) := by
    apply BitVec.eq_of_toNat_eq
    rw [BitVec.toNat_and, BitVec.toNat_ofNat, BitVec.toNat_ofNat, Nat.mod_eq_of_lt hx, Nat.mod_eq_of_lt hy, h]
    simp
  have e := congrArg BitVec.toNat (BitVec.add_eq_or_of_and_eq_zero _ _ hz)
  rw [BitVec.toNat_add, BitVec.toNat_or, BitVec.toNat_ofNat, BitVec.toNat_ofNat, Nat.mod_eq_of_lt hx, Nat.mod_eq_of_lt hy, Nat.mod_eq_of_lt hxy] at e
  exact e
theorem bitAnd_nat (a b : Nat) : Builtin.bitAnd (a : Int) (b : Int) = ((a &&& b : Nat) : Int) := by
  unfold Builtin.bitAnd
  have h1 : decide (0 ≤ (a : Int)) = true := by simp
  have h2 : decide (0 ≤ (b : Int)) = true := by simp
  rw [h1, h2]
  simp
theorem bitOr_nat (a b : Nat) : Builtin.bitOr (a : Int) (b : Int) = ((a ||| b : Nat) : Int) := by
  unfold Builtin.bitOr
  have n1 : ∀ x : Nat, Builtin.bitNot (x : Int) = -(x : Int) - 1 := fun _ => rfl
  unfold Builtin.bitAnd
  have h1 : decide (0 ≤ Builtin.bitNot (a : Int)) = false := by rw [n1]; simp; omega
  have h2 : decide (0 ≤ Builtin.bitNot (b : Int)) = false := by rw [n1]; simp; omega
  rw [h1, h2]
  have nn : ∀ x : Int, Builtin.bitNot (Builtin.bitNot x) = x := fun x => by unfold Builtin.bitNot; omega
  simp [nn]
theorem bitAndNot_nat (a b : Nat) : Builtin.bitAnd (a : Int) (Builtin.bitNot (b : Int)) = ((a ^^^ (a &&& b) : Nat) : Int) := by
  have n1 : Builtin.bitNot (b : Int) = -(b : Int) - 1 := rfl
  unfold Builtin.bitAnd
  have h1 : decide (0 ≤ (a : Int)) = true := by simp
  have h2 : decide (0 ≤ Builtin.bitNot (b : Int)) = false := by rw [n1]; simp; omega
  rw [h1, h2]
  have nn : Builtin.bitNot (Builtin.bitNot (b : Int)) = b := by unfold Builtin.bitNot; omega
  simp only [nn, Int.toNat_natCast]
  have hle : a &&& b ≤ a := Nat.and_le_left
  have e : a ^^^ (a &&& b) = a - (a &&& b) := by
    have hd : (a ^^^ (a &&& b)) &&& (a &&& b) = 0 := by
      apply Nat.eq_of_testBit_eq
      intro i
      simp only [Nat.testBit_and, Nat.testBit_xor, Nat.zero_testBit]
      cases a.testBit i <;> cases b.testBit i <;> rfl
    have hs : (a ^^^ (a &&& b)) + (a &&& b) = a := by
      rw [add_or hd]
      apply Nat.eq_of_testBit_eq
      intro i
      simp only [Nat.testBit_or, Nat.testBit_and, Nat.testBit_xor]
      cases a.testBit i <;> cases b.testBit i <;> rfl
    omega
  rw [e]
  omega
/-- (x >> i) & 1 == 1 -/
theorem has_bit (x i : Nat) : decide (Builtin.bitAnd ((x : Int) / 2 ^ i) 1 = 1) = x.testBit i := by
  have e : ((x : Int) / 2 ^ i) = ((x >>> i : Nat) : Int) := by
    rw [Nat.shiftRight_eq_div_pow]
    simp
  rw [e]
  have := bitAnd_nat (x >>> i) 1
  rw [show ((1 : Nat) : Int) = 1 from rfl] at this
  rw [this, Nat.testBit]
  have h : x >>> i &&& 1 = x >>> i % 2 := Nat.and_one_is_mod _
  have h2 : 1 &&& x >>> i = x >>> i % 2 := by rw [Nat.and_comm]; exact h
  rw [h, h2]
  rcases Nat.mod_two_eq_zero_or_one (x >>> i) with z | z <;> rw [z] <;> rfl
/-- an if whose test is known -/
theorem ifT {c : Bool} {A B : Prop} (hc : c = true) (h : A) : if c = true then A else B := by
  rw [if_pos hc]
  exact h
theorem ifF {c : Bool} {A B : Prop} (hc : ¬ c = true) (h : B) : if c = true then A else B := by
  rw [if_neg hc]
  exact h
abbrev nv (n : Nat) : V := .int (n : Int)
section
variable {X : Cx}
/-- a whole number of the module's top -/
theorem pe_gi {x : Str} {n : Int} {t : Tok} {pos : Pos} (hm : X.mg x = some (.int n t)) (hg : Gl X x := by rfl) (hd : (x == ("__debug__" : Str)) = false := by decide) : PE X (.Name x pos) (tC (.int n)) := pe_glob hg hm (v := .int n) ⟨t, rfl⟩ hd
def rN (g : Nat → Nat → V) : V → V → Hp → VK → Prop := fun x y H Q => ∃ i j : Nat, x = nv i ∧ y = nv j ∧ Q (g i j) H
theorem op_orN : OpR X (binaryOp .BitOr) (rN fun i j => nv (i ||| j)) := by
  intro pn m τ G x y v u Q J r1 r2 told
  obtain ⟨i, j, e1, e2, q⟩ := told
  refine op_or pn m τ G x y v u Q J r1 r2 ⟨i, j, e1, e2, ?_⟩
  dsimp only
  rw [bitOr_nat]
  exact q
theorem op_andN : OpR X (binaryOp .BitAnd) (rN fun i j => nv (i &&& j)) := by
  intro pn m τ G x y v u Q J r1 r2 told
  obtain ⟨i, j, e1, e2, q⟩ := told
  refine op_and pn m τ G x y v u Q J r1 r2 ⟨i, j, e1, e2, ?_⟩
  dsimp only
  rw [bitAnd_nat]
  exact q
/-- x & ~y -/
theorem op_andNotN : OpR X (binaryOp .BitAnd) (fun x y H Q => ∃ i j : Nat, x = nv i ∧ y = .int (Builtin.bitNot (j : Int)) ∧ Q (nv (i ^^^ (i &&& j))) H) := by
  intro pn m τ G x y v u Q J r1 r2 told
  obtain ⟨i, j, e1, e2, q⟩ := told
  refine op_and pn m τ G x y v u Q J r1 r2 ⟨i, _, e1, e2, ?_⟩
  dsimp only
  rw [bitAndNot_nat]
  exact q
theorem ip_orN : PIp X .BitOr (rN fun i j => nv (i ||| j)) := by
  intro pn m τ G x y v u Q J r1 r2 told
  obtain ⟨i, j, e1, e2, q⟩ := told
  refine ip_or pn m τ G x y v u Q J r1 r2 ⟨i, j, e1, e2, ?_⟩
  dsimp only
  rw [bitOr_nat]
  exact q
theorem op_shl1 : OpR X (binaryOp .LShift) (fun x y H Q => ∃ k : Nat, x = .int 1 ∧ y = nv k ∧ k ≤ 1000000 ∧ Q (nv (2 ^ k)) H) := by
  intro pn m τ G x y v u Q J r1 r2 told
  obtain ⟨k, e1, e2, hk, q⟩ := told
  refine op_shl pn m τ G x y v u Q J r1 r2 ⟨1, k, e1, e2, ⟨by omega, by omega, by decide⟩, ?_⟩
  have e : (1 : Int) * 2 ^ ((k : Int)).toNat = ((2 ^ k : Nat) : Int) := by simp
  dsimp only
  rw [e]
  exact q
end
end Wr

namespace Wp
open PySem PySem.Spec PyProof.Rows L2 Wn Wr
def top (i : Nat) : Stmt := PySem.Challenge.pw_withinany_s01_answers.main.body.getD i (.Pass ⟨0, 0, 0, 0⟩)
abbrev s_has_state : Stmt := top 26
abbrev s_reached_by : Stmt := top 27
abbrev s_link : Stmt := top 28
/-- names of Python's own that the top doesn't bind -/
structure Blt (mg : Str → Option Value) : Prop where
  len : mg "len" = none
  range : mg "range" = none
  enumerate : mg "enumerate" = none
  reversed : mg "reversed" = none
  list : mg "list" = none
  tuple : mg "tuple" = none
section
variable {P : Program} {w : World} {K : PySem.W.Frag} {mg : Str → Option Value} {base : Heap}
/-! has_state -/
def spHas : Sp := fun vs H Q _ => ∃ x i : Nat, vs = [nv x, nv i] ∧ Q (.bl (x.testBit i)) H
theorem scHas : FnScope ["states", "state"] ["states", "state"] (defScope s_has_state) := ⟨rfl, rfl, rfl, by decide +kernel, rfl, by decide +kernel, by decide +kernel⟩
theorem ok_has {f : Addr} {fd : FuncData} (F : Fun K "has_state" "has_state" s_has_state f fd) : FnOk P w K mg base CX0 1 f fd ["states", "state"] spHas := by
  refine F.ok scHas (fun vs H Q E h => ?_) (fun cdv A outer s H vs Q E hr h => ?_)
  · obtain ⟨x, i, rfl, _⟩ := h
    rfl
  refine ⟨_, pss_one (ps_ret (pe_cmpR op_eq (pe_op op_and (pe_op op_shr (pv 0) (pv 1)) pe_int) pe_int (nomark _))), ?_⟩
  obtain ⟨x, i, rfl, q⟩ := h
  refine ⟨_, rfl, _, rfl, _, _, rfl, rfl, by omega, _, _, rfl, rfl, rfl, ?_⟩
  rw [← has_bit x i] at q
  simpa using q
/-! walks -/
def SqA (K : PySem.W.Frag) (H : Hp) (a : Addr) (xs : List V) : Prop := SqL K H a xs ∨ SqT K H a xs
theorem same_tup {K : PySem.W.Frag} {H H' : Hp} {a : Addr} {xs : List V} (e : Same H H') (h : SqT K H a xs) : SqT K H' a xs := by
  rcases h with (h | ⟨ob, h⟩) | h
  · exact .inl (.inl (e _ _ h))
  · exact .inl (.inr ⟨ob, e _ _ h⟩)
  · exact .inr h
theorem same_upd {H : Hp} {p : Addr} {o : HO} (h : H p = none) : Same H (upd H p o) := fun b u e => by
  rw [upd_ne (ne_of_none e h)]
  exact e
theorem walk_enumT {K : PySem.W.Frag} {a : Addr} {xs : List V} : Walk (IteT K a) xs.length (fun H => SqT K H a xs) (YPair (fun i => some (.int (i : Nat))) (fun i => xs[i]?)) :=
  ⟨fun i H hi h => ⟨xs, xs[i], h, by simp [hi]⟩, fun H h => ⟨xs, h, rfl⟩, fun i H x H' _ h ⟨T, y, e1, e2, e3, e4⟩ => ⟨T, _, y, e1, e2, e3, rfl, e4 xs h⟩⟩
theorem enumA_for {K : PySem.W.Frag} {a : Addr} {xs : List V} {g : TG} {tb : TS} {D : Ends} {σ : L2.St} {H : Hp} (hq : SqA K H a xs) (Pv : Nat → L2.St → Hp → Prop) (h0 : Pv 0 σ H) (hG : ∀ i σ H', Pv i σ H' → Same H H')
    (hs : ∀ (i : Nat) (x : V) (σ : L2.St) (H' : Hp) (T : Addr), xs[i]? = some x → Pv i σ H' → H' T = none → g (.ref T) σ (upd H' T (.tup [.int (i : Nat), x])) fun σ2 H2 => tb { D with nx := Pv (i + 1), ct := Pv (i + 1), bk := D.nx } σ2 H2) (hd : ∀ σ H', Pv xs.length σ H' → D.nx σ H') :
    (SqL K H a xs ∧ ∃ W : Nat → Nat → L2.St → Hp → Prop, (∃ m, W 0 m σ H) ∧ ∀ i m σ H, W i m σ H →
      ((Ite K a).stop i H ∧ D.nx σ H) ∨ ((Ite K a).go i H ∧ ∃ N : L2.St → Hp → Prop, (∀ σ' H', N σ' H' → ∃ m', m' < m ∧ W (i + 1) m' σ' H') ∧ ∀ x H', (Ite K a).yld i H x H' → g x σ H' fun σ2 H2 => tb { D with nx := N, ct := N, bk := D.nx } σ2 H2)) ∨
    (SqT K H a xs ∧ ∃ W : Nat → Nat → L2.St → Hp → Prop, (∃ m, W 0 m σ H) ∧ ∀ i m σ H, W i m σ H →
      ((IteT K a).stop i H ∧ D.nx σ H) ∨ ((IteT K a).go i H ∧ ∃ N : L2.St → Hp → Prop, (∀ σ' H', N σ' H' → ∃ m', m' < m ∧ W (i + 1) m' σ' H') ∧ ∀ x H', (IteT K a).yld i H x H' → g x σ H' fun σ2 H2 => tb { D with nx := N, ct := N, bk := D.nx } σ2 H2)) := by
  rcases hq with hq | hq
  · refine .inl ⟨hq, for_it (walk_enum (xs := xs)) Pv h0 (fun i σ H' _ p => (hG i σ H' p).seq hq) (fun i y σ H' H'' hi p hy => ?_) hd⟩
    obtain ⟨T, y1, y2, rfl, nT, rfl, h1, h2⟩ := hy
    cases h1
    exact hs i y2 σ H' T h2 p nT
  · refine .inr ⟨hq, for_it (walk_enumT (xs := xs)) Pv h0 (fun i σ H' _ p => same_tup (hG i σ H' p) hq) (fun i y σ H' H'' hi p hy => ?_) hd⟩
    obtain ⟨T, y1, y2, rfl, nT, rfl, h1, h2⟩ := hy
    cases h1
    exact hs i y2 σ H' T h2 p nT
theorem reach_turn {x i : Nat} {rows : List Nat} {r : Nat} (h : rows[i]? = some r) (v : Nat) : Wa.reachFrom x i (rows.drop i) v = Wa.reachFrom x (i + 1) (rows.drop (i + 1)) (if x.testBit i = true then v ||| r else v) := by
  have hi : i < rows.length := (List.getElem?_eq_some_iff.mp h).1
  have e : rows[i] = r := (List.getElem?_eq_some_iff.mp h).2
  rw [List.drop_eq_getElem_cons hi, e]
  rfl
theorem map_nv {rows : List Nat} {i : Nat} {y : V} (h : (rows.map nv)[i]? = some y) : ∃ r, rows[i]? = some r ∧ y = nv r := by
  rw [List.getElem?_map] at h
  cases e : rows[i]? with
  | none =>
    rw [e] at h
    cases h
  | some r =>
    rw [e] at h
    exact ⟨r, rfl, (Option.some.inj h).symm⟩
/-! reached_by -/
def spReach (K : PySem.W.Frag) : Sp := fun vs H Q _ => ∃ (a : Addr) (rows : List Nat) (x : Nat), vs = [.ref a, nv x] ∧ SqA K H a (rows.map nv) ∧ ∀ H', Same H H' → Q (nv (Wa.reach rows x)) H'
theorem scReach : FnScope ["rows", "states", "reached", "state", "row"] ["rows", "states"] (defScope s_reached_by) := ⟨rfl, rfl, rfl, by decide +kernel, rfl, by decide +kernel, by decide +kernel⟩
theorem ok_reach {f fH : Addr} {fd fdH : FuncData} (F : Fun K "reached_by" "reached_by" s_reached_by f fd) (B : Blt mg) (FH : Fun K "has_state" "has_state" s_has_state fH fdH) (mH : mg "has_state" = some (.ref fH)) (bH : Binds K fdH ["states", "state"] []) : FnOk P w K mg base CX0 2 f fd ["rows", "states"] (spReach K) := by
  have GH : FnOk P w K mg base CX0 1 fH fdH ["states", "state"] spHas := ok_has FH
  refine F.ok scReach (fun vs H Q E h => ?_) (fun cdv A outer s H vs Q E hr h => ?_)
  · obtain ⟨a, rows, x, rfl, _⟩ := h
    rfl
  refine ⟨_, pss_cons (ps_set (i := 2) scReach.nd rfl (Or.inl rfl) pe_int)
    (pss_cons (ps_for PassesOwn.never rfl (pi_or (pi_enum (by rfl) B.enumerate (pa_cons (pv 0) pa_nil)) (pi_enuT (by rfl) B.enumerate (pa_cons (pv 0) pa_nil))) (pg_tup rfl (pgs_cons (pg_name (i := 3) scReach.nd rfl (Or.inl rfl)) (pgs_cons (pg_name (i := 4) scReach.nd rfl (Or.inl rfl)) pgs_nil)))
      (pss_one (ps_if (pt_val (pe_call GH hr rfl mH FH.kp bH .nil pass0 (pa_cons (pv 1) (pa_cons (pv 3) pa_nil)))) (pss_one (ps_aug (i := 2) scReach.nd rfl (Or.inl rfl) (pv 4) ip_orN)) pss_nil)))
    (pss_one (ps_ret (pv 2)))), ?_⟩
  obtain ⟨a, rows, x, rfl, hq, q⟩ := h
  refine Or.imp (fun z => ⟨_, rfl, a, _, rfl, z⟩) (fun z => ⟨_, rfl, a, _, rfl, z⟩) (enumA_for hq (fun i σ H' => ∃ (r : Nat) (v1 v2 : Option V), σ = [some (.ref a), some (nv x), some (nv r), v1, v2] ∧ Same H H' ∧ Wa.reachFrom x i (rows.drop i) r = Wa.reach rows x)
    ⟨0, none, none, rfl, Same.refl H, rfl⟩ (fun i σ H' ⟨_, _, _, _, s1, _⟩ => s1) ?_ ?_)
  · rintro i y σ H' T hy ⟨r, v1, v2, rfl, s1, e2⟩ nT
    obtain ⟨z, hz, rfl⟩ := map_nv hy
    have s2 : Same H (upd H' T (.tup [.int (i : Nat), nv z])) := s1.trans (same_upd nT)
    refine ⟨T, _, rfl, .inl (.inl upd_same), rfl, _, _, rfl, _, _, rfl, rfl, ?_⟩
    refine ⟨_, rfl, _, rfl, x, i, rfl, _, rfl, ?_⟩
    rw [reach_turn hz] at e2
    by_cases c : x.testBit i = true
    · rw [if_pos c] at e2
      refine ifT c ?_
      exact ⟨_, rfl, _, rfl, _, _, rfl, rfl, r ||| z, _, _, rfl, s2, e2⟩
    · rw [if_neg c] at e2
      refine ifF c ?_
      exact ⟨r, _, _, rfl, s2, e2⟩
  · rintro σ H' ⟨r, v1, v2, rfl, s1, e2⟩
    rw [List.length_map, List.drop_length] at e2
    have e3 : r = Wa.reach rows x := e2
    refine ⟨_, rfl, ?_⟩
    rw [e3]
    exact q H' s1
/-! link -/
def spLink : Sp := fun vs H Q _ => ∃ (a : Addr) (F : List Nat) (e b : Nat), vs = [.ref a, nv e, nv b] ∧ H a = some (.lst (F.map nv)) ∧ F.length ≤ 1000 ∧
  ∀ H' : Hp, H' a = some (.lst ((Wa.link F e b).map nv)) → (∀ c o, H c = some o → c ≠ a → H' c = some o) → Q .non H'
theorem scLink : FnScope ["followers", "ends", "begins", "state"] ["followers", "ends", "begins"] (defScope s_link) := ⟨rfl, rfl, rfl, by decide +kernel, rfl, by decide +kernel, by decide +kernel⟩
def linkTo (F : List Nat) (e b k : Nat) : List Nat := F.mapIdx fun i x => if i < k ∧ e.testBit i = true then x ||| b else x
theorem linkTo_zero (F : List Nat) (e b : Nat) : linkTo F e b 0 = F := by
  unfold linkTo
  apply List.ext_getElem?
  intro i
  rw [List.getElem?_mapIdx]
  cases F[i]? <;> simp
theorem linkTo_all (F : List Nat) (e b : Nat) : linkTo F e b F.length = Wa.link F e b := by
  unfold linkTo Wa.link
  apply List.ext_getElem?
  intro i
  rw [List.getElem?_mapIdx, List.getElem?_mapIdx]
  by_cases h : i < F.length
  · simp [h]
  · rw [List.getElem?_eq_none (by omega)]
    rfl
theorem linkTo_at {F : List Nat} {e b k : Nat} (h : k < F.length) : (linkTo F e b k)[k]? = some F[k] := by
  unfold linkTo
  rw [List.getElem?_mapIdx, List.getElem?_eq_getElem h]
  simp
theorem linkTo_set {F : List Nat} {e b k : Nat} (h : k < F.length) (c : e.testBit k = true) : (linkTo F e b k).set k (F[k] ||| b) = linkTo F e b (k + 1) := by
  apply List.ext_getElem?
  intro i
  rw [List.getElem?_set]
  unfold linkTo
  rw [List.length_mapIdx, List.getElem?_mapIdx, List.getElem?_mapIdx]
  by_cases e1 : k = i
  · subst e1
    rw [if_pos rfl, if_pos h, List.getElem?_eq_getElem h]
    simp [c]
  · rw [if_neg e1]
    by_cases e2 : i < F.length
    · rw [List.getElem?_eq_getElem e2]
      have e3 : (i < k + 1) ↔ (i < k) := by omega
      simp [e3]
    · rw [List.getElem?_eq_none (by omega)]
      rfl
theorem linkTo_skip {F : List Nat} {e b k : Nat} (h : k < F.length) (c : ¬ e.testBit k = true) : linkTo F e b k = linkTo F e b (k + 1) := by
  apply List.ext_getElem?
  intro i
  unfold linkTo
  rw [List.getElem?_mapIdx, List.getElem?_mapIdx]
  by_cases e2 : i < F.length
  · rw [List.getElem?_eq_getElem e2]
    by_cases e1 : k = i
    · subst e1
      simp [c]
    · have e3 : (i < k + 1) ↔ (i < k) := by omega
      simp [e3]
  · rw [List.getElem?_eq_none (by omega)]
    rfl
theorem ixN_nat {n i : Nat} (h : i < n) : ixN n (i : Int) = some i := by
  unfold ixN
  rw [if_pos (show _ by omega), if_pos (by omega)]
  simp
theorem ok_link {f fH : Addr} {fd fdH : FuncData} (F : Fun K "link" "link" s_link f fd) (B : Blt mg) (FH : Fun K "has_state" "has_state" s_has_state fH fdH) (mH : mg "has_state" = some (.ref fH)) (bH : Binds K fdH ["states", "state"] []) : FnOk P w K mg base CX0 2 f fd ["followers", "ends", "begins"] spLink := by
  have GH : FnOk P w K mg base CX0 1 fH fdH ["states", "state"] spHas := ok_has FH
  refine F.ok scLink (fun vs H Q E h => ?_) (fun cdv A outer s H vs Q E hr h => ?_)
  · obtain ⟨a, F, e, b, rfl, _⟩ := h
    rfl
  refine ⟨_, pss_one (ps_for PassesOwn.never rfl (pi_range1 rfl B.range (pa_cons (pe_callB call_len_seq (by rfl) B.len PySem.boot_len (pa_cons (pv 0) pa_nil)) pa_nil)) (pg_name (i := 3) scLink.nd rfl (Or.inl rfl))
      (pss_one (ps_if (pt_val (pe_call GH hr rfl mH FH.kp bH .nil pass0 (pa_cons (pv 1) (pa_cons (pv 3) pa_nil)))) (pss_one (ps_augS (pv 0) (pv 3) get_list (pv 2) ip_orN set_list)) pss_nil))), ?_⟩
  obtain ⟨a, F, e, b, rfl, ha, hl, q⟩ := h
  refine ⟨_, rfl, a, _, rfl, .inl (SqL.of ha), (F.length : Int), by rw [List.length_map], by omega, by omega, ?_⟩
  have hn : ((F.length : Int) - 0).toNat = F.length := by omega
  refine for_range (lo := 0) (n := F.length) (fun i σ H' => ∃ v : Option V, σ = [some (.ref a), some (nv e), some (nv b), v] ∧ H' a = some (.lst ((linkTo F e b i).map nv)) ∧ ∀ c o, H c = some o → c ≠ a → H' c = some o) ⟨none, rfl, by rw [linkTo_zero]; exact ha, fun c o h _ => h⟩ ?_ ?_
  · rintro i σ H' hi ⟨v, rfl, h1, h2⟩
    have hi0 : (V.int (0 + (i : Int))) = nv i := by rw [Int.zero_add]
    rw [hi0]
    refine ⟨_, rfl, _, rfl, e, i, rfl, _, rfl, ?_⟩
    by_cases c : e.testBit i = true
    · refine ifT c ?_
      refine ⟨_, rfl, _, rfl, a, _, i, nv F[i], rfl, rfl, SqL.of h1, by rw [List.getElem?_map, linkTo_at hi]; rfl, _, rfl, F[i], b, rfl, rfl, a, _, _, i, rfl, rfl, h1, ixN_nat (by rw [List.length_map]; unfold linkTo; rw [List.length_mapIdx]; exact hi), ?_⟩
      refine ⟨_, rfl, ?_, fun c o h3 h4 => by rw [upd_ne h4]; exact h2 c o h3 h4⟩
      rw [upd_same, ← linkTo_set hi c, List.map_set]
    · refine ifF c ?_
      exact ⟨_, rfl, by rw [← linkTo_skip hi c]; exact h1, h2⟩
  · rintro σ H' ⟨v, rfl, h1, h2⟩
    rw [linkTo_all] at h1
    exact q H' h1 h2
end
end Wp

namespace Wp
open PySem PySem.Spec PyProof.Rows L2 Wn Wr
abbrev s_Piece_init : Stmt := inClass (top 25) 0
abbrev s_piece_again : Stmt := top 29
abbrev s_piece_in_order : Stmt := top 30
abbrev s_piece_either : Stmt := top 31
abbrev s_piece_of_two : Stmt := top 32
/-- all but what stands at a -/
def Keep (a : Addr) (H H' : Hp) : Prop := ∀ c o, H c = some o → c ≠ a → H' c = some o
theorem Keep.trans {a : Addr} {H H1 H2 : Hp} (x : Keep a H H1) (y : Keep a H1 H2) : Keep a H H2 := fun c o e n => y c o (x c o e n) n
theorem Same.keep {a : Addr} {H H' : Hp} (x : Same H H') : Keep a H H' := fun c o e _ => x c o e
theorem lk_here {k : Str} {v : V} {r : List (Str × V)} : List.lookup k ((k, v) :: r) = some v := by
  have e : (k == k) = true := beq_self_eq_true k
  simp only [List.lookup, e]
theorem lk_past {k g : Str} {v : V} {r : List (Str × V)} (h : (k == g) = false) : List.lookup k ((g, v) :: r) = List.lookup k r := by
  simp only [List.lookup, h]
theorem put_here {f : Str} {v x : V} {r : List (Str × V)} : putF f v ((f, x) :: r) = (f, v) :: r := if_pos rfl
theorem put_past {f g : Str} {v x : V} {r : List (Str × V)} (h : ¬ g = f) : putF f v ((g, x) :: r) = (g, x) :: putF f v r := if_neg h
theorem put_nil {f : Str} {v : V} : putF f v [] = [(f, v)] := rfl
/-! Piece -/
def pcF (p : Wa.Piece) : List (Str × V) := [("may_stay", .bl p.stay), ("begins", nv p.b), ("ends", nv p.e)]
def PieceAt (C : Addr) (H : Hp) (a : Addr) (p : Wa.Piece) : Prop := ∃ dx, H a = some (.ins C dx (pcF p))
theorem pcF_stay (p : Wa.Piece) : (pcF p).lookup ("may_stay" : Str) = some (.bl p.stay) := lk_here
theorem pcF_b (p : Wa.Piece) : (pcF p).lookup ("begins" : Str) = some (nv p.b) := (lk_past (by decide +kernel)).trans lk_here
theorem pcF_e (p : Wa.Piece) : (pcF p).lookup ("ends" : Str) = some (nv p.e) := (lk_past (by decide +kernel)).trans ((lk_past (by decide +kernel)).trans lk_here)
theorem pcF_new (s : Bool) (b e : Nat) : putF "ends" (nv e) (putF "begins" (nv b) (putF "may_stay" (.bl s) [])) = pcF ⟨s, b, e⟩ := by
  rw [put_nil, put_past (by decide +kernel), put_nil, put_past (by decide +kernel), put_past (by decide +kernel), put_nil]
  rfl
structure ClsT (K : PySem.W.Frag) (mg : Str → Option Value) (name : Str) (C : Addr) (fs : List Str) : Prop where
  cl : Cls K C
  no : ∀ f ∈ fs, NoAttr K C f
  g : mg name = some (.ref C)
abbrev PieceT (K : PySem.W.Frag) (mg : Str → Option Value) (C : Addr) : Prop := ClsT K mg "Piece" C ["may_stay", "begins", "ends"]
section
variable {P : Program} {w : World} {K : PySem.W.Frag} {mg : Str → Option Value} {base : Heap} {CP : Addr}
theorem PieceT.n1 (T : PieceT K mg CP) : NoAttr K CP "may_stay" := T.no _ (by simp)
theorem PieceT.n2 (T : PieceT K mg CP) : NoAttr K CP "begins" := T.no _ (by simp)
theorem PieceT.n3 (T : PieceT K mg CP) : NoAttr K CP "ends" := T.no _ (by simp)
def spPieceInit (C : Addr) : Sp := fun vs H Q _ => ∃ (p dx : Addr) (s : Bool) (b e : Nat), vs = [.ref p, .bl s, nv b, nv e] ∧ H p = some (.ins C dx []) ∧
  ∀ H' : Hp, PieceAt C H' p ⟨s, b, e⟩ → Keep p H H' → Q .non H'
theorem scPieceInit : FnScope ["self", "may_stay", "begins", "ends"] ["self", "may_stay", "begins", "ends"] (defScope s_Piece_init) := ⟨rfl, rfl, rfl, by decide +kernel, rfl, by decide +kernel, by decide +kernel⟩
theorem ok_pieceInit {f : Addr} {fd : FuncData} (F : Fun K "__init__" "Piece.__init__" s_Piece_init f fd) (T : PieceT K mg CP) : FnOk P w K mg base CX0 1 f fd ["self", "may_stay", "begins", "ends"] (spPieceInit CP) := by
  refine F.ok scPieceInit (fun vs H Q E h => ?_) (fun cdv A outer s H vs Q E hr h => ?_)
  · obtain ⟨p, dx, s, b, e, rfl, _⟩ := h
    rfl
  refine ⟨_, pss_cons (ps_fld (pv 0) (pv 1) rfl) (pss_cons (ps_fld (pv 0) (pv 2) rfl) (pss_one (ps_fld (pv 0) (pv 3) rfl))), ?_⟩
  obtain ⟨p, dx, s, b, e, rfl, hp, k⟩ := h
  refine ⟨_, rfl, _, rfl, p, CP, dx, [], rfl, hp, T.cl, T.n1, (by show 0 < 1000; decide), ?_⟩
  refine ⟨_, rfl, _, rfl, p, CP, dx, _, rfl, upd_same, T.cl, T.n2, (by show 1 < 1000; decide), ?_⟩
  refine ⟨_, rfl, _, rfl, p, CP, dx, _, rfl, upd_same, T.cl, T.n3, (by show 2 < 1000; decide), ?_⟩
  exact k _ ⟨dx, Eq.trans upd_same (congrArg (fun q => some (HO.ins CP dx q)) (pcF_new s b e))⟩ fun c o e hb => by
    rw [upd_ne hb, upd_ne hb, upd_ne hb]
    exact e
/-- a def that can be called -/
structure DefM (P : Program) (w : World) (K : PySem.W.Frag) (mg : Str → Option Value) (base : Heap) (CX : CXT) (k : Nat) (name : Str) (ps : List Str) (sp : Sp) (f : Addr) (fd : FuncData) : Prop where
  ok : FnOk P w K mg base CX k f fd ps sp
  g : mg name = some (.ref f)
  kp : PySem.W.keepIn K (Value.ref f) = true
  b : Binds K fd ps []
/-- a class of which one can be made -/
structure ClsM (P : Program) (w : World) (K : PySem.W.Frag) (mg : Str → Option Value) (base : Heap) (CX : CXT) (k : Nat) (name : Str) (C : Addr) (fs : List Str) (ps : List Str) (sp : Sp) (f : Addr) (fd : FuncData) : Prop where
  T : ClsT K mg name C fs
  m : Mk K C f
  ok : FnOk P w K mg base CX k f fd ps sp
  b : Binds K fd ps []
abbrev PieceM (P : Program) (w : World) (K : PySem.W.Frag) (mg : Str → Option Value) (base : Heap) (CP fI : Addr) (fdI : FuncData) : Prop :=
  ClsM P w K mg base CX0 1 "Piece" CP ["may_stay", "begins", "ends"] ["self", "may_stay", "begins", "ends"] (spPieceInit CP) fI fdI
/-! piece_again -/
def spAgain (C : Addr) : Sp := fun vs H Q _ => ∃ (p a : Addr) (pc : Wa.Piece) (F : List Nat), vs = [.ref p, .ref a] ∧ PieceAt C H p pc ∧ H a = some (.lst (F.map nv)) ∧ F.length ≤ 1000 ∧
  ∀ (H' : Hp) (r : Addr), PieceAt C H' r (Wa.pAgain pc) → H' a = some (.lst ((Wa.link F pc.e pc.b).map nv)) → Keep a H H' → Q (.ref r) H'
theorem scAgain : FnScope ["piece", "followers"] ["piece", "followers"] (defScope s_piece_again) := ⟨rfl, rfl, rfl, by decide +kernel, rfl, by decide +kernel, by decide +kernel⟩
abbrev LinkM (P : Program) (w : World) (K : PySem.W.Frag) (mg : Str → Option Value) (base : Heap) (fL : Addr) (fdL : FuncData) : Prop := DefM P w K mg base CX0 2 "link" ["followers", "ends", "begins"] spLink fL fdL
theorem ins_ne_lst {H : Hp} {p a C dx : Addr} {fs : List (Str × V)} {xs : List V} (h : H p = some (.ins C dx fs)) (h' : H a = some (.lst xs)) : p ≠ a := ne_of h h' (fun z => nomatch z)
theorem ok_again {f fL fI : Addr} {fd fdL fdI : FuncData} (F : Fun K "piece_again" "piece_again" s_piece_again f fd) (L : LinkM P w K mg base fL fdL) (M : PieceM P w K mg base CP fI fdI) : FnOk P w K mg base CX0 3 f fd ["piece", "followers"] (spAgain CP) := by
  refine F.ok scAgain (fun vs H Q E h => ?_) (fun cdv A outer s H vs Q E hr h => ?_)
  · obtain ⟨p, a, pc, F, rfl, _⟩ := h
    rfl
  refine ⟨_, pss_cons (ps_expr (pe_call L.ok hr rfl L.g L.kp L.b .nil pass0 (pa_cons (pv 1) (pa_cons (pe_fld (pv 0) rfl) (pa_cons (pe_fld (pv 0) rfl) pa_nil)))))
    (pss_one (ps_ret (pe_make M.m M.ok hr rfl M.T.g M.b .nil pass0 (pa_cons pe_bl (pa_cons (pe_fld (pv 0) rfl) (pa_cons (pe_fld (pv 0) rfl) pa_nil)))))), ?_⟩
  obtain ⟨p, a, pc, F, rfl, ⟨dx, hp⟩, ha, hl, q⟩ := h
  refine ⟨_, rfl, _, rfl, p, CP, dx, _, _, rfl, hp, M.T.cl, PieceT.n3 M.T, pcF_e pc, _, rfl, p, CP, dx, _, _, rfl, hp, M.T.cl, PieceT.n2 M.T, pcF_b pc, a, F, pc.e, pc.b, rfl, ha, hl, fun H1 h1 k1 => ?_⟩
  have hp1 := k1 p _ hp (ins_ne_lst hp ha)
  refine ⟨_, rfl, p, CP, dx, _, _, rfl, hp1, M.T.cl, PieceT.n2 M.T, pcF_b pc, _, rfl, p, CP, dx, _, _, rfl, hp1, M.T.cl, PieceT.n3 M.T, pcF_e pc, fun x dx' nx nd ne => ?_⟩
  refine ⟨x, dx', true, pc.b, pc.e, rfl, upd_same, fun H2 J k2 => ⟨rfl, ?_⟩⟩
  have s2 : Same H1 H2 := Same.made nx nd k2
  exact q H2 x J (s2 _ _ h1) (Keep.trans k1 (Same.keep s2))
/-! piece_in_order -/
def spOrder (C : Addr) : Sp := fun vs H Q _ => ∃ (l r a : Addr) (pl pr : Wa.Piece) (F : List Nat), vs = [.ref l, .ref r, .ref a] ∧ PieceAt C H l pl ∧ PieceAt C H r pr ∧ H a = some (.lst (F.map nv)) ∧ F.length ≤ 1000 ∧
  ∀ (H' : Hp) (x : Addr), PieceAt C H' x (Wa.pOrder pl pr) → H' a = some (.lst ((Wa.link F pl.e pr.b).map nv)) → Keep a H H' → Q (.ref x) H'
theorem scOrder : FnScope ["left", "right", "followers", "begins", "ends"] ["left", "right", "followers"] (defScope s_piece_in_order) := ⟨rfl, rfl, rfl, by decide +kernel, rfl, by decide +kernel, by decide +kernel⟩
theorem ok_order {f fL fI : Addr} {fd fdL fdI : FuncData} (F : Fun K "piece_in_order" "piece_in_order" s_piece_in_order f fd) (L : LinkM P w K mg base fL fdL) (M : PieceM P w K mg base CP fI fdI) : FnOk P w K mg base CX0 3 f fd ["left", "right", "followers"] (spOrder CP) := by
  refine F.ok scOrder (fun vs H Q E h => ?_) (fun cdv A outer s H vs Q E hr h => ?_)
  · obtain ⟨l, r, a, pl, pr, F, rfl, _⟩ := h
    rfl
  refine ⟨_, pss_cons (ps_expr (pe_call L.ok hr rfl L.g L.kp L.b .nil pass0 (pa_cons (pv 2) (pa_cons (pe_fld (pv 0) rfl) (pa_cons (pe_fld (pv 1) rfl) pa_nil)))))
    (pss_cons (ps_set (i := 3) scOrder.nd rfl (Or.inl rfl) (pe_ifExp (pt_val (pe_fld (pv 0) rfl)) (pe_op op_orN (pe_fld (pv 0) rfl) (pe_fld (pv 1) rfl)) (pe_fld (pv 0) rfl)))
    (pss_cons (ps_set (i := 4) scOrder.nd rfl (Or.inl rfl) (pe_ifExp (pt_val (pe_fld (pv 1) rfl)) (pe_op op_orN (pe_fld (pv 0) rfl) (pe_fld (pv 1) rfl)) (pe_fld (pv 1) rfl)))
    (pss_one (ps_ret (pe_make M.m M.ok hr rfl M.T.g M.b .nil pass0 (pa_cons (pe_and (pe_fld (pv 0) rfl) (pe_one (pe_fld (pv 1) rfl))) (pa_cons (pv 3) (pa_cons (pv 4) pa_nil)))))))), ?_⟩
  obtain ⟨l, r, a, pl, pr, F, rfl, ⟨dl, hl⟩, ⟨dr, hr'⟩, ha, hlen, q⟩ := h
  refine ⟨_, rfl, _, rfl, l, CP, dl, _, _, rfl, hl, M.T.cl, PieceT.n3 M.T, pcF_e pl, _, rfl, r, CP, dr, _, _, rfl, hr', M.T.cl, PieceT.n2 M.T, pcF_b pr, a, F, pl.e, pr.b, rfl, ha, hlen, fun H1 h1 k1 => ?_⟩
  have hl1 := k1 l _ hl (ins_ne_lst hl ha)
  have hr1 := k1 r _ hr' (ins_ne_lst hr' ha)
  refine ⟨_, rfl, l, CP, dl, _, _, rfl, hl1, M.T.cl, PieceT.n1 M.T, pcF_stay pl, _, rfl, ?_⟩
  -- begins
  have st : ∀ (b e : Nat), b = (Wa.pOrder pl pr).b → e = (Wa.pOrder pl pr).e → ∀ x dx, H1 x = none → H1 dx = none → dx ≠ x →
      spPieceInit CP [.ref x, .bl (pl.stay && pr.stay), nv b, nv e] (upd (upd H1 dx (.own x)) x (.ins CP dx [])) (fun v H2 => v = .non ∧ Q (.ref x) H2) E0 := by
    intro b e eb ee x dx nx nd ne
    refine ⟨x, dx, _, b, e, rfl, upd_same, fun H2 J k2 => ⟨rfl, ?_⟩⟩
    have s2 : Same H1 H2 := Same.made nx nd k2
    subst eb ee
    exact q H2 x J (s2 _ _ h1) (Keep.trans k1 (Same.keep s2))
  rcases Bool.eq_false_or_eq_true pl.stay with c1 | c1
  · refine ifT c1 ⟨_, rfl, l, CP, dl, _, _, rfl, hl1, M.T.cl, PieceT.n2 M.T, pcF_b pl, _, rfl, r, CP, dr, _, _, rfl, hr1, M.T.cl, PieceT.n2 M.T, pcF_b pr, pl.b, pr.b, rfl, rfl, ?_⟩
    refine ⟨_, rfl, r, CP, dr, _, _, rfl, hr1, M.T.cl, PieceT.n1 M.T, pcF_stay pr, _, rfl, ?_⟩
    rcases Bool.eq_false_or_eq_true pr.stay with c2 | c2
    · refine ifT c2 ⟨_, rfl, l, CP, dl, _, _, rfl, hl1, M.T.cl, PieceT.n3 M.T, pcF_e pl, _, rfl, r, CP, dr, _, _, rfl, hr1, M.T.cl, PieceT.n3 M.T, pcF_e pr, pl.e, pr.e, rfl, rfl, ?_⟩
      refine ⟨_, rfl, l, CP, dl, _, _, rfl, hl1, M.T.cl, PieceT.n1 M.T, pcF_stay pl, _, rfl, ifT c1 ⟨_, rfl, r, CP, dr, _, _, rfl, hr1, M.T.cl, PieceT.n1 M.T, pcF_stay pr, _, rfl, _, rfl, ?_⟩⟩
      have e0 := st (pl.b ||| pr.b) (pl.e ||| pr.e) (by simp [Wa.pOrder, c1]) (by simp [Wa.pOrder, c2])
      rw [show (pl.stay && pr.stay) = pr.stay by rw [c1]; rfl] at e0
      exact e0
    · refine ifF (by rw [c2]; decide) ⟨_, rfl, r, CP, dr, _, _, rfl, hr1, M.T.cl, PieceT.n3 M.T, pcF_e pr, ?_⟩
      refine ⟨_, rfl, l, CP, dl, _, _, rfl, hl1, M.T.cl, PieceT.n1 M.T, pcF_stay pl, _, rfl, ifT c1 ⟨_, rfl, r, CP, dr, _, _, rfl, hr1, M.T.cl, PieceT.n1 M.T, pcF_stay pr, _, rfl, _, rfl, ?_⟩⟩
      have e0 := st (pl.b ||| pr.b) pr.e (by simp [Wa.pOrder, c1]) (by simp [Wa.pOrder, c2])
      rw [show (pl.stay && pr.stay) = pr.stay by rw [c1]; rfl] at e0
      exact e0
  · refine ifF (by rw [c1]; decide) ⟨_, rfl, l, CP, dl, _, _, rfl, hl1, M.T.cl, PieceT.n2 M.T, pcF_b pl, ?_⟩
    refine ⟨_, rfl, r, CP, dr, _, _, rfl, hr1, M.T.cl, PieceT.n1 M.T, pcF_stay pr, _, rfl, ?_⟩
    rcases Bool.eq_false_or_eq_true pr.stay with c2 | c2
    · refine ifT c2 ⟨_, rfl, l, CP, dl, _, _, rfl, hl1, M.T.cl, PieceT.n3 M.T, pcF_e pl, _, rfl, r, CP, dr, _, _, rfl, hr1, M.T.cl, PieceT.n3 M.T, pcF_e pr, pl.e, pr.e, rfl, rfl, ?_⟩
      refine ⟨_, rfl, l, CP, dl, _, _, rfl, hl1, M.T.cl, PieceT.n1 M.T, pcF_stay pl, _, rfl, ifF (by rw [c1]; decide) ⟨_, rfl, _, rfl, ?_⟩⟩
      have e0 := st pl.b (pl.e ||| pr.e) (by simp [Wa.pOrder, c1]) (by simp [Wa.pOrder, c2])
      rw [show (pl.stay && pr.stay) = false by rw [c1]; rfl] at e0
      exact e0
    · refine ifF (by rw [c2]; decide) ⟨_, rfl, r, CP, dr, _, _, rfl, hr1, M.T.cl, PieceT.n3 M.T, pcF_e pr, ?_⟩
      refine ⟨_, rfl, l, CP, dl, _, _, rfl, hl1, M.T.cl, PieceT.n1 M.T, pcF_stay pl, _, rfl, ifF (by rw [c1]; decide) ⟨_, rfl, _, rfl, ?_⟩⟩
      have e0 := st pl.b pr.e (by simp [Wa.pOrder, c1]) (by simp [Wa.pOrder, c2])
      rw [show (pl.stay && pr.stay) = false by rw [c1]; rfl] at e0
      exact e0
/-! piece_either -/
def spEither (C : Addr) : Sp := fun vs H Q _ => ∃ (l r : Addr) (pl pr : Wa.Piece), vs = [.ref l, .ref r] ∧ PieceAt C H l pl ∧ PieceAt C H r pr ∧
  ∀ (H' : Hp) (x : Addr), PieceAt C H' x (Wa.pEither pl pr) → Same H H' → Q (.ref x) H'
theorem scEither : FnScope ["left", "right"] ["left", "right"] (defScope s_piece_either) := ⟨rfl, rfl, rfl, by decide +kernel, rfl, by decide +kernel, by decide +kernel⟩
theorem ok_either {f fI : Addr} {fd fdI : FuncData} (F : Fun K "piece_either" "piece_either" s_piece_either f fd) (M : PieceM P w K mg base CP fI fdI) : FnOk P w K mg base CX0 3 f fd ["left", "right"] (spEither CP) := by
  refine F.ok scEither (fun vs H Q E h => ?_) (fun cdv A outer s H vs Q E hr h => ?_)
  · obtain ⟨l, r, pl, pr, rfl, _⟩ := h
    rfl
  refine ⟨_, pss_one (ps_ret (pe_make M.m M.ok hr rfl M.T.g M.b .nil pass0 (pa_cons (pe_or (pe_fld (pv 0) rfl) (pe_one (pe_fld (pv 1) rfl))) (pa_cons (pe_op op_orN (pe_fld (pv 0) rfl) (pe_fld (pv 1) rfl)) (pa_cons (pe_op op_orN (pe_fld (pv 0) rfl) (pe_fld (pv 1) rfl)) pa_nil))))), ?_⟩
  obtain ⟨l, r, pl, pr, rfl, ⟨dl, hl⟩, ⟨dr, hr'⟩, q⟩ := h
  have st : ∀ x dx, H x = none → H dx = none → dx ≠ x →
      spPieceInit CP [.ref x, .bl (pl.stay || pr.stay), nv (pl.b ||| pr.b), nv (pl.e ||| pr.e)] (upd (upd H dx (.own x)) x (.ins CP dx [])) (fun v H2 => v = .non ∧ Q (.ref x) H2) E0 := by
    intro x dx nx nd ne
    refine ⟨x, dx, _, _, _, rfl, upd_same, fun H2 J k2 => ⟨rfl, ?_⟩⟩
    exact q H2 x J (Same.made nx nd k2)
  refine ⟨_, rfl, l, CP, dl, _, _, rfl, hl, M.T.cl, PieceT.n1 M.T, pcF_stay pl, _, rfl, ?_⟩
  rcases Bool.eq_false_or_eq_true pl.stay with c1 | c1
  · refine ifT c1 ⟨_, rfl, l, CP, dl, _, _, rfl, hl, M.T.cl, PieceT.n2 M.T, pcF_b pl, _, rfl, r, CP, dr, _, _, rfl, hr', M.T.cl, PieceT.n2 M.T, pcF_b pr, pl.b, pr.b, rfl, rfl, _, rfl, l, CP, dl, _, _, rfl, hl, M.T.cl, PieceT.n3 M.T, pcF_e pl, _, rfl, r, CP, dr, _, _, rfl, hr', M.T.cl, PieceT.n3 M.T, pcF_e pr, pl.e, pr.e, rfl, rfl, ?_⟩
    rw [show (pl.stay || pr.stay) = true by rw [c1]; rfl] at st
    exact st
  · refine ifF (by rw [c1]; decide) ⟨_, rfl, r, CP, dr, _, _, rfl, hr', M.T.cl, PieceT.n1 M.T, pcF_stay pr, _, rfl, l, CP, dl, _, _, rfl, hl, M.T.cl, PieceT.n2 M.T, pcF_b pl, _, rfl, r, CP, dr, _, _, rfl, hr', M.T.cl, PieceT.n2 M.T, pcF_b pr, pl.b, pr.b, rfl, rfl, _, rfl, l, CP, dl, _, _, rfl, hl, M.T.cl, PieceT.n3 M.T, pcF_e pl, _, rfl, r, CP, dr, _, _, rfl, hr', M.T.cl, PieceT.n3 M.T, pcF_e pr, pl.e, pr.e, rfl, rfl, ?_⟩
    rw [show (pl.stay || pr.stay) = pr.stay by rw [c1]; rfl] at st
    exact st
/-! piece_of_two -/
def twoOf (k : Nat) (pl pr : Wa.Piece) (F : List Nat) : Wa.Piece × List Nat := if k = 2 then (Wa.pOrder pl pr, Wa.link F pl.e pr.b) else (Wa.pEither pl pr, F)
def spTwo (C : Addr) : Sp := fun vs H Q _ => ∃ (k : Nat) (l r a : Addr) (pl pr : Wa.Piece) (F : List Nat), vs = [nv k, .ref l, .ref r, .ref a] ∧ PieceAt C H l pl ∧ PieceAt C H r pr ∧ H a = some (.lst (F.map nv)) ∧ F.length ≤ 1000 ∧
  ∀ (H' : Hp) (x : Addr), PieceAt C H' x (twoOf k pl pr F).1 → H' a = some (.lst ((twoOf k pl pr F).2.map nv)) → Keep a H H' → Q (.ref x) H'
theorem scTwo : FnScope ["kind", "left", "right", "followers"] ["kind", "left", "right", "followers"] (defScope s_piece_of_two) := ⟨rfl, rfl, rfl, by decide +kernel, rfl, by decide +kernel, by decide +kernel⟩
abbrev OrderM (P : Program) (w : World) (K : PySem.W.Frag) (mg : Str → Option Value) (base : Heap) (CP f : Addr) (fd : FuncData) : Prop := DefM P w K mg base CX0 3 "piece_in_order" ["left", "right", "followers"] (spOrder CP) f fd
abbrev EitherM (P : Program) (w : World) (K : PySem.W.Frag) (mg : Str → Option Value) (base : Heap) (CP f : Addr) (fd : FuncData) : Prop := DefM P w K mg base CX0 3 "piece_either" ["left", "right"] (spEither CP) f fd
theorem ok_two {f fO fE : Addr} {fd fdO fdE : FuncData} {t : Tok} (F : Fun K "piece_of_two" "piece_of_two" s_piece_of_two f fd) (O : OrderM P w K mg base CP fO fdO) (I : EitherM P w K mg base CP fE fdE) (mg2 : mg "IN_ORDER" = some (.int 2 t)) : FnOk P w K mg base CX0 4 f fd ["kind", "left", "right", "followers"] (spTwo CP) := by
  refine F.ok scTwo (fun vs H Q E h => ?_) (fun cdv A outer s H vs Q E hr h => ?_)
  · obtain ⟨k, l, r, a, pl, pr, F, rfl, _⟩ := h
    rfl
  refine ⟨_, pss_cons (ps_if (pt_cmpR op_eq (pv 0) (pe_gi mg2) (nomark _)) (pss_one (ps_ret (pe_call O.ok hr rfl O.g O.kp O.b .nil pass0 (pa_cons (pv 1) (pa_cons (pv 2) (pa_cons (pv 3) pa_nil)))))) pss_nil)
    (pss_one (ps_ret (pe_call I.ok hr rfl I.g I.kp I.b .nil pass0 (pa_cons (pv 1) (pa_cons (pv 2) pa_nil))))), ?_⟩
  obtain ⟨k, l, r, a, pl, pr, F, rfl, hl, hr', ha, hlen, q⟩ := h
  refine ⟨_, rfl, rfl, _, rfl, ?_⟩
  by_cases c : k = 2
  · refine ifT (by subst c; rfl) ?_
    have e : twoOf k pl pr F = (Wa.pOrder pl pr, Wa.link F pl.e pr.b) := if_pos c
    rw [e] at q
    exact ⟨_, rfl, _, rfl, _, rfl, l, r, a, pl, pr, F, rfl, hl, hr', ha, hlen, q⟩
  · refine ifF (by simp; omega) ?_
    have e : twoOf k pl pr F = (Wa.pEither pl pr, F) := if_neg c
    rw [e] at q
    exact ⟨_, rfl, _, rfl, l, r, pl, pr, rfl, hl, hr', fun H' x h1 s1 => q H' x h1 (s1 _ _ ha) (Same.keep s1)⟩
end
end Wp

namespace Wp
open PySem PySem.Spec PyProof.Rows L2 Wn Wr
abbrev s_whole_piece : Stmt := top 33
/-- a list of parts -/
def Parts (K : PySem.W.Frag) (H : Hp) (a : Addr) (ps : List Wa.Part) : Prop := ∃ ts : List Addr, H a = some (.lst (ts.map V.ref)) ∧ Paired (fun t (p : Wa.Part) => SqT K H t [nv p.1, nv p.2]) ts ps
theorem keep_tup {K : PySem.W.Frag} {H H' : Hp} {a t : Addr} {xs ys : List V} (k : Keep a H H') (h : H a = some (.lst xs)) (q : SqT K H t ys) : SqT K H' t ys := by
  rcases q with (q | ⟨o, q⟩) | q
  · exact .inl (.inl (k _ _ q (ne_of q h (fun z => nomatch z))))
  · exact .inl (.inr ⟨o, k _ _ q (ne_of q h (fun z => nomatch z))⟩)
  · exact .inr q
theorem keep_seq {K : PySem.W.Frag} {H H' : Hp} {a b : Addr} {ys : List V} (k : Keep a H H') (h : b ≠ a) (q : SqL K H b ys) : SqL K H' b ys := by
  rcases q with (q | ⟨o, q⟩) | q
  · exact .inl (.inl (k _ _ q h))
  · exact .inl (.inr ⟨o, k _ _ q h⟩)
  · exact .inr q
theorem paired_mono {α β : Type} {F G : α → β → Prop} : ∀ {l : List α} {m : List β}, Paired F l m → (∀ a b, F a b → G a b) → Paired G l m
  | _, _, .nil, _ => .nil
  | _, _, .cons r t, f => .cons (f _ _ r) (paired_mono t f)
theorem paired_get {α β : Type} {F : α → β → Prop} : ∀ {l : List α} {m : List β} {i : Nat} {x : α}, Paired F l m → l[i]? = some x → ∃ y, m[i]? = some y ∧ F x y
  | _, _, i, x, .nil, e => by simp at e
  | _, _, 0, x, .cons r t, e => by simp at e; subst e; exact ⟨_, rfl, r⟩
  | _, _, i + 1, x, .cons r t, e => by
    obtain ⟨y, h1, h2⟩ := paired_get (i := i) t (by simpa using e)
    exact ⟨y, by simpa using h1, h2⟩
/-- the stack, its top first -/
def Stack (C : Addr) (H : Hp) (as : List Addr) (st : List Wa.Piece) : Prop := Paired (fun a p => PieceAt C H a p) as st
theorem Stack.keep {C : Addr} {H H' : Hp} {a : Addr} {xs : List V} {as : List Addr} {st : List Wa.Piece} (s : Stack C H as st) (k : Keep a H H') (h : H a = some (.lst xs)) : Stack C H' as st :=
  paired_mono s fun b p ⟨dx, q⟩ => ⟨dx, k _ _ q (ins_ne_lst q h)⟩
theorem keep_upd {H : Hp} {a : Addr} {o : HO} : Keep a H (upd H a o) := fun c u e n => by rw [upd_ne n]; exact e
section
variable {P : Program} {w : World} {K : PySem.W.Frag} {mg : Str → Option Value} {base : Heap} {CP : Addr}
def spWhole (K : PySem.W.Frag) (C : Addr) : Sp := fun vs H Q _ => ∃ (a aF : Addr) (ps : List Wa.Part) (F F' : List Nat) (p : Wa.Piece) (s' : Nat), vs = [.ref a, .ref aF] ∧ Parts K H a ps ∧ a ≠ aF ∧ ps.length ≤ 1000 ∧ H aF = some (.lst (F.map nv)) ∧ 0 < F.length ∧ F.length ≤ 1000 ∧
  Wa.prun ps.reverse ([], F.length - 1, F) = some ([p], s', F') ∧
  ∀ (H' : Hp) (r : Addr), PieceAt C H' r p → H' aF = some (.lst (F'.map nv)) → Keep aF H H' → Q (.ref r) H'
abbrev wpN : List Str := ["parts", "followers", "pieces", "state", "part", "kind", "left", "right"]
theorem scWhole : FnScope wpN ["parts", "followers"] (defScope s_whole_piece) := ⟨rfl, rfl, rfl, by decide +kernel, rfl, by decide +kernel, by decide +kernel⟩
abbrev AgainM (P : Program) (w : World) (K : PySem.W.Frag) (mg : Str → Option Value) (base : Heap) (CP f : Addr) (fd : FuncData) : Prop := DefM P w K mg base CX0 3 "piece_again" ["piece", "followers"] (spAgain CP) f fd
abbrev TwoM (P : Program) (w : World) (K : PySem.W.Frag) (mg : Str → Option Value) (base : Heap) (CP f : Addr) (fd : FuncData) : Prop := DefM P w K mg base CX0 4 "piece_of_two" ["kind", "left", "right", "followers"] (spTwo CP) f fd
/-- a prefix of what runs runs -/
theorem prun_pre {a b : List Wa.Part} {st x : Wa.PSt} (h : Wa.prun (a ++ b) st = some x) : ∃ y, Wa.prun a st = some y := by
  rw [Wa.prun_append] at h
  cases e : Wa.prun a st with
  | none =>
    rw [e] at h
    cases h
  | some y => exact ⟨y, rfl⟩
theorem prun_turn {rev : List Wa.Part} {st x y : Wa.PSt} {i : Nat} {p : Wa.Part} (h : Wa.prun rev st = some x) (hi : rev[i]? = some p) (hy : Wa.prun (rev.take i) st = some y) : ∃ z, Wa.pstep y p = some z ∧ Wa.prun (rev.take (i + 1)) st = some z := by
  have e1 : rev.take (i + 1) = rev.take i ++ [p] := by
    rw [List.take_succ, hi]
    rfl
  have e2 : Wa.prun (rev.take (i + 1)) st = Wa.pstep y p := by
    rw [e1, Wa.prun_append, hy]
    show (Wa.pstep y p).bind (Wa.prun []) = _
    cases Wa.pstep y p <;> rfl
  obtain ⟨z, hz⟩ := prun_pre (a := rev.take (i + 1)) (b := rev.drop (i + 1)) (x := x) (st := st) (by rw [List.take_append_drop]; exact h)
  exact ⟨z, by rw [← e2]; exact hz, hz⟩
theorem pstep_length {y z : Wa.PSt} {p : Wa.Part} (h : Wa.pstep y p = some z) : z.2.2.length = y.2.2.length ∧ z.1.length ≤ y.1.length + 1 := by
  unfold Wa.pstep at h
  obtain ⟨st, s, F⟩ := y
  split at h
  · cases h; exact ⟨rfl, by simp⟩
  split at h
  · split at h
    · cases h
    · cases h; exact ⟨rfl, by simp⟩
  split at h
  · split at h
    · cases h; rename_i q r e; dsimp only at e; subst e; exact ⟨Wa.link_length, by simp⟩
    · cases h
  split at h
  · rename_i l q r e; dsimp only at e; subst e
    split at h
    · cases h; exact ⟨Wa.link_length, by simp⟩
    · cases h; exact ⟨rfl, by simp⟩
  · cases h
theorem pstep_le {y z : Wa.PSt} {p : Wa.Part} (h : Wa.pstep y p = some z) : z.2.1 ≤ y.2.1 := by
  unfold Wa.pstep at h
  obtain ⟨st, s, F⟩ := y
  split at h
  · cases h; exact Nat.le_refl _
  split at h
  · split at h
    · cases h
    · cases h; exact Nat.sub_le _ _
  split at h
  · split at h
    · cases h; exact Nat.le_refl _
    · cases h
  split at h
  · split at h
    · cases h; exact Nat.le_refl _
    · cases h; exact Nat.le_refl _
  · cases h
theorem prun_le : ∀ {l : List Wa.Part} {y z : Wa.PSt}, Wa.prun l y = some z → z.2.1 ≤ y.2.1
  | [], y, z, h => by
    cases h
    exact Nat.le_refl _
  | p :: l, y, z, h => by
    have h : (Wa.pstep y p).bind (Wa.prun l) = some z := h
    cases e : Wa.pstep y p with
    | none =>
      rw [e] at h
      cases h
    | some x =>
      rw [e] at h
      exact Nat.le_trans (prun_le (y := x) h) (pstep_le e)
structure WInv (C : Addr) (H : Hp) (a aF L : Addr) (rev : List Wa.Part) (F0 : List Nat) (i : Nat) (σ : L2.St) (H' : Hp) : Prop where
  ex : ∃ (as : List Addr) (st : List Wa.Piece) (s : Nat) (F : List Nat) (v4 v5 v6 v7 : Option V), σ = [some (.ref a), some (.ref aF), some (.ref L), some (nv s), v4, v5, v6, v7] ∧
    Wa.prun (rev.take i) ([], F0.length - 1, F0) = some (st, s, F) ∧ H' L = some (.lst (as.map V.ref)) ∧ Stack C H' as.reverse st ∧ st.length ≤ i ∧ H' aF = some (.lst (F.map nv)) ∧ F.length = F0.length ∧ Keep aF H H'
theorem winv_push {C : Addr} {H H2 : Hp} {a aF L x : Addr} {rev : List Wa.Part} {F0 F2 : List Nat} {i s2 : Nat} {as : List Addr} {st : List Wa.Piece} {p : Wa.Piece} {v4 v5 v6 v7 : Option V} (hLF : L ≠ aF) (nL : H L = none) (k : Keep aF H H2) (hL : H2 L = some (.lst (as.map V.ref)))
    (hst : Stack C H2 as.reverse st) (J : PieceAt C H2 x p) (hF : H2 aF = some (.lst (F2.map nv))) (hl : F2.length = F0.length) (e : Wa.prun (rev.take (i + 1)) ([], F0.length - 1, F0) = some (p :: st, s2, F2)) (hi : st.length ≤ i) :
    WInv C H a aF L rev F0 (i + 1) [some (.ref a), some (.ref aF), some (.ref L), some (nv s2), v4, v5, v6, v7] (upd H2 L (.lst (as.map V.ref ++ [.ref x]))) := by
  have kL : Keep L H2 (upd H2 L (.lst (as.map V.ref ++ [.ref x]))) := keep_upd
  refine ⟨as ++ [x], _, _, _, _, _, _, _, rfl, e, ?_, ?_, by simp; omega, ?_, hl, ?_⟩
  · rw [upd_same]; simp
  · rw [List.reverse_append]
    obtain ⟨dJ, hJ⟩ := J
    exact .cons ⟨dJ, kL _ _ hJ (ins_ne_lst hJ hL)⟩ (hst.keep kL hL)
  · exact kL _ _ hF (Ne.symm hLF)
  · exact fun c o e n => kL _ _ (k _ _ e n) (fun z => by subst z; rw [nL] at e; cases e)
theorem small_refs {as : List Addr} {C : Addr} {H : Hp} {st : List Wa.Piece} {i n : Nat} (hst : Stack C H as.reverse st) (h : st.length ≤ i) (hi : i ≤ n) (hn : n ≤ 1000) : (as.map V.ref).length < sizeLine := by
  rw [List.length_map]
  have := Paired.length hst
  rw [List.length_reverse] at this
  have h0 : (1000 : Nat) < sizeLine := by decide
  omega
theorem last_ref {as : List Addr} {t : Addr} {r : List Addr} (h : as.reverse = t :: r) : as = r.reverse ++ [t] := by
  have := congrArg List.reverse h
  simpa using this
theorem ok_whole {f fA fT fI : Addr} {fd fdA fdT fdI : FuncData} {t0 t1 t4 : Tok} (F : Fun K "whole_piece" "whole_piece" s_whole_piece f fd) (B : Blt mg) (A1 : AgainM P w K mg base CP fA fdA) (T1 : TwoM P w K mg base CP fT fdT) (M : PieceM P w K mg base CP fI fdI)
    (m0 : mg "STAY" = some (.int 0 t0)) (m1 : mg "LETTER" = some (.int 1 t1)) (m4 : mg "AGAIN" = some (.int 4 t4)) : FnOk P w K mg base CX0 5 f fd ["parts", "followers"] (spWhole K CP) := by
  refine F.ok scWhole (fun vs H Q E h => ?_) (fun cdv A outer s H vs Q E hr h => ?_)
  · obtain ⟨a, aF, ps, F, F', p, s', rfl, _⟩ := h
    rfl
  have hr3 : Room 3 _ := hr.mono (by decide)
  have hr2 : Room 2 _ := hr.mono (by decide)
  refine ⟨_, pss_cons (ps_set (i := 2) scWhole.nd rfl (Or.inl rfl) (pe_lst pa_nil))
    (pss_cons (ps_set (i := 3) scWhole.nd rfl (Or.inl rfl) (pe_op op_sub (pe_callB call_len_seq (by rfl) B.len PySem.boot_len (pa_cons (pv 1) pa_nil)) pe_int))
    (pss_cons (ps_for PassesOwn.never rfl (pi_reversed (by rfl) B.reversed (pa_cons (pv 0) pa_nil)) (pg_name (i := 4) scWhole.nd rfl (Or.inl rfl))
      (pss_cons (ps_set (i := 5) scWhole.nd rfl (Or.inl rfl) (pe_ix ix_tup (pv 4) pe_int (fun _ _ => rfl)))
      (pss_one (ps_if (pt_cmpR op_eq (pv 5) (pe_gi m0) (nomark _))
        (pss_one (ps_expr (pe_bm PySem.F.plainAttrs_list PySem.F.slot_list_append PySem.F.type_list_append mt_append (pv 2) (pa_cons (pe_make M.m M.ok hr2 rfl M.T.g M.b .nil pass0 (pa_cons pe_bl (pa_cons pe_int (pa_cons pe_int pa_nil)))) pa_nil))))
        (pss_one (ps_if (pt_cmpR op_eq (pv 5) (pe_gi m1) (nomark _))
          (pss_cons (ps_expr (pe_bm PySem.F.plainAttrs_list PySem.F.slot_list_append PySem.F.type_list_append mt_append (pv 2) (pa_cons (pe_make M.m M.ok hr2 rfl M.T.g M.b .nil pass0 (pa_cons pe_bl (pa_cons (pe_op op_shl1 pe_int (pv 3)) (pa_cons (pe_op op_shl1 pe_int (pv 3)) pa_nil)))) pa_nil)))
            (pss_one (ps_aug (i := 3) scWhole.nd rfl (Or.inl rfl) pe_int ip_sub)))
          (pss_one (ps_if (pt_cmpR op_eq (pv 5) (pe_gi m4) (nomark _))
            (pss_one (ps_expr (pe_bm PySem.F.plainAttrs_list PySem.F.slot_list_append PySem.F.type_list_append mt_append (pv 2) (pa_cons (pe_call A1.ok hr3 rfl A1.g A1.kp A1.b .nil pass0 (pa_cons (pe_bm0 PySem.F.plainAttrs_list PySem.F.slot_list_pop PySem.F.type_list_pop mt_pop (pv 2)) (pa_cons (pv 1) pa_nil))) pa_nil))))
            (pss_cons (ps_set (i := 6) scWhole.nd rfl (Or.inl rfl) (pe_bm0 PySem.F.plainAttrs_list PySem.F.slot_list_pop PySem.F.type_list_pop mt_pop (pv 2)))
            (pss_cons (ps_set (i := 7) scWhole.nd rfl (Or.inl rfl) (pe_bm0 PySem.F.plainAttrs_list PySem.F.slot_list_pop PySem.F.type_list_pop mt_pop (pv 2)))
            (pss_one (ps_expr (pe_bm PySem.F.plainAttrs_list PySem.F.slot_list_append PySem.F.type_list_append mt_append (pv 2) (pa_cons (pe_call T1.ok hr rfl T1.g T1.kp T1.b .nil pass0 (pa_cons (pv 5) (pa_cons (pv 6) (pa_cons (pv 7) (pa_cons (pv 1) pa_nil))))) pa_nil))))))))))))))
    (pss_one (ps_ret (pe_bm0 PySem.F.plainAttrs_list PySem.F.slot_list_pop PySem.F.type_list_pop mt_pop (pv 2)))))), ?_⟩
  obtain ⟨a, aF, ps, F, F', p, s', rfl, ⟨ts, hq, hts⟩, hne, hps, hF, hF0, hF1, hrun, q⟩ := h
  refine ⟨by decide, fun L nL => ?_⟩
  have hLF : L ≠ aF := fun z => by rw [z, hF] at nL; cases nL
  have s1 : Same H (upd H L (.lst [])) := same_upd nL
  refine ⟨_, rfl, aF, _, rfl, .inl (SqL.of (s1 _ _ hF)), _, _, rfl, rfl, ?_⟩
  have e0 : (((F.map nv).length : Int) - 1) = ((F.length - 1 : Nat) : Int) := by rw [List.length_map]; omega
  have hq1 : ∀ H', Keep aF H H' → SqL K H' a (ts.map V.ref) := fun H' k => SqL.of (k _ _ hq hne)
  have hlen : ts.length = ps.length := Paired.length hts
  refine ⟨_, rfl, a, _, rfl, SqL.of (s1 _ _ hq), RT.for_Itv (xs := ts.map V.ref) (fun i σ H' => WInv CP H a aF L ps.reverse F i σ H') ⟨[], [], F.length - 1, F, none, none, none, none, ?_, rfl, upd_same, .nil, Nat.le_refl _, s1 _ _ hF, rfl, Same.keep s1⟩ (fun i σ H' I => ?_) ?_ ?_⟩
  · show [some (V.ref a), some (V.ref aF), some (V.ref L), some (V.int (((F.map nv).length : Int) - 1)), none, none, none, none] = _
    rw [e0]
  · obtain ⟨_, _, _, _, _, _, _, _, _, _, _, _, _, _, _, k⟩ := I.ex
    exact hq1 H' k
  · rintro i x σ H' hi hx ⟨as, st, s, Fi, v4, v5, v6, v7, rfl, e1, hL, hst, hsl, hFi, hFl, k⟩
    rw [List.length_map] at hi hx
    rw [List.getElem?_map] at hx
    obtain ⟨t, ht, rfl⟩ := Option.map_eq_some_iff.mp hx
    obtain ⟨pt, hpt, htt⟩ := paired_get hts ht
    have htt' := keep_tup k hF htt
    have hrev : ps.reverse[i]? = some pt := by
      rw [List.getElem?_reverse (by omega), ← hlen]
      exact hpt
    obtain ⟨z, hz1, hz2⟩ := prun_turn hrun hrev e1
    obtain ⟨hzl1, hzl2⟩ := pstep_length hz1
    refine ⟨_, rfl, t, _, _, _, rfl, rfl, htt', (atI_nat (j := 0) rfl), ?_⟩
    have stL : ∀ {H1 : Hp}, Same H' H1 → Stack CP H1 as.reverse st := fun s2 => hst.keep (Same.keep s2) hFi
    refine ⟨_, rfl, rfl, _, rfl, ?_⟩
    unfold Wa.pstep at hz1
    by_cases c0 : pt.1 = 0
    · rw [if_pos c0] at hz1
      cases hz1
      refine ifT (by rw [c0]; rfl) ?_
      refine ⟨_, rfl, .inl ⟨rfl, _, SqL.of hL⟩, fun x dx nx nd ne => ⟨x, dx, true, 0, 0, rfl, upd_same, fun H2 J k2 => ⟨rfl, L, _, _, rfl, rfl, (Same.made nx nd k2) _ _ hL, small_refs hst hsl (Nat.le_of_lt hi) (by omega), ?_⟩⟩⟩
      have s2 : Same H' H2 := Same.made nx nd k2
      exact winv_push hLF nL (Keep.trans k (Same.keep s2)) (s2 _ _ hL) (stL s2) J (s2 _ _ hFi) hFl hz2 hsl
    · rw [if_neg c0] at hz1
      refine ifF (by simp; omega) ?_
      refine ⟨_, rfl, rfl, _, rfl, ?_⟩
      by_cases c1 : pt.1 = 1
      · rw [if_pos c1] at hz1
        refine ifT (by rw [c1]; rfl) ?_
        dsimp only at hz1
        by_cases cs : s = 0
        · rw [if_pos cs] at hz1
          cases hz1
        · rw [if_neg cs] at hz1
          cases hz1
          have hs1 : s ≤ 1000 := by
            have := prun_le e1
            dsimp only at this
            omega
          refine ⟨_, rfl, .inl ⟨rfl, _, SqL.of hL⟩, _, rfl, s, rfl, rfl, by omega, _, rfl, s, rfl, rfl, by omega, fun x dx nx nd ne => ⟨x, dx, false, 2 ^ s, 2 ^ s, rfl, upd_same, fun H2 J k2 => ⟨rfl, L, _, _, rfl, rfl, (Same.made nx nd k2) _ _ hL, small_refs hst hsl (Nat.le_of_lt hi) (by omega), ?_⟩⟩⟩
          have s2 : Same H' H2 := Same.made nx nd k2
          refine ⟨_, rfl, _, _, rfl, rfl, ?_⟩
          have e2 : ((s : Int) - 1) = ((s - 1 : Nat) : Int) := by omega
          have W := winv_push (a := a) (v4 := some (.ref t)) (v5 := some (nv pt.1)) (v6 := v6) (v7 := v7) hLF nL (Keep.trans k (Same.keep s2)) (s2 _ _ hL) (stL s2) J (s2 _ _ hFi) hFl hz2 hsl
          show WInv CP H a aF L ps.reverse F (i + 1) [some (.ref a), some (.ref aF), some (.ref L), some (.int ((s : Int) - 1)), some (.ref t), some (nv pt.1), v6, v7] _
          rw [e2]
          exact W
      · rw [if_neg c1] at hz1
        refine ifF (by simp; omega) ?_
        refine ⟨_, rfl, rfl, _, rfl, ?_⟩
        by_cases c4 : pt.1 = 4
        · rw [if_pos c4] at hz1
          refine ifT (by rw [c4]; rfl) ?_
          dsimp only at hz1
          cases st with
          | nil => cases hz1
          | cons q0 r0 =>
            cases hz1
            cases har : as.reverse with
            | nil =>
              rw [har] at hst
              cases hst
            | cons t0 rr =>
              rw [har] at hst
              cases hst with
              | cons ht0 hrr =>
                have eas := last_ref har
                subst eas
                have kL : Keep L H' (upd H' L (.lst ((rr.reverse ++ [t0]).map V.ref).dropLast)) := keep_upd
                obtain ⟨d0, h0⟩ := ht0
                refine ⟨_, rfl, .inl ⟨rfl, _, SqL.of hL⟩, _, rfl, .inl ⟨rfl, _, SqL.of hL⟩, L, _, .ref t0, rfl, rfl, hL, by simp, _, rfl, t0, aF, q0, Fi, rfl, ⟨d0, kL _ _ h0 (ins_ne_lst h0 hL)⟩, kL _ _ hFi (Ne.symm hLF), by omega, fun H2 x J hF2 k2 => ?_⟩
                have hL2 : H2 L = some (.lst (rr.reverse.map V.ref)) := by
                  refine k2 _ _ ?_ hLF
                  rw [upd_same]
                  simp
                refine ⟨L, _, _, rfl, rfl, hL2, ?_, ?_⟩
                · have := Paired.length hrr
                  simp only [List.length_map, List.length_reverse]
                  have h9 : (1000 : Nat) < sizeLine := by decide
                  simp at hsl
                  omega
                · refine winv_push hLF nL ?_ hL2 ?_ J hF2 (by rw [Wa.link_length]; exact hFl) hz2 (by simp at hsl; omega)
                  · exact fun c o e n => k2 _ _ (kL _ _ (k _ _ e n) (fun z => by subst z; rw [nL] at e; cases e)) n
                  · rw [List.reverse_reverse]
                    exact Stack.keep (Stack.keep hrr kL hL) k2 (kL _ _ hFi (Ne.symm hLF))
        · rw [if_neg c4] at hz1
          refine ifF (by simp; omega) ?_
          dsimp only at hz1
          cases st with
          | nil => cases hz1
          | cons q0 r0 =>
            cases r0 with
            | nil => cases hz1
            | cons q1 r1 =>
              dsimp only at hz1
              have hz3 : z = ((twoOf pt.1 q0 q1 Fi).1 :: r1, s, (twoOf pt.1 q0 q1 Fi).2) := by
                unfold twoOf
                by_cases c2 : pt.1 = 2
                · rw [if_pos c2] at hz1 ⊢
                  cases hz1
                  rfl
                · rw [if_neg c2] at hz1 ⊢
                  cases hz1
                  rfl
              subst hz3
              cases har : as.reverse with
              | nil =>
                rw [har] at hst
                cases hst
              | cons t0 rr0 =>
                cases rr0 with
                | nil =>
                  rw [har] at hst
                  cases hst with
                  | cons _ hh => cases hh
                | cons t1 rr =>
                  rw [har] at hst
                  cases hst with
                  | cons ht0 hst1 =>
                    cases hst1 with
                    | cons ht1 hrr =>
                      have eas := last_ref har
                      have eas2 : as = rr.reverse ++ [t1] ++ [t0] := by rw [eas]; simp
                      clear eas
                      subst eas2
                      obtain ⟨d0, h0⟩ := ht0
                      obtain ⟨d1, h1⟩ := ht1
                      have kL : Keep L H' (upd H' L (.lst ((rr.reverse ++ [t1] ++ [t0]).map V.ref).dropLast)) := keep_upd
                      have e3 : ((rr.reverse ++ [t1] ++ [t0]).map V.ref).dropLast = (rr.reverse ++ [t1]).map V.ref := by simp
                      refine ⟨_, rfl, .inl ⟨rfl, _, SqL.of hL⟩, L, _, .ref t0, rfl, rfl, hL, by simp, ?_⟩
                      refine ⟨_, rfl, .inl ⟨rfl, _, SqL.of upd_same⟩, L, _, .ref t1, rfl, rfl, upd_same, by rw [e3]; simp, ?_⟩
                      rw [upd_upd]
                      have kL2 : Keep L H' (upd H' L (.lst ((rr.reverse ++ [t1] ++ [t0]).map V.ref).dropLast.dropLast)) := keep_upd
                      refine ⟨_, rfl, .inl ⟨rfl, _, SqL.of upd_same⟩, _, rfl, _, rfl, _, rfl, _, rfl, pt.1, t0, t1, aF, q0, q1, Fi, rfl, ⟨d0, kL2 _ _ h0 (ins_ne_lst h0 hL)⟩, ⟨d1, kL2 _ _ h1 (ins_ne_lst h1 hL)⟩, kL2 _ _ hFi (Ne.symm hLF), by omega, fun H2 x J hF2 k2 => ?_⟩
                      have hL2 : H2 L = some (.lst (rr.reverse.map V.ref)) := by
                        refine k2 _ _ ?_ hLF
                        rw [upd_same]
                        simp
                      refine ⟨L, _, _, rfl, rfl, hL2, ?_, ?_⟩
                      · have := Paired.length hrr
                        simp only [List.length_map, List.length_reverse]
                        have h9 : (1000 : Nat) < sizeLine := by decide
                        simp at hsl
                        omega
                      · refine winv_push hLF nL ?_ hL2 ?_ J hF2 ?_ hz2 (by simp at hsl; omega)
                        · exact fun c o e n => k2 _ _ (kL2 _ _ (k _ _ e n) (fun z => by subst z; rw [nL] at e; cases e)) n
                        · rw [List.reverse_reverse]
                          exact Stack.keep (Stack.keep hrr kL2 hL) k2 (kL2 _ _ hFi (Ne.symm hLF))
                        · exact hzl1.trans hFl
  · rintro σ H' ⟨as, st, s, Fi, v4, v5, v6, v7, rfl, e1, hL, hst, hsl, hFi, hFl, k⟩
    rw [List.length_map, hlen] at e1
    have e2 : ps.reverse.take ps.length = ps.reverse := by rw [← List.length_reverse, List.take_length]
    rw [e2, hrun] at e1
    cases e1
    cases har : as.reverse with
    | nil =>
      rw [har] at hst
      cases hst
    | cons t0 rr =>
      rw [har] at hst
      cases hst with
      | cons ht0 hrr =>
        cases hrr
        have eas := last_ref har
        subst eas
        obtain ⟨d0, h0⟩ := ht0
        refine ⟨_, rfl, .inl ⟨rfl, _, SqL.of hL⟩, L, _, .ref t0, rfl, rfl, hL, by simp, ?_⟩
        refine q _ t0 ⟨d0, keep_upd _ _ h0 (ins_ne_lst h0 hL)⟩ (keep_upd _ _ hFi (Ne.symm hLF)) ?_
        exact fun c o e n => keep_upd _ _ (k _ _ e n) (fun z => by subst z; rw [nL] at e; cases e)
end
end Wp

namespace Wp
open PySem PySem.Spec PyProof.Rows L2 Wn Wr
abbrev s_letters_in : Stmt := top 19
abbrev s_states_of_letter : Stmt := top 34
abbrev s_moves_of : Stmt := top 35
theorem paired_getR {α β : Type} {F : α → β → Prop} : ∀ {l : List α} {m : List β} {i : Nat} {y : β}, Paired F l m → m[i]? = some y → ∃ x, l[i]? = some x ∧ F x y
  | _, _, i, x, .nil, e => by simp at e
  | _, _, 0, x, .cons r t, e => by simp at e; subst e; exact ⟨_, rfl, r⟩
  | _, _, i + 1, x, .cons r t, e => by
    obtain ⟨y, h1, h2⟩ := paired_getR (i := i) t (by simpa using e)
    exact ⟨y, by simpa using h1, h2⟩
theorem Parts.same {K : PySem.W.Frag} {H H' : Hp} {a : Addr} {ps : List Wa.Part} (s : Same H H') (h : Parts K H a ps) : Parts K H' a ps := by
  obtain ⟨ts, h1, h2⟩ := h
  exact ⟨ts, s _ _ h1, paired_mono h2 fun t p q => same_tup s q⟩
theorem lettersIn_take {ps : List Wa.Part} {i : Nat} {p : Wa.Part} (h : ps[i]? = some p) : Wa.lettersIn (ps.take (i + 1)) = Wa.lettersIn (ps.take i) ++ (if p.1 = 1 then [p.2] else []) := by
  rw [List.take_succ, h]
  unfold Wa.lettersIn
  by_cases c : p.1 = 1
  · simp [List.filter_append, c]
  · simp [List.filter_append, c]
theorem lettersIn_le (ps : List Wa.Part) : (Wa.lettersIn ps).length ≤ ps.length := by
  unfold Wa.lettersIn
  rw [List.length_map]
  exact List.length_filter_le _ _
section
variable {P : Program} {w : World} {K : PySem.W.Frag} {mg : Str → Option Value} {base : Heap} {CP : Addr}
/-! letters_in -/
def spLetters (K : PySem.W.Frag) : Sp := fun vs H Q _ => ∃ (a : Addr) (ps : List Wa.Part), vs = [.ref a] ∧ Parts K H a ps ∧ ps.length ≤ 1000 ∧
  ∀ (H' : Hp) (p : Addr), Same H H' → H p = none → H' p = some (.lst ((Wa.lettersIn ps).map nv)) → Q (.ref p) H'
abbrev liN : List Str := ["parts", "kind", "letter"]
theorem scLetters : FnScope liN ["parts"] (defScope s_letters_in) := ⟨rfl, rfl, rfl, by decide +kernel, rfl, by decide +kernel, by decide +kernel⟩
theorem ok_letters {f : Addr} {fd : FuncData} {t1 : Tok} (F : Fun K "letters_in" "letters_in" s_letters_in f fd) (m1 : mg "LETTER" = some (.int 1 t1)) : FnOk P w K mg base CX0 1 f fd ["parts"] (spLetters K) := by
  refine F.ok scLetters (fun vs H Q E h => ?_) (fun cdv A outer s H vs Q E hr h => ?_)
  · obtain ⟨a, ps, rfl, _⟩ := h
    rfl
  refine ⟨_, pss_one (ps_ret (pe_lc (own := [("kind", 1), ("letter", 2)]) (g := gTup K 2 (gCons (gName 1) (gCons (gName 2) gNil))) (by rfl) scLetters.nd (pi_list (pv 0)) (blkOk_by (N := liN) (sc := defScope s_letters_in) (by decide +kernel))
      (fun _ _ _ _ _ => by exact pg_tup (n := 2) rfl (pgs_cons (pg_name (i := 1) scLetters.nd rfl (Or.inl rfl)) (pgs_cons (pg_name (i := 2) scLetters.nd rfl (Or.inl rfl)) pgs_nil)))
      (fun _ _ _ _ _ => pts_one (pt_cmpR op_eq (pv 1) (pe_gi m1) (nomark _))) (fun _ _ _ _ _ => pv 2))), ?_⟩
  obtain ⟨a, ps, rfl, ⟨ts, hq, hts⟩, hl, q⟩ := h
  have hlen : ts.length = ps.length := Paired.length hts
  refine ⟨_, rfl, a, rfl, ⟨_, SqL.of hq⟩, fun D nD => lc_list (K := K) (a := a) (xs := ts.map V.ref) (fun i H' => Same H H' ∧ H' D = some (.lst ((Wa.lettersIn (ps.take i)).map nv))) ⟨same_upd nD, upd_same⟩ (fun i H' _ ⟨s1, _⟩ => SqL.of (s1 _ _ hq)) ?_ ?_⟩
  · rintro i x H' hx ⟨s1, h1⟩
    rw [List.getElem?_map] at hx
    obtain ⟨t, ht, rfl⟩ := Option.map_eq_some_iff.mp hx
    obtain ⟨pt, hpt, htt⟩ := paired_get hts ht
    refine ⟨t, _, rfl, same_tup s1 htt, rfl, _, _, rfl, _, _, rfl, rfl, rfl, _, rfl, rfl, _, rfl, ?_⟩
    rw [lettersIn_take hpt]
    by_cases c : pt.1 = 1
    · refine ifT (by rw [c]; rfl) ⟨_, rfl, _, h1, ?_, fun b o e => ?_, ?_⟩
      · rw [List.length_map]
        have := lettersIn_le (ps.take i)
        rw [List.length_take] at this
        have h9 : (1000 : Nat) < sizeLine := by decide
        omega
      · rw [upd_ne (ne_of_none e nD)]
        exact s1 _ _ e
      · rw [if_pos c, upd_same, List.map_append]
        rfl
    · refine ifF (by simp; omega) ⟨s1, ?_⟩
      rw [if_neg c, List.append_nil]
      exact h1
  · rintro H' ⟨s1, h1⟩
    rw [List.length_map, hlen, List.take_length] at h1
    exact q H' D s1 nD h1
/-! states_of_letter -/
def spStates (K : PySem.W.Frag) : Sp := fun vs H Q _ => ∃ (a : Addr) (ls : List Nat) (c : Nat), vs = [.ref a, nv c] ∧ SqL K H a (ls.map nv) ∧ ls.length ≤ 1000 ∧ ∀ H', Same H H' → Q (nv (Wa.statesOf ls c)) H'
theorem scStates : FnScope ["letters", "letter", "states", "place", "other"] ["letters", "letter"] (defScope s_states_of_letter) := ⟨rfl, rfl, rfl, by decide +kernel, rfl, by decide +kernel, by decide +kernel⟩
theorem states_turn {c i : Nat} {ls : List Nat} {r : Nat} (h : ls[i]? = some r) (v : Nat) : Wa.statesFrom c i (ls.drop i) v = Wa.statesFrom c (i + 1) (ls.drop (i + 1)) (if r = c then v ||| 2 ^ (i + 1) else v) := by
  have hi : i < ls.length := (List.getElem?_eq_some_iff.mp h).1
  have e : ls[i] = r := (List.getElem?_eq_some_iff.mp h).2
  rw [List.drop_eq_getElem_cons hi, e]
  rfl
theorem ok_states {f : Addr} {fd : FuncData} (F : Fun K "states_of_letter" "states_of_letter" s_states_of_letter f fd) (B : Blt mg) : FnOk P w K mg base CX0 1 f fd ["letters", "letter"] (spStates K) := by
  refine F.ok scStates (fun vs H Q E h => ?_) (fun cdv A outer s H vs Q E hr h => ?_)
  · obtain ⟨a, ls, c, rfl, _⟩ := h
    rfl
  refine ⟨_, pss_cons (ps_set (i := 2) scStates.nd rfl (Or.inl rfl) pe_int)
    (pss_cons (ps_for PassesOwn.never rfl (pi_or (pi_enum (by rfl) B.enumerate (pa_cons (pv 0) pa_nil)) (pi_enuT (by rfl) B.enumerate (pa_cons (pv 0) pa_nil))) (pg_tup rfl (pgs_cons (pg_name (i := 3) scStates.nd rfl (Or.inl rfl)) (pgs_cons (pg_name (i := 4) scStates.nd rfl (Or.inl rfl)) pgs_nil)))
      (pss_one (ps_if (pt_cmpR op_eq (pv 4) (pv 1) (nomark _)) (pss_one (ps_aug (i := 2) scStates.nd rfl (Or.inl rfl) (pe_op op_shl1 pe_int (pe_op op_add (pv 3) pe_int)) ip_orN)) pss_nil)))
    (pss_one (ps_ret (pv 2)))), ?_⟩
  obtain ⟨a, ls, c, rfl, hq, hl, q⟩ := h
  refine Or.imp (fun z => ⟨_, rfl, a, _, rfl, z⟩) (fun z => ⟨_, rfl, a, _, rfl, z⟩) (enumA_for (.inl hq) (fun i σ H' => ∃ (r : Nat) (v1 v2 : Option V), σ = [some (.ref a), some (nv c), some (nv r), v1, v2] ∧ Same H H' ∧ Wa.statesFrom c i (ls.drop i) r = Wa.statesOf ls c)
    ⟨0, none, none, rfl, Same.refl H, rfl⟩ (fun i σ H' ⟨_, _, _, _, s1, _⟩ => s1) ?_ ?_)
  · rintro i y σ H' T hy ⟨r, v1, v2, rfl, s1, e2⟩ nT
    obtain ⟨z, hz, rfl⟩ := map_nv hy
    have hi : i < ls.length := (List.getElem?_eq_some_iff.mp hz).1
    have s2 : Same H (upd H' T (.tup [.int (i : Nat), nv z])) := s1.trans (same_upd nT)
    refine ⟨T, _, rfl, .inl (.inl upd_same), rfl, _, _, rfl, _, _, rfl, rfl, ?_⟩
    refine ⟨_, rfl, _, rfl, rfl, _, rfl, ?_⟩
    rw [states_turn hz] at e2
    by_cases cc : z = c
    · rw [if_pos cc] at e2
      refine ifT (by subst cc; simp) ?_
      exact ⟨_, rfl, _, rfl, _, _, rfl, rfl, i + 1, rfl, rfl, by omega, _, _, rfl, rfl, r ||| 2 ^ (i + 1), _, _, rfl, s2, e2⟩
    · rw [if_neg cc] at e2
      refine ifF (by simp; omega) ?_
      exact ⟨r, _, _, rfl, s2, e2⟩
  · rintro σ H' ⟨r, v1, v2, rfl, s1, e2⟩
    rw [List.length_map, List.drop_length] at e2
    have e3 : r = Wa.statesOf ls c := e2
    refine ⟨_, rfl, ?_⟩
    rw [e3]
    exact q H' s1
end
end Wp

namespace Wp
open PySem PySem.Spec PyProof.Rows L2 Wn Wr
abbrev s_Machine_init : Stmt := inClass (top 24) 0
abbrev s_machine_of : Stmt := top 36
section
variable {P : Program} {w : World} {K : PySem.W.Frag} {mg : Str → Option Value} {base : Heap} {CP CM : Addr}
/-- the moves of the letters below 2 + n -/
def mvRows (ls F : List Nat) (c : Nat) : List Nat := F.map fun row => row &&& Wa.statesOf ls c
/-- the dict of the moves: its lists at the addresses ads, for the letters from 2 on -/
def mvKvs (ads : List Addr) : List (L2.Key × V) := ads.mapIdx fun i l => (Sum.inl ((2 + i : Nat) : Int), V.ref l)
def MovesAt (H : Hp) (d : Addr) (mv : Nat → List Nat) (ads : List Addr) : Prop := H d = some (.dK (mvKvs ads)) ∧ ∀ i l, ads[i]? = some l → H l = some (.lst ((mv (2 + i)).map nv))
theorem valV_mvKvs {ads : List Addr} : ∀ (j : Nat) (k : Int), valV (ads.mapIdx fun i l => ((Sum.inl ((j + i : Nat) : Int) : L2.Key), V.ref l)) (Sum.inl k) = if (j : Int) ≤ k then (ads[(k - j).toNat]?).map V.ref else none := by
  induction ads with
  | nil => intro j k; simp [valV]
  | cons a ads ih =>
    intro j k
    rw [List.mapIdx_cons]
    by_cases h : (j : Int) = k
    · subst h
      rw [valV_pos (by simp)]
      simp
    · rw [valV_neg (by simp; omega)]
      have e : (ads.mapIdx fun i l => ((Sum.inl ((j + (i + 1) : Nat) : Int) : L2.Key), V.ref l)) = ads.mapIdx fun i l => ((Sum.inl (((j + 1) + i : Nat) : Int) : L2.Key), V.ref l) := by
        congr 1
        funext i l
        have : j + (i + 1) = j + 1 + i := by omega
        rw [this]
      rw [e, ih (j + 1) k]
      by_cases h2 : (j : Int) ≤ k
      · rw [if_pos h2, if_pos (by omega)]
        have : (k - j).toNat = (k - ((j + 1 : Nat) : Int)).toNat + 1 := by omega
        rw [this, List.getElem?_cons_succ]
      · rw [if_neg h2, if_neg (by omega)]
theorem valV_mvKvs_none {ads : List Addr} {i : Nat} (h : ads.length ≤ i) : valV (ads.mapIdx fun i l => ((Sum.inl ((2 + i : Nat) : Int) : L2.Key), V.ref l)) (Sum.inl ((2 + i : Nat) : Int)) = none := by
  rw [valV_mvKvs 2]
  rw [if_pos (by omega), List.getElem?_eq_none (by omega)]
  rfl
theorem valV_moves {ads : List Addr} {c : Nat} {l : Addr} (h : 2 ≤ c) (hl : ads[c - 2]? = some l) : valV (mvKvs ads) (Sum.inl (c : Int)) = some (.ref l) := by
  unfold mvKvs
  rw [valV_mvKvs 2, if_pos (by omega)]
  have : ((c : Int) - (2 : Nat)).toNat = c - 2 := by omega
  rw [this, hl]
  rfl
def spMoves (K : PySem.W.Frag) : Sp := fun vs H Q _ => ∃ (a aF : Addr) (ls F : List Nat), vs = [.ref a, .ref aF] ∧ SqL K H a (ls.map nv) ∧ ls.length ≤ 1000 ∧ SqL K H aF (F.map nv) ∧ F.length ≤ 1000 ∧
  ∀ (H' : Hp) (d : Addr) (ads : List Addr), ads.length = 4 → MovesAt H' d (mvRows ls F) ads → (∀ l ∈ ads, H l = none) → Same H H' → Q (.ref d) H'
abbrev moN : List Str := ["letters", "followers", "moves", "letter", "states", "row"]
theorem scMoves : FnScope moN ["letters", "followers"] (defScope s_moves_of) := ⟨rfl, rfl, rfl, by decide +kernel, rfl, by decide +kernel, by decide +kernel⟩
abbrev StatesM (P : Program) (w : World) (K : PySem.W.Frag) (mg : Str → Option Value) (base : Heap) (f : Addr) (fd : FuncData) : Prop := DefM P w K mg base CX0 1 "states_of_letter" ["letters", "letter"] (spStates K) f fd
theorem ok_moves {f fS : Addr} {fd fdS : FuncData} {t2 t5 : Tok} (F : Fun K "moves_of" "moves_of" s_moves_of f fd) (B : Blt mg) (S1 : StatesM P w K mg base fS fdS) (m2 : mg "LOWEST_LETTER" = some (.int 2 t2)) (m5 : mg "HIGHEST_LETTER" = some (.int 5 t5)) : FnOk P w K mg base CX0 2 f fd ["letters", "followers"] (spMoves K) := by
  refine F.ok scMoves (fun vs H Q E h => ?_) (fun cdv A outer s H vs Q E hr h => ?_)
  · obtain ⟨a, aF, ls, F, rfl, _⟩ := h
    rfl
  refine ⟨_, pss_cons (ps_set (i := 2) scMoves.nd rfl (Or.inl rfl) pe_dnewK)
    (pss_cons (ps_for PassesOwn.never rfl (pi_range2 rfl B.range (pa_cons (pe_gi m2) (pa_cons (pe_op op_add (pe_gi m5) pe_int) pa_nil))) (pg_name (i := 3) scMoves.nd rfl (Or.inl rfl))
      (pss_cons (ps_set (i := 4) scMoves.nd rfl (Or.inr rfl) (pe_call S1.ok hr rfl S1.g S1.kp S1.b .nil pass0 (pa_cons (pv 0) (pa_cons (pv 3) pa_nil))))
      (pss_one (ps_dput (hu_of hr) (pv 2) (pv 3) (pe_lc (own := [("row", 5)]) (g := gName 5) (tt := tYes) (by rfl) scMoves.nd (pi_list (pv 1)) (blkOk_by (N := moN) (sc := defScope s_moves_of) (by decide +kernel))
        (fun _ _ _ _ _ => pg_name (i := 5) scMoves.nd rfl (Or.inl rfl)) (fun _ _ _ _ _ => pts_nil) (fun _ _ _ _ _ => pe_op op_andN (pv 5) (pv 4))) rfl))))
    (pss_one (ps_ret (pv 2)))), ?_⟩
  obtain ⟨a, aF, ls, F, rfl, ha, hl, hF, hFl, q⟩ := h
  intro d nd
  refine ⟨_, _, rfl, rfl, 2, 6, rfl, ⟨by decide, by decide, by decide, by decide⟩, ?_⟩
  refine for_range (lo := 2) (n := 4) (fun i σ H' => ∃ (ads : List Addr) (v3 v4 v5 : Option V), σ = [some (.ref a), some (.ref aF), some (.ref d), v3, v4, v5] ∧ ads.length = i ∧ MovesAt H' d (mvRows ls F) ads ∧ (∀ l ∈ ads, H l = none) ∧ Same H H') ⟨[], none, none, none, rfl, rfl, ⟨upd_same, fun i l h => by simp at h⟩, fun l hl => (nomatch hl), same_upd nd⟩ ?_ ?_
  · rintro i σ H' hi ⟨ads, v3, v4, v5, rfl, hads, ⟨hd, hads2⟩, hnew, s1⟩
    have e2 : (V.int (2 + (i : Int))) = nv (2 + i) := by congr 1
    rw [e2]
    refine ⟨_, rfl, _, rfl, a, ls, 2 + i, rfl, s1.seq ha, hl, fun H1 s2 => ?_⟩
    refine ⟨_, rfl, aF, rfl, ⟨_, (s1.trans s2).seq hF⟩, fun D nD => lc_list (K := K) (a := aF) (xs := F.map nv) (fun j H2 => Same H1 H2 ∧ H2 D = some (.lst (((mvRows ls F (2 + i)).take j).map nv))) ⟨same_upd nD, upd_same⟩ (fun j H2 _ ⟨s3, _⟩ => ((s1.trans s2).trans s3).seq hF) ?_ ?_⟩
    · rintro j x H2 hx ⟨s3, h3⟩
      obtain ⟨r, hr2, rfl⟩ := map_nv hx
      have hj : j < F.length := (List.getElem?_eq_some_iff.mp hr2).1
      refine ⟨rfl, ?_⟩
      refine ⟨_, rfl, _, rfl, r, _, rfl, rfl, _, h3, ?_, fun b o e => ?_, ?_⟩
      · rw [List.length_map, List.length_take]
        have h9 : (1000 : Nat) < sizeLine := by decide
        omega
      · rw [upd_ne (ne_of_none e nD)]
        exact s3 _ _ e
      · have : (mvRows ls F (2 + i))[j]? = some (r &&& Wa.statesOf ls (2 + i)) := by
          unfold mvRows
          rw [List.getElem?_map, hr2]
          rfl
        rw [upd_same, List.take_succ, this, List.map_append]
        rfl
    · rintro H2 ⟨s3, h3⟩
      have hfull : (mvRows ls F (2 + i)).take (F.map nv).length = mvRows ls F (2 + i) := by
        apply List.take_of_length_le
        unfold mvRows
        simp
      rw [hfull] at h3
      have hdH2 : H2 d = some (.dK (mvKvs ads)) := (s2.trans s3) _ _ hd
      refine ⟨_, rfl, _, rfl, d, _, rfl, DPut.k (k := Sum.inl ((2 + i : Nat) : Int)) hdH2 ?_, ?_⟩
      · unfold mvKvs
        rw [List.length_mapIdx, hads]
        have h9 : (1000 : Nat) < sizeLine := by decide
        omega
      · have hDd : D ≠ d := fun z => by
          subst z
          rw [s2 _ _ hd] at nD
          cases nD
        refine ⟨ads ++ [D], _, _, _, rfl, by simp [hads], ⟨?_, fun j l hj => ?_⟩, fun l hl => ?_, fun b o e => ?_⟩
        · rw [upd_same, putK_new]
          · unfold mvKvs
            rw [List.mapIdx_append]
            simp [hads]
          · unfold mvKvs
            rw [valV_mvKvs_none]
            omega
        · by_cases hj2 : j < ads.length
          · rw [List.getElem?_append_left hj2] at hj
            have h7 := (s2.trans s3) _ _ (hads2 j l hj)
            rw [upd_ne (ne_of h7 hdH2 (fun z => nomatch z))]
            exact h7
          · have hj3 : j = ads.length := by
              have := (List.getElem?_eq_some_iff.mp hj).1
              simp at this
              omega
            subst hj3
            rw [List.getElem?_append_right (Nat.le_refl _), Nat.sub_self] at hj
            cases hj
            rw [upd_ne hDd, hads]
            exact h3
        · rcases List.mem_append.mp hl with hl | hl
          · exact hnew l hl
          · rw [List.mem_singleton] at hl
            subst hl
            exact (s1.trans s2).free nD
        · rw [upd_ne (fun z => by subst z; rw [nd] at e; cases e)]
          exact ((s1.trans s2).trans s3) _ _ e
  · rintro σ H' ⟨ads, v3, v4, v5, rfl, hads, hM, hnew, s1⟩
    exact ⟨_, rfl, q H' d ads hads hM hnew s1⟩
/-! Machine -/
def mcF (n fin : Nat) (d : Addr) : List (Str × V) := [("letter_count", nv n), ("state_count", nv (n + 1)), ("moves", .ref d), ("final", nv fin)]
structure MachAt (C : Addr) (H : Hp) (m : Addr) (M : Wa.Mach) : Prop where
  ex : ∃ (dx d : Addr) (ads : List Addr), H m = some (.ins C dx (mcF M.n M.fin d)) ∧ ads.length = 4 ∧ MovesAt H d M.mv ads
/-- the same, and the list at T is none of its rows -/
structure MachN (C : Addr) (H : Hp) (m : Addr) (M : Wa.Mach) (T : Addr) : Prop where
  ex : ∃ (dx d : Addr) (ads : List Addr), H m = some (.ins C dx (mcF M.n M.fin d)) ∧ ads.length = 4 ∧ MovesAt H d M.mv ads ∧ T ∉ ads
theorem MachN.at {C : Addr} {H : Hp} {m : Addr} {M : Wa.Mach} {T : Addr} (h : MachN C H m M T) : MachAt C H m M := by
  obtain ⟨dx, d, ads, h1, h2, h3, _⟩ := h.ex
  exact ⟨dx, d, ads, h1, h2, h3⟩
theorem MachN.same {C : Addr} {H H' : Hp} {m : Addr} {M : Wa.Mach} {T : Addr} (s : Same H H') (h : MachN C H m M T) : MachN C H' m M T := by
  obtain ⟨dx, d, ads, h1, h2, ⟨h3, h4⟩, h5⟩ := h.ex
  exact ⟨dx, d, ads, s _ _ h1, h2, ⟨s _ _ h3, fun i l e => s _ _ (h4 i l e)⟩, h5⟩
theorem MachAt.same {C : Addr} {H H' : Hp} {m : Addr} {M : Wa.Mach} (s : Same H H') (h : MachAt C H m M) : MachAt C H' m M := by
  obtain ⟨dx, d, ads, h1, h2, h3, h4⟩ := h.ex
  exact ⟨dx, d, ads, s _ _ h1, h2, s _ _ h3, fun i l e => s _ _ (h4 i l e)⟩
theorem mcF_lc {n fin : Nat} {d : Addr} : (mcF n fin d).lookup ("letter_count" : Str) = some (nv n) := lk_here
theorem mcF_sc {n fin : Nat} {d : Addr} : (mcF n fin d).lookup ("state_count" : Str) = some (nv (n + 1)) := (lk_past (by decide +kernel)).trans lk_here
theorem mcF_mv {n fin : Nat} {d : Addr} : (mcF n fin d).lookup ("moves" : Str) = some (.ref d) := (lk_past (by decide +kernel)).trans ((lk_past (by decide +kernel)).trans lk_here)
theorem mcF_fin {n fin : Nat} {d : Addr} : (mcF n fin d).lookup ("final" : Str) = some (nv fin) := (lk_past (by decide +kernel)).trans ((lk_past (by decide +kernel)).trans ((lk_past (by decide +kernel)).trans lk_here))
theorem mcF_new (n fin : Nat) (d : Addr) : putF "final" (nv fin) (putF "moves" (.ref d) (putF "state_count" (nv (n + 1)) (putF "letter_count" (nv n) []))) = mcF n fin d := by
  repeat (first | rw [put_nil] | rw [put_past (by decide +kernel)])
  rfl
abbrev MachT (K : PySem.W.Frag) (mg : Str → Option Value) (C : Addr) : Prop := ClsT K mg "Machine" C ["letter_count", "state_count", "moves", "final"]
theorem MachT.n1 (T : MachT K mg CM) : NoAttr K CM "letter_count" := T.no _ (by simp)
theorem MachT.n2 (T : MachT K mg CM) : NoAttr K CM "state_count" := T.no _ (by simp)
theorem MachT.n3 (T : MachT K mg CM) : NoAttr K CM "moves" := T.no _ (by simp)
theorem MachT.n4 (T : MachT K mg CM) : NoAttr K CM "final" := T.no _ (by simp)
def spMachInit (C : Addr) : Sp := fun vs H Q _ => ∃ (p dx d : Addr) (n fin : Nat), vs = [.ref p, nv n, .ref d, nv fin] ∧ H p = some (.ins C dx []) ∧
  ∀ H' : Hp, H' p = some (.ins C dx (mcF n fin d)) → Keep p H H' → Q .non H'
theorem scMachInit : FnScope ["self", "letter_count", "moves", "final"] ["self", "letter_count", "moves", "final"] (defScope s_Machine_init) := ⟨rfl, rfl, rfl, by decide +kernel, rfl, by decide +kernel, by decide +kernel⟩
theorem ok_machInit {f : Addr} {fd : FuncData} (F : Fun K "__init__" "Machine.__init__" s_Machine_init f fd) (T : MachT K mg CM) : FnOk P w K mg base CX0 1 f fd ["self", "letter_count", "moves", "final"] (spMachInit CM) := by
  refine F.ok scMachInit (fun vs H Q E h => ?_) (fun cdv A outer s H vs Q E hr h => ?_)
  · obtain ⟨p, dx, d, n, fin, rfl, _⟩ := h
    rfl
  refine ⟨_, pss_cons (ps_fld (pv 0) (pv 1) rfl) (pss_cons (ps_fld (pv 0) (pe_op op_add (pv 1) pe_int) rfl) (pss_cons (ps_fld (pv 0) (pv 2) rfl) (pss_one (ps_fld (pv 0) (pv 3) rfl)))), ?_⟩
  obtain ⟨p, dx, d, n, fin, rfl, hp, k⟩ := h
  refine ⟨_, rfl, _, rfl, p, CM, dx, [], rfl, hp, T.cl, MachT.n1 T, (by show 0 < 1000; decide), ?_⟩
  refine ⟨_, rfl, _, _, rfl, rfl, _, rfl, p, CM, dx, _, rfl, upd_same, T.cl, MachT.n2 T, (by show 1 < 1000; decide), ?_⟩
  refine ⟨_, rfl, _, rfl, p, CM, dx, _, rfl, upd_same, T.cl, MachT.n3 T, (by show 2 < 1000; decide), ?_⟩
  refine ⟨_, rfl, _, rfl, p, CM, dx, _, rfl, upd_same, T.cl, MachT.n4 T, (by show 3 < 1000; decide), ?_⟩
  refine k _ (Eq.trans upd_same (congrArg (fun q => some (HO.ins CM dx q)) (mcF_new n fin d))) fun c o e hb => ?_
  rw [upd_ne hb, upd_ne hb, upd_ne hb, upd_ne hb]
  exact e
abbrev MachM (P : Program) (w : World) (K : PySem.W.Frag) (mg : Str → Option Value) (base : Heap) (C fI : Addr) (fdI : FuncData) : Prop :=
  ClsM P w K mg base CX0 1 "Machine" C ["letter_count", "state_count", "moves", "final"] ["self", "letter_count", "moves", "final"] (spMachInit C) fI fdI
/-! machine_of -/
def spMachine (K : PySem.W.Frag) (C : Addr) : Sp := fun vs H Q _ => ∃ (a : Addr) (e : Gq02.E), vs = [.ref a] ∧ Wa.Real e ∧ Parts K H a (Wa.flat e) ∧ (Wa.flat e).length ≤ 100 ∧
  ∀ (H' : Hp) (m : Addr), MachAt C H' m (Wa.mach e) → (∀ T o, H T = some o → MachN C H' m (Wa.mach e) T) → Same H H' → Q (.ref m) H'
theorem scMachine : FnScope ["parts", "letters", "followers", "whole", "final"] ["parts"] (defScope s_machine_of) := ⟨rfl, rfl, rfl, by decide +kernel, rfl, by decide +kernel, by decide +kernel⟩
abbrev LettersM (P : Program) (w : World) (K : PySem.W.Frag) (mg : Str → Option Value) (base : Heap) (f : Addr) (fd : FuncData) : Prop := DefM P w K mg base CX0 1 "letters_in" ["parts"] (spLetters K) f fd
abbrev WholeM (P : Program) (w : World) (K : PySem.W.Frag) (mg : Str → Option Value) (base : Heap) (CP f : Addr) (fd : FuncData) : Prop := DefM P w K mg base CX0 5 "whole_piece" ["parts", "followers"] (spWhole K CP) f fd
abbrev MovesM (P : Program) (w : World) (K : PySem.W.Frag) (mg : Str → Option Value) (base : Heap) (f : Addr) (fd : FuncData) : Prop := DefM P w K mg base CX0 2 "moves_of" ["letters", "followers"] (spMoves K) f fd
theorem steps_le (e : Gq02.E) : Gq02.steps e ≤ (Wa.flat e).length := by
  rw [← Wa.lets_length, ← Wa.lettersIn_flat]
  exact lettersIn_le _
theorem rep_zero (n : Nat) : (List.replicate n [nv 0]).flatten = (List.replicate n 0).map nv := by
  induction n with
  | zero => rfl
  | succ n ih => rw [List.replicate_succ, List.flatten_cons, ih]; rfl
theorem ok_machine {f fL fW fM fI : Addr} {fd fdL fdW fdM fdI : FuncData} {tb : Tok} (F : Fun K "machine_of" "machine_of" s_machine_of f fd) (B : Blt mg) (L1 : LettersM P w K mg base fL fdL) (W1 : WholeM P w K mg base CP fW fdW) (V1 : MovesM P w K mg base fM fdM) (M : MachM P w K mg base CM fI fdI) (TP : PieceT K mg CP)
    (mb : mg "BEGINNING" = some (.int 1 tb)) : FnOk P w K mg base CX0 6 f fd ["parts"] (spMachine K CM) := by
  refine F.ok scMachine (fun vs H Q E h => ?_) (fun cdv A outer s H vs Q E hr h => ?_)
  · obtain ⟨a, e, rfl, _⟩ := h
    rfl
  have hr1 : Room 1 _ := hr.mono (by decide)
  have hr2 : Room 2 _ := hr.mono (by decide)
  refine ⟨_, pss_cons (ps_set (i := 1) scMachine.nd rfl (Or.inl rfl) (pe_call L1.ok hr1 rfl L1.g L1.kp L1.b .nil pass0 (pa_cons (pv 0) pa_nil)))
    (pss_cons (ps_set (i := 2) scMachine.nd rfl (Or.inl rfl) (pe_op op_rep (pe_lst (pa_cons pe_int pa_nil)) (pe_op op_add (pe_callB call_len_seq (by rfl) B.len PySem.boot_len (pa_cons (pv 1) pa_nil)) pe_int)))
    (pss_cons (ps_set (i := 3) scMachine.nd rfl (Or.inl rfl) (pe_call W1.ok hr rfl W1.g W1.kp W1.b .nil pass0 (pa_cons (pv 0) (pa_cons (pv 2) pa_nil))))
    (pss_cons (ps_asg (pe_fld (pv 3) rfl) (pg_sub (pv 2) pe_int set_list))
    (pss_cons (ps_set (i := 4) scMachine.nd rfl (Or.inl rfl) (pe_ifExp (pt_val (pe_fld (pv 3) rfl)) (pe_op op_orN (pe_fld (pv 3) rfl) (pe_gi mb)) (pe_fld (pv 3) rfl)))
    (pss_one (ps_ret (pe_make M.m M.ok hr2 rfl M.T.g M.b .nil pass0 (pa_cons (pe_callB call_len_seq (by rfl) B.len PySem.boot_len (pa_cons (pv 1) pa_nil)) (pa_cons (pe_call V1.ok hr2 rfl V1.g V1.kp V1.b .nil pass0 (pa_cons (pv 1) (pa_cons (pv 2) pa_nil))) (pa_cons (pv 4) pa_nil)))))))))), ?_⟩
  obtain ⟨a, e, rfl, hR, hP, hlen, q⟩ := h
  refine ⟨_, rfl, a, _, rfl, hP, by omega, fun H1 aL s1 nL hL => ?_⟩
  rw [Wa.lettersIn_flat] at hL
  have hst := steps_le e
  have hll := Wa.lets_length e
  refine ⟨by decide, fun p1 np1 => ?_⟩
  have s1' : Same H1 (upd H1 p1 (.lst [nv 0])) := same_upd np1
  refine ⟨_, rfl, aL, _, rfl, .inl (SqL.of (s1' _ _ hL)), _, _, rfl, rfl, p1, _, [nv 0], rfl, rfl, upd_same, ?_, ?_, ?_, fun aF naF => ?_⟩
  · omega
  · rw [List.length_map]; omega
  · rw [List.length_map]
    have h9 : (1000 : Nat) < sizeLine := by decide
    simp
    omega
  have eF : ((((Wa.lets e).map nv).length : Int) + 1).toNat = Gq02.steps e + 1 := by
    rw [List.length_map, hll]
    omega
  rw [eF, rep_zero]
  have s2 : Same H1 (upd (upd H1 p1 (.lst [nv 0])) aF (.lst ((List.replicate (Gq02.steps e + 1) 0).map nv))) := s1'.trans (same_upd naF)
  have naF1 : H1 aF = none := s1'.free naF
  have naH : H aF = none := s1.free naF1
  have haF : a ≠ aF := by
    intro z
    obtain ⟨ts, hq, _⟩ := hP
    rw [z, naH] at hq
    cases hq
  have hg := Wa.gluOf_ok e
  refine ⟨_, rfl, _, rfl, a, aF, Wa.flat e, List.replicate (Gq02.steps e + 1) 0, (Wa.gluOf e).2, (Wa.gluOf e).1, Gq02.steps e - Gq02.steps e, rfl, Parts.same (s1.trans s2) hP, haF, by omega, upd_same, by simp, by simp; omega, ?_, fun H2 aW hW hF2 k2 => ?_⟩
  · rw [List.length_replicate]
    exact Wa.prun_flat e [] (Gq02.steps e) _ hR (Nat.le_refl _)
  obtain ⟨dW, hW⟩ := hW
  have hL2 : H2 aL = some (.lst ((Wa.lets e).map nv)) := k2 _ _ (s2 _ _ hL) (fun z => by rw [← z, hL] at naF1; cases naF1)
  refine ⟨_, rfl, aW, CP, dW, _, _, rfl, hW, TP.cl, PieceT.n2 TP, pcF_b _, _, rfl, aF, _, _, 0, rfl, rfl, hF2, ixN_nat (by rw [List.length_map, hg.len]; simp), ?_⟩
  have hset : ((Wa.gluOf e).2.map nv).set 0 (nv (Wa.gluOf e).1.b) = (Wa.followers e).map nv := by
    unfold Wa.followers
    rw [List.map_set]
  rw [hset]
  have k3 : Keep aF H2 (upd H2 aF (.lst ((Wa.followers e).map nv))) := keep_upd
  have hW3 := k3 _ _ hW (ins_ne_lst hW hF2)
  have hL3 := k3 _ _ hL2 (fun z => by rw [← z, hL] at naF1; cases naF1)
  have sH : Same H (upd H2 aF (.lst ((Wa.followers e).map nv))) := fun b o eo => k3 _ _ (k2 _ _ (s2 _ _ (s1 _ _ eo)) (fun z => by subst z; rw [naH] at eo; cases eo)) (fun z => by subst z; rw [naH] at eo; cases eo)
  have hfl := Wa.followers_length e
  have fin : ∀ (x : Nat), x = (Wa.mach e).fin → ∀ (H4 : Hp), H4 = upd H2 aF (.lst ((Wa.followers e).map nv)) → ∀ (d : Addr) (ads : List Addr) (H5 : Hp), ads.length = 4 → MovesAt H5 d (mvRows (Wa.lets e) (Wa.followers e)) ads → (∀ l ∈ ads, H l = none) → Same H4 H5 → ∀ x' dx, H5 x' = none → H5 dx = none → dx ≠ x' →
      spMachInit CM [.ref x', nv (Gq02.steps e), .ref d, nv x] (upd (upd H5 dx (.own x')) x' (.ins CM dx [])) (fun v H6 => v = .non ∧ Q (.ref x') H6) E0 := by
    intro x hx H4 e4 d ads H5 hads hM hnew s5 x' dx nx nd ne
    refine ⟨x', dx, d, _, _, rfl, upd_same, fun H6 hx' k6 => ⟨rfl, ?_⟩⟩
    have s6 : Same H5 H6 := Same.made nx nd k6
    subst e4
    have ex' : H6 x' = some (.ins CM dx (mcF (Wa.mach e).n (Wa.mach e).fin d)) := by
      rw [hx', hx]
      rfl
    refine q H6 x' ⟨dx, d, ads, ex', hads, s6 _ _ hM.1, fun i l hl => s6 _ _ (hM.2 i l hl)⟩ (fun T o hT => ⟨dx, d, ads, ex', hads, ⟨s6 _ _ hM.1, fun i l hl => s6 _ _ (hM.2 i l hl)⟩, fun z => ?_⟩) ((sH.trans s5).trans s6)
    rw [hnew T z] at hT
    cases hT
  refine ⟨_, rfl, aW, CP, dW, _, _, rfl, hW3, TP.cl, PieceT.n1 TP, pcF_stay _, _, rfl, ?_⟩
  have el : V.int ((((Wa.lets e).map nv).length : Nat) : Int) = nv (Gq02.steps e) := by rw [List.length_map, hll]
  rcases Bool.eq_false_or_eq_true (Wa.gluOf e).1.stay with c1 | c1
  · refine ifT c1 ⟨_, rfl, aW, CP, dW, _, _, rfl, hW3, TP.cl, PieceT.n3 TP, pcF_e _, (Wa.gluOf e).1.e, 1, rfl, rfl, _, rfl, aL, _, rfl, .inl (SqL.of hL3), _, rfl, _, rfl, aL, aF, Wa.lets e, Wa.followers e, rfl, SqL.of hL3, by omega, SqL.of upd_same, by omega, fun H5 d ads hads hM hnw s5 => ⟨_, rfl, ?_⟩⟩
    rw [el]
    exact fin _ (by show _ = (if _ then _ else _); rw [if_pos c1]) _ rfl d ads H5 hads hM (fun l hl => sH.free (hnw l hl)) s5
  · refine ifF (by rw [c1]; decide) ⟨_, rfl, aW, CP, dW, _, _, rfl, hW3, TP.cl, PieceT.n3 TP, pcF_e _, _, rfl, aL, _, rfl, .inl (SqL.of hL3), _, rfl, _, rfl, aL, aF, Wa.lets e, Wa.followers e, rfl, SqL.of hL3, by omega, SqL.of upd_same, by omega, fun H5 d ads hads hM hnw s5 => ⟨_, rfl, ?_⟩⟩
    rw [el]
    exact fin _ (by show _ = (if _ then _ else _); rw [if_neg (by rw [c1]; decide)]) _ rfl d ads H5 hads hM (fun l hl => sH.free (hnw l hl)) s5
end
end Wp

namespace Wp
open PySem PySem.Spec PyProof.Rows L2 Wn Wr
abbrev s_view_of_no_letters : Stmt := top 41
abbrev s_any_number_of_times : Stmt := top 42
abbrev s_view_one_letter_on : Stmt := top 43
abbrev s_view_leads_along : Stmt := top 44
/-! a written dict whose keys are whole numbers -/
structure WDict (K : PySem.W.Frag) (d : Addr) (es : Array DictEntry) : Prop where
  at_ : ∃ n, K.lookup d = some ⟨.type "dict", none, .dict es n, #[]⟩
  keys : ∀ e ∈ es, ∃ (k : Int) (t : Tok), e.key = .int k t ∧ e.hash = hashInt k
theorem wdict_map {P : Program} {w : World} {K : PySem.W.Frag} {d : Addr} {es : Array DictEntry} {h : Heap} (X : K.In h) (D : WDict K d es) : h.MapOf (intKind P w) d (findBy Value.isInt es) := by
  obtain ⟨n, e⟩ := D.at_
  refine ⟨_, es, n, X _ _ e, ⟨rfl, rfl, rfl⟩, rfl, fun x hx => ?_, fun k => rfl⟩
  obtain ⟨k, t, h1, h2⟩ := D.keys x hx
  exact ⟨k, by rw [h1]; exact intKind_is P w k t, h2⟩
def tWGet (d : Addr) (es : Array DictEntry) (td ty : TE) : TE := fun σ H Q => td σ H fun x H1 => ty σ H1 fun y H2 => ∃ (k : Int) (u : Value) (v : V), x = .ref d ∧ y = .int k ∧ findBy Value.isInt es k = some u ∧ RelV v u ∧ Q v H2
theorem pe_wget {X : Cx} {o i : Expr} {pos : Pos} {td ty : TE} {d : Addr} {es : Array DictEntry} (D : WDict X.K d es) (ho : PE X o td) (hi : PE X i ty) (hs : NoSl i) : PE X (.Subscript o i pos) (tWGet d es td ty) := by
  refine ⟨fun pins s σ H Q I h => ?_⟩
  refine subD_of PySem.F.slot_dict_getitem.lookup hs (thn (ho.run pins s σ H _ I h) fun u s1 ⟨x, H1, I1, rx, q1⟩ => thn (hi.run pins s1 σ H1 _ I1 q1) fun iv s2 ⟨y, H2, I2, ry, k, u2, v, ex, ey, e, r, q2⟩ => ?_)
  subst ex ey
  obtain rfl : u = .ref d := rx
  obtain ⟨t, rfl⟩ := ry
  have hm := wdict_map (P := X.prog) (w := X.w) I2.kIn D
  exact ⟨hm.typeIs, wpAny_getItem_of (intKind_is X.prog X.w k t) hm e ⟨v, H2, I2.tok _, r, q2⟩⟩
structure OthT (K : PySem.W.Frag) (mg : Str → Option Value) (d : Addr) (es : Array DictEntry) : Prop where
  g : mg "OTHER_DIRECTION" = some (.ref d)
  D : WDict K d es
  get : ∀ c : Nat, c ∈ Gq02.letters → ∃ t, findBy Value.isInt es (c : Int) = some (.int ((Gq02.turned c : Nat) : Int) t)
/-! views -/
def ViewAt (H : Hp) (a : Addr) (v : Wa.View) : Prop := ∃ r, H a = some (.tup [.ref r, nv v.2]) ∧ H r = some (.tup (v.1.map nv))
theorem ViewAt.same {H H' : Hp} {a : Addr} {v : Wa.View} (s : Same H H') (h : ViewAt H a v) : ViewAt H' a v := by
  obtain ⟨r, h1, h2⟩ := h
  exact ⟨r, s _ _ h1, s _ _ h2⟩
section
variable {P : Program} {w : World} {K : PySem.W.Frag} {mg : Str → Option Value} {base : Heap} {CM : Addr}
/-! view_of_no_letters -/
def spView0 (C : Addr) : Sp := fun vs H Q _ => ∃ (m : Addr) (M : Wa.Mach), vs = [.ref m] ∧ MachAt C H m M ∧ M.n ≤ 100 ∧ ∀ (H' : Hp) (a : Addr), ViewAt H' a (Wa.view0 (M.n + 1)) → Same H H' → Q (.ref a) H'
abbrev v0N : List Str := ["machine", "returns", "state"]
theorem scView0 : FnScope v0N ["machine"] (defScope s_view_of_no_letters) := ⟨rfl, rfl, rfl, by decide +kernel, rfl, by decide +kernel, by decide +kernel⟩
theorem ok_view0 {f : Addr} {fd : FuncData} {tb : Tok} (F : Fun K "view_of_no_letters" "view_of_no_letters" s_view_of_no_letters f fd) (B : Blt mg) (T : MachT K mg CM) (mb : mg "BEGINNING" = some (.int 1 tb)) : FnOk P w K mg base CX0 1 f fd ["machine"] (spView0 CM) := by
  refine F.ok scView0 (fun vs H Q E h => ?_) (fun cdv A outer s H vs Q E hr h => ?_)
  · obtain ⟨m, M, rfl, _⟩ := h
    rfl
  refine ⟨_, pss_cons (ps_setLc (i := 1) (own := [("state", 2)]) (g := gName 2) (tt := tYes) (by rfl) scView0.nd rfl rfl (sw_true rfl rfl rfl (by decide +kernel)) (pi_range1 rfl B.range (pa_cons (pe_fld (pv 0) rfl) pa_nil)) (blkOk_by (N := v0N) (sc := defScope s_view_of_no_letters) (by decide +kernel))
        (fun _ _ _ _ _ => pg_name (i := 2) scView0.nd rfl (Or.inl rfl)) (fun _ _ _ _ _ => pts_nil) (fun _ _ _ _ _ => pe_op op_shl1 pe_int (pv 2)))
    (pss_one (ps_ret (pe_tup (pa_cons (pe_callTy call_tuple_of (by rfl) B.tuple (by decide +kernel) (pa_cons (pv 1) pa_nil)) (pa_cons (pe_gi mb) pa_nil))))), ?_⟩
  obtain ⟨m, M, rfl, hM, hn, q⟩ := h
  obtain ⟨dx, d, ads, hm, _⟩ := hM.ex
  refine ⟨_, rfl, m, CM, dx, _, _, rfl, hm, T.cl, MachT.n2 T, mcF_sc, _, rfl, by omega, by omega, fun D nD => ?_⟩
  refine lc_range (lo := 0) (n := M.n + 1) (fun i H' => Same H H' ∧ H' D = some (.lst (((List.range i).map (2 ^ ·)).map nv))) ⟨same_upd nD, upd_same⟩ ?_ ?_
  · rintro i H' hi ⟨s1, h1⟩
    have hi0 : (V.int (0 + (i : Int))) = nv i := by rw [Int.zero_add]
    rw [hi0]
    refine ⟨rfl, _, rfl, i, rfl, rfl, by omega, _, h1, ?_, fun b o e => ?_, ?_⟩
    · simp only [List.length_map, List.length_range]
      have h9 : (1000 : Nat) < sizeLine := by decide
      omega
    · rw [upd_ne (ne_of_none e nD)]
      exact s1 _ _ e
    · rw [upd_same, List.range_succ, List.map_append, List.map_append]
      rfl
  · rintro H' ⟨s1, h1⟩
    refine ⟨_, rfl, D, _, rfl, .inl ⟨SqL.of h1, fun l nl => ⟨(by show 2 ≤ sizeLine; decide), fun p np => ?_⟩⟩⟩
    have s2 : Same H' (upd H' l (.tup (((List.range (M.n + 1)).map (2 ^ ·)).map nv))) := same_upd nl
    have s3 := same_upd (o := .tup [.ref l, nv 1]) np
    exact q _ p ⟨l, upd_same, s3 _ _ upd_same⟩ ((s1.trans s2).trans s3)
/-! any_number_of_times -/
def spAny (K : PySem.W.Frag) : Sp := fun vs H Q _ => ∃ (a : Addr) (R : List Nat), vs = [.ref a] ∧ SqL K H a (R.map nv) ∧ R.length ≤ 1000 ∧ ∀ (H' : Hp) (p : Addr), Same H H' → H p = none → H' p = some (.lst ((Wa.anyTimes R).map nv)) → Q (.ref p) H'
abbrev anN : List Str := ["rows", "closed", "middle", "state"]
theorem scAny : FnScope anN ["rows"] (defScope s_any_number_of_times) := ⟨rfl, rfl, rfl, by decide +kernel, rfl, by decide +kernel, by decide +kernel⟩
abbrev HasM (P : Program) (w : World) (K : PySem.W.Frag) (mg : Str → Option Value) (base : Heap) (f : Addr) (fd : FuncData) : Prop := DefM P w K mg base CX0 1 "has_state" ["states", "state"] spHas f fd
theorem rowAt_get {R : List Nat} {i : Nat} (h : i < R.length) : (R.map nv)[i]? = some (nv (Wa.rowAt R i)) := by
  rw [List.getElem?_map]
  unfold Wa.rowAt
  rw [List.getD_eq_getElem?_getD, List.getElem?_eq_getElem h]
  rfl
theorem fold_len {α : Type} {f : List Nat → α → List Nat} (h : ∀ R i, (f R i).length = R.length) : ∀ (l : List α) (R : List Nat), (l.foldl f R).length = R.length
  | [], _ => rfl
  | x :: l, R => by rw [List.foldl_cons, fold_len h l, h]
theorem wrow_len {n : Nat} {R : List Nat} {m : Nat} : (Wa.wrow n R m).length = R.length := fold_len (fun R i => Wa.wput_length) _ _
theorem ok_any {f fH : Addr} {fd fdH : FuncData} (F : Fun K "any_number_of_times" "any_number_of_times" s_any_number_of_times f fd) (B : Blt mg) (S1 : HasM P w K mg base fH fdH) : FnOk P w K mg base CX0 2 f fd ["rows"] (spAny K) := by
  refine F.ok scAny (fun vs H Q E h => ?_) (fun cdv A outer s H vs Q E hr h => ?_)
  · obtain ⟨a, R, rfl, _⟩ := h
    rfl
  refine ⟨_, pss_cons (ps_set (i := 1) scAny.nd rfl (Or.inl rfl) (pe_callTy call_list_of (by rfl) B.list (by decide +kernel) (pa_cons (pv 0) pa_nil)))
    (pss_cons (ps_for PassesOwn.never rfl (pi_range1 rfl B.range (pa_cons (pe_callB call_len_seq (by rfl) B.len PySem.boot_len (pa_cons (pv 1) pa_nil)) pa_nil)) (pg_name (i := 2) scAny.nd rfl (Or.inl rfl))
      (pss_one (ps_for PassesOwn.never rfl (pi_range1 rfl B.range (pa_cons (pe_callB call_len_seq (by rfl) B.len PySem.boot_len (pa_cons (pv 1) pa_nil)) pa_nil)) (pg_name (i := 3) scAny.nd rfl (Or.inl rfl))
        (pss_one (ps_if (pt_val (pe_call S1.ok hr rfl S1.g S1.kp S1.b .nil pass0 (pa_cons (pe_ix ix_list (pv 1) (pv 3) (fun _ _ => rfl)) (pa_cons (pv 2) pa_nil))))
          (pss_one (ps_augS (pv 1) (pv 3) get_list (pe_ix ix_list (pv 1) (pv 2) (fun _ _ => rfl)) ip_orN set_list)) pss_nil)))))
    (pss_one (ps_ret (pv 1)))), ?_⟩
  obtain ⟨a, R, rfl, ha, hl, q⟩ := h
  refine ⟨_, rfl, a, _, rfl, .inl ha, fun L nL => ?_⟩
  refine ⟨_, rfl, L, _, rfl, .inl (SqL.of upd_same), (R.length : Int), by rw [List.length_map], by omega, by omega, ?_⟩
  refine for_range (lo := 0) (n := R.length) (fun i σ H' => ∃ v2 v3 : Option V, σ = [some (.ref a), some (.ref L), v2, v3] ∧ H' L = some (.lst (((List.range i).foldl (Wa.wrow R.length) R).map nv)) ∧ Keep L H H') ⟨none, none, rfl, upd_same, keep_upd⟩ ?_ ?_
  · rintro i σ H' hi ⟨v2, v3, rfl, h1, k1⟩
    have hi0 : (V.int (0 + (i : Int))) = nv i := by rw [Int.zero_add]
    rw [hi0]
    have hRi : ((List.range i).foldl (Wa.wrow R.length) R).length = R.length := fold_len (fun R m => wrow_len) _ _
    refine ⟨_, rfl, L, _, rfl, .inl (SqL.of h1), (R.length : Int), by rw [List.length_map, hRi], by omega, by omega, ?_⟩
    refine for_range (lo := 0) (n := R.length) (fun j σ H' => ∃ v3 : Option V, σ = [some (.ref a), some (.ref L), some (nv i), v3] ∧ H' L = some (.lst (((List.range j).foldl (Wa.wput i) ((List.range i).foldl (Wa.wrow R.length) R)).map nv)) ∧ Keep L H H') ⟨v3, rfl, h1, k1⟩ ?_ ?_
    · rintro j σ H2 hj ⟨v3', rfl, h2, k2⟩
      have hj0 : (V.int (0 + (j : Int))) = nv j := by rw [Int.zero_add]
      rw [hj0]
      have hRj : ((List.range j).foldl (Wa.wput i) ((List.range i).foldl (Wa.wrow R.length) R)).length = R.length := (fold_len (fun R m => Wa.wput_length) _ _).trans hRi
      have hjl : j < ((List.range j).foldl (Wa.wput i) ((List.range i).foldl (Wa.wrow R.length) R)).length := by rw [hRj]; exact hj
      have hil : i < ((List.range j).foldl (Wa.wput i) ((List.range i).foldl (Wa.wrow R.length) R)).length := by rw [hRj]; exact hi
      have hstep : (List.range (j + 1)).foldl (Wa.wput i) ((List.range i).foldl (Wa.wrow R.length) R) = Wa.wput i ((List.range j).foldl (Wa.wput i) ((List.range i).foldl (Wa.wrow R.length) R)) j := by
        rw [List.range_succ (n := _), List.foldl_append]
        rfl
      generalize hRR : (List.range j).foldl (Wa.wput i) ((List.range i).foldl (Wa.wrow R.length) R) = RR at *
      refine ⟨_, rfl, _, rfl, L, _, _, _, rfl, rfl, SqL.of h2, atI_nat (rowAt_get hjl), _, rfl, Wa.rowAt RR j, i, rfl, _, rfl, ?_⟩
      by_cases c : (Wa.rowAt RR j).testBit i = true
      · have hput : Wa.wput i RR j = RR.set j (Wa.rowAt RR j ||| Wa.rowAt RR i) := if_pos c
        rw [hput] at hstep
        refine ifT c ?_
        refine ⟨_, rfl, _, rfl, L, _, j, _, rfl, rfl, SqL.of h2, rowAt_get hjl, _, rfl, _, rfl, L, _, _, _, rfl, rfl, SqL.of h2, atI_nat (rowAt_get hil), _, _, rfl, rfl, L, _, _, j, rfl, rfl, h2, ixN_nat (by rw [List.length_map]; exact hjl), ?_⟩
        refine ⟨_, rfl, ?_, Keep.trans k2 keep_upd⟩
        rw [upd_same, hstep, List.map_set]
      · have hput : Wa.wput i RR j = RR := if_neg c
        rw [hput] at hstep
        refine ifF c ?_
        exact ⟨_, rfl, by rw [hstep]; exact h2, k2⟩
    · rintro σ H2 ⟨v3', rfl, h2, k2⟩
      refine ⟨_, _, rfl, ?_, k2⟩
      rw [h2, List.range_succ, List.foldl_append]
      rfl
  · rintro σ H' ⟨v2, v3, rfl, h1, k1⟩
    refine ⟨_, rfl, q H' L (fun b o e => k1 b o e (ne_of_none e nL)) nL h1⟩
/-! view_leads_along -/
def spAlong (C : Addr) : Sp := fun vs H Q _ => ∃ (m a : Addr) (M : Wa.Mach) (v : Wa.View), vs = [.ref m, .ref a] ∧ MachAt C H m M ∧ ViewAt H a v ∧ Q (.bl (decide (v.2 &&& M.fin ≠ 0))) H
theorem scAlong : FnScope ["machine", "view"] ["machine", "view"] (defScope s_view_leads_along) := ⟨rfl, rfl, rfl, by decide +kernel, rfl, by decide +kernel, by decide +kernel⟩
theorem ok_along {f : Addr} {fd : FuncData} (F : Fun K "view_leads_along" "view_leads_along" s_view_leads_along f fd) (T : MachT K mg CM) : FnOk P w K mg base CX0 1 f fd ["machine", "view"] (spAlong CM) := by
  refine F.ok scAlong (fun vs H Q E h => ?_) (fun cdv A outer s H vs Q E hr h => ?_)
  · obtain ⟨m, a, M, v, rfl, _⟩ := h
    rfl
  refine ⟨_, pss_one (ps_ret (pe_cmpR op_ne (pe_op op_andN (pe_ix ix_tup (pv 1) pe_int (fun _ _ => rfl)) (pe_fld (pv 0) rfl)) pe_int (nomark _))), ?_⟩
  obtain ⟨m, a, M, v, rfl, hM, ⟨r, h1, h2⟩, q⟩ := h
  obtain ⟨dx, d, ads, hm, _⟩ := hM.ex
  refine ⟨_, rfl, a, _, _, _, rfl, rfl, .inl (.inl h1), atI_nat (j := 1) rfl, _, rfl, m, CM, dx, _, _, rfl, hm, T.cl, MachT.n4 T, mcF_fin, _, _, rfl, rfl, rfl, ?_⟩
  simpa using q
/-! view_one_letter_on -/
def spViewOn (C : Addr) : Sp := fun vs H Q _ => ∃ (m a : Addr) (M : Wa.Mach) (v : Wa.View) (c : Nat), vs = [.ref m, .ref a, nv c] ∧ MachAt C H m M ∧ ViewAt H a v ∧ M.n ≤ 100 ∧ (∀ c, (M.mv c).length = M.n + 1) ∧ c ∈ Gq02.letters ∧
  ∀ (H' : Hp) (p : Addr), ViewAt H' p (Wa.viewOn M v c) → Same H H' → Q (.ref p) H'
abbrev voN : List Str := ["machine", "view", "letter", "ahead", "back", "rows", "state", "there_again", "returns", "reached"]
theorem scViewOn : FnScope voN ["machine", "view", "letter"] (defScope s_view_one_letter_on) := ⟨rfl, rfl, rfl, by decide +kernel, rfl, by decide +kernel, by decide +kernel⟩
abbrev ReachM (P : Program) (w : World) (K : PySem.W.Frag) (mg : Str → Option Value) (base : Heap) (f : Addr) (fd : FuncData) : Prop := DefM P w K mg base CX0 2 "reached_by" ["rows", "states"] (spReach K) f fd
abbrev AnyM (P : Program) (w : World) (K : PySem.W.Frag) (mg : Str → Option Value) (base : Heap) (f : Addr) (fd : FuncData) : Prop := DefM P w K mg base CX0 2 "any_number_of_times" ["rows"] (spAny K) f fd
theorem ads_get {ads : List Addr} {c : Nat} (h : ads.length = 4) (hc : c ∈ Gq02.letters) : ∃ l, ads[c - 2]? = some l := by
  have := Wa.letter_ge hc
  have hlt : c - 2 < ads.length := by omega
  exact ⟨_, List.getElem?_eq_getElem hlt⟩
/-- machine.moves[letter] -/
theorem moves_get {H : Hp} {d : Addr} {mv : Nat → List Nat} {ads : List Addr} {c : Nat} (h : MovesAt H d mv ads) (hl : ads.length = 4) (hc : c ∈ Gq02.letters) : ∃ l, DGet H d (nv c) (some (.ref l)) ∧ H l = some (.lst ((mv c).map nv)) := by
  obtain ⟨l, e⟩ := ads_get hl hc
  have hc2 := Wa.letter_ge hc
  refine ⟨l, ?_, ?_⟩
  · have := DGet.k (k := Sum.inl (c : Int)) h.1
    rw [valV_moves hc2.1 e] at this
    exact this
  · have := h.2 _ _ e
    rw [show 2 + (c - 2) = c by omega] at this
    exact this
theorem ok_viewOn {f fR fA : Addr} {fd fdR fdA : FuncData} {od : Addr} {es : Array DictEntry} (F : Fun K "view_one_letter_on" "view_one_letter_on" s_view_one_letter_on f fd) (B : Blt mg) (T : MachT K mg CM) (O : OthT K mg od es) (R1 : ReachM P w K mg base fR fdR) (A1 : AnyM P w K mg base fA fdA) : FnOk P w K mg base CX0 3 f fd ["machine", "view", "letter"] (spViewOn CM) := by
  refine F.ok scViewOn (fun vs H Q E h => ?_) (fun cdv A outer s H vs Q E hr h => ?_)
  · obtain ⟨m, a, M, v, c, rfl, _⟩ := h
    rfl
  have hu := hu_of hr
  refine ⟨_, pss_cons (ps_set (i := 3) scViewOn.nd rfl (Or.inl rfl) (pe_dget hu (pe_fld (pv 0) rfl) (pv 2) (fun _ _ => rfl)))
    (pss_cons (ps_set (i := 4) scViewOn.nd rfl (Or.inl rfl) (pe_dget hu (pe_fld (pv 0) rfl) (pe_wget O.D (pe_glob (v := .ref od) rfl O.g rfl) (pv 2) (fun _ _ => rfl)) (fun _ _ => rfl)))
    (pss_cons (ps_set (i := 5) scViewOn.nd rfl (Or.inl rfl) (pe_lst pa_nil))
    (pss_cons (ps_for PassesOwn.never rfl (pi_range1 rfl B.range (pa_cons (pe_fld (pv 0) rfl) pa_nil)) (pg_name (i := 6) scViewOn.nd rfl (Or.inl rfl))
      (pss_cons (ps_set (i := 7) scViewOn.nd rfl (Or.inl rfl) (pe_call R1.ok hr rfl R1.g R1.kp R1.b .nil pass0 (pa_cons (pe_ix ix_tup (pv 1) pe_int (fun _ _ => rfl)) (pa_cons (pe_ix ix_list (pv 4) (pv 6) (fun _ _ => rfl)) pa_nil))))
      (pss_one (ps_expr (pe_bm PySem.F.plainAttrs_list PySem.F.slot_list_append PySem.F.type_list_append mt_append (pv 5) (pa_cons (pe_op op_orN (pe_op op_shl1 pe_int (pv 6)) (pe_call R1.ok hr rfl R1.g R1.kp R1.b .nil pass0 (pa_cons (pv 3) (pa_cons (pv 7) pa_nil)))) pa_nil))))))
    (pss_cons (ps_set (i := 8) scViewOn.nd rfl (Or.inl rfl) (pe_call A1.ok hr rfl A1.g A1.kp A1.b .nil pass0 (pa_cons (pv 5) pa_nil)))
    (pss_cons (ps_set (i := 9) scViewOn.nd rfl (Or.inl rfl) (pe_call R1.ok hr rfl R1.g R1.kp R1.b .nil pass0 (pa_cons (pv 8) (pa_cons (pe_call R1.ok hr rfl R1.g R1.kp R1.b .nil pass0 (pa_cons (pv 3) (pa_cons (pe_ix ix_tup (pv 1) pe_int (fun _ _ => rfl)) pa_nil))) pa_nil))))
    (pss_one (ps_ret (pe_tup (pa_cons (pe_callTy call_tuple_of (by rfl) B.tuple (by decide +kernel) (pa_cons (pv 8) pa_nil)) (pa_cons (pv 9) pa_nil)))))))))), ?_⟩
  obtain ⟨m, a, M, v, c, rfl, hM, ⟨r, hv1, hv2⟩, hn, hlen, hc, q⟩ := h
  obtain ⟨dx, d, ads, hm, hads, hMv⟩ := hM.ex
  obtain ⟨l1, g1, hl1⟩ := moves_get hMv hads hc
  obtain ⟨l2, g2, hl2⟩ := moves_get hMv hads (Wa.turned_letter hc)
  obtain ⟨t, ht⟩ := O.get c hc
  refine ⟨_, rfl, m, CM, dx, _, _, rfl, hm, T.cl, MachT.n3 T, mcF_mv, _, rfl, d, _, rfl, g1, ?_⟩
  refine ⟨_, rfl, m, CM, dx, _, _, rfl, hm, T.cl, MachT.n3 T, mcF_mv, _, rfl, _, _, nv (Gq02.turned c), rfl, rfl, ht, ⟨t, rfl⟩, d, _, rfl, g2, ?_⟩
  refine ⟨(by show 0 ≤ sizeLine; decide), fun R nR => ?_⟩
  have s0 : Same H (upd H R (.lst [])) := same_upd nR
  refine ⟨_, rfl, m, CM, dx, _, _, rfl, s0 _ _ hm, T.cl, MachT.n2 T, mcF_sc, _, rfl, by omega, by omega, ?_⟩
  have hvr : (Wa.viewRows M v c).length = M.n + 1 := by unfold Wa.viewRows; simp
  refine for_range (lo := 0) (n := M.n + 1) (fun i σ H' => ∃ v6 v7 v8 v9 : Option V, σ = [some (.ref m), some (.ref a), some (nv c), some (.ref l1), some (.ref l2), some (.ref R), v6, v7, v8, v9] ∧ H' R = some (.lst (((Wa.viewRows M v c).take i).map nv)) ∧ Same H H') ⟨none, none, none, none, rfl, upd_same, s0⟩ ?_ ?_
  · rintro i σ H' hi ⟨v6, v7, v8, v9, rfl, h1, s1⟩
    have hi0 : (V.int (0 + (i : Int))) = nv i := by rw [Int.zero_add]
    rw [hi0]
    have hbl : i < (M.mv (Gq02.turned c)).length := by rw [hlen]; exact hi
    refine ⟨_, rfl, a, _, _, _, rfl, rfl, .inl (.inl (s1 _ _ hv1)), atI_nat (j := 0) rfl, _, rfl, _, rfl, l2, _, _, _, rfl, rfl, SqL.of (s1 _ _ hl2), atI_nat (rowAt_get hbl), r, v.1, Wa.rowAt (M.mv (Gq02.turned c)) i, rfl, .inr (.inl (.inl (s1 _ _ hv2))), fun H2 s2 => ?_⟩
    refine ⟨_, rfl, .inl ⟨rfl, _, SqL.of (s2 _ _ h1)⟩, _, rfl, i, rfl, rfl, by omega, _, rfl, _, rfl, l1, M.mv c, _, rfl, .inl (SqL.of ((s1.trans s2) _ _ hl1)), fun H3 s3 => ⟨_, _, rfl, rfl, R, _, _, rfl, rfl, (s2.trans s3) _ _ h1, ?_, ?_⟩⟩
    · simp only [List.length_map, List.length_take]
      have h9 : (1000 : Nat) < sizeLine := by decide
      omega
    · refine ⟨_, _, _, _, rfl, ?_, fun b o e => ?_⟩
      · have : (Wa.viewRows M v c)[i]? = some (2 ^ i ||| Wa.reach (M.mv c) (Wa.reach v.1 (Wa.rowAt (M.mv (Gq02.turned c)) i))) := by
          unfold Wa.viewRows
          rw [List.getElem?_map, List.getElem?_range hi]
          rfl
        rw [upd_same, List.take_succ, this, List.map_append]
        rfl
      · rw [upd_ne (ne_of_none e nR)]
        exact ((s1.trans s2).trans s3) _ _ e
  · rintro σ H' ⟨v6, v7, v8, v9, rfl, h1, s1⟩
    rw [← hvr, List.take_length] at h1
    refine ⟨_, rfl, R, _, rfl, SqL.of h1, by omega, fun H2 L s2 nL hL => ?_⟩
    refine ⟨_, rfl, _, rfl, _, rfl, a, _, _, _, rfl, rfl, .inl (.inl ((s1.trans s2) _ _ hv1)), atI_nat (j := 1) rfl, l1, M.mv c, v.2, rfl, .inl (SqL.of ((s1.trans s2) _ _ hl1)), fun H3 s3 => ?_⟩
    refine ⟨L, Wa.anyTimes (Wa.viewRows M v c), Wa.reach (M.mv c) v.2, rfl, .inl (SqL.of (s3 _ _ hL)), fun H4 s4 => ?_⟩
    refine ⟨_, rfl, L, _, rfl, .inl ⟨SqL.of ((s3.trans s4) _ _ hL), fun l nl => ⟨_, rfl, (by show 2 ≤ sizeLine; decide), fun p np => ?_⟩⟩⟩
    have s5 := same_upd (o := .tup ((Wa.anyTimes (Wa.viewRows M v c)).map nv)) nl
    have s6 := same_upd (o := .tup [.ref l, nv (Wa.reach (Wa.anyTimes (Wa.viewRows M v c)) (Wa.reach (M.mv c) v.2))]) np
    exact q _ p ⟨l, upd_same, s6 _ _ upd_same⟩ (((s1.trans (s2.trans (s3.trans s4))).trans s5).trans s6)
end
end Wp

namespace Wp
open PySem PySem.Spec PyProof.Rows L2 Wn Wr
abbrev s_is_letter : Stmt := top 16
abbrev s_read_part : Stmt := top 17
abbrev s_read_parts : Stmt := top 18
abbrev s_read_allowed_parts : Stmt := top 20
/-- an own error without a text -/
structure ExcT (K : PySem.W.Frag) (mg : Str → Option Value) (name : Str) (C : Addr) : Prop where
  g : mg name = some (.ref C)
  x : PySem.W.excIn K C [.type "Exception", .type "BaseException", .type "object"] "Exception.__new__" = true
  k : PySem.W.keepIn K (.ref C) = true
  b : PySem.W.subIn K (.ref C) (.type "BaseException") = some true
  t : PySem.W.typeIn K (.ref C) = some (.type "type")
/-! ### reading, part by part -/
def partAt (code : List Nat) (i : Nat) : Option Wa.Part :=
  if 5 ≤ code.getD i 0 then none else if code.getD i 0 ≠ 1 then some (code.getD i 0, 0)
  else if i + 1 = code.length ∨ ¬ (2 ≤ code.getD (i + 1) 0 ∧ code.getD (i + 1) 0 ≤ 5) then none else some (1, code.getD (i + 1) 0)
def behindOf (k : Nat) : Nat := if k = 2 ∨ k = 3 then 2 else if k = 4 then 1 else 0
def advOf (k : Nat) : Nat := if k = 1 then 2 else 1
theorem getD_get {code : List Nat} {i : Nat} (h : i < code.length) : code.getD i 0 = code[i] := by
  rw [List.getD_eq_getElem?_getD, List.getElem?_eq_getElem h]
  rfl
theorem drop_cons {code : List Nat} {i : Nat} (h : i < code.length) : code.drop i = code.getD i 0 :: code.drop (i + 1) := by
  rw [getD_get h]
  exact List.drop_eq_getElem_cons h
theorem read_turn {code : List Nat} {i k : Nat} (h : i < code.length) : Wa.readN (k + 1) (code.drop i) = match partAt code i with
    | none => none
    | some pt => Wa.pre [pt] (Wa.readN (k + behindOf pt.1) (code.drop (i + advOf pt.1))) := by
  rw [drop_cons h]
  unfold partAt
  by_cases c5 : 5 ≤ code.getD i 0
  · rw [if_pos c5]
    exact Wa.readN_far c5
  · rw [if_neg c5]
    by_cases c1 : code.getD i 0 ≠ 1
    · rw [if_pos c1]
      rcases (by omega : code.getD i 0 = 0 ∨ code.getD i 0 = 2 ∨ code.getD i 0 = 3 ∨ code.getD i 0 = 4) with e | e | e | e <;> rw [e] <;> rfl
    · have e : code.getD i 0 = 1 := by omega
      rw [if_neg c1, e]
      by_cases cl : i + 1 = code.length
      · rw [if_pos (.inl cl), cl, List.drop_length]
        rfl
      · rw [drop_cons (by omega : i + 1 < code.length)]
        by_cases cc : 2 ≤ code.getD (i + 1) 0 ∧ code.getD (i + 1) 0 ≤ 5
        · rw [if_neg (by rintro (z | z); exact cl z; exact z cc)]
          exact Wa.readN_letter cc
        · rw [if_pos (.inr cc)]
          exact Wa.readN_noletter cc
theorem partAt_kind {code : List Nat} {i : Nat} {pt : Wa.Part} (h : partAt code i = some pt) : pt.1 ≤ 4 := by
  unfold partAt at h
  split at h
  · cases h
  split at h
  · cases h
    dsimp only
    omega
  split at h
  · cases h
  · cases h
    dsimp only
    omega
theorem partAt_adv {code : List Nat} {i : Nat} {pt : Wa.Part} (hi : i < code.length) (h : partAt code i = some pt) : i + advOf pt.1 ≤ code.length := by
  unfold partAt at h
  split at h
  · cases h
  split at h
  · rename_i c
    cases h
    unfold advOf
    rw [if_neg c]
    omega
  split at h
  · cases h
  · rename_i c
    cases h
    show i + 2 ≤ _
    omega
section
variable {P : Program} {w : World} {K : PySem.W.Frag} {mg : Str → Option Value} {base : Heap} {CN CT : Addr}
/-! is_letter -/
def spIsLetter : Sp := fun vs H Q _ => ∃ n : Nat, vs = [nv n] ∧ Q (.bl (decide (2 ≤ n ∧ n ≤ 5))) H
theorem scIsLetter : FnScope ["number"] ["number"] (defScope s_is_letter) := ⟨rfl, rfl, rfl, by decide +kernel, rfl, by decide +kernel, by decide +kernel⟩
theorem ok_isLetter {f : Addr} {fd : FuncData} {t2 t5 : Tok} (F : Fun K "is_letter" "is_letter" s_is_letter f fd) (m2 : mg "LOWEST_LETTER" = some (.int 2 t2)) (m5 : mg "HIGHEST_LETTER" = some (.int 5 t5)) : FnOk P w K mg base CX0 1 f fd ["number"] spIsLetter := by
  refine F.ok scIsLetter (fun vs H Q E h => ?_) (fun cdv A outer s H vs Q E hr h => ?_)
  · obtain ⟨n, rfl, _⟩ := h
    rfl
  refine ⟨_, pss_one (ps_ret (pe_and (pe_cmpR op_le (pe_gi m2) (pv 0) (nomark _)) (pe_one (pe_cmpR op_le (pv 0) (pe_gi m5) (nomark _))))), ?_⟩
  obtain ⟨n, rfl, q⟩ := h
  refine ⟨_, rfl, _, _, rfl, rfl, _, rfl, ?_⟩
  by_cases c : 2 ≤ n
  · refine ifT (by simp; omega) ⟨_, rfl, _, _, rfl, rfl, ?_⟩
    have e : decide ((n : Int) ≤ 5) = decide (2 ≤ n ∧ n ≤ 5) := by
      apply decide_eq_decide.mpr
      omega
    rw [← e] at q
    exact q
  · refine ifF (by simp; omega) ?_
    have e : decide (2 ≤ n ∧ n ≤ 5) = false := by
      simp
      omega
    rw [e] at q
    exact q
/-! read_part -/
abbrev IsLetterM (P : Program) (w : World) (K : PySem.W.Frag) (mg : Str → Option Value) (base : Heap) (f : Addr) (fd : FuncData) : Prop := DefM P w K mg base CX0 1 "is_letter" ["number"] spIsLetter f fd
def spReadPart (K : PySem.W.Frag) (CN : Addr) : Sp := fun vs H Q E => ∃ (a : Addr) (code : List Nat) (i : Nat), vs = [.ref a, nv i] ∧ SqL K H a (code.map nv) ∧ i < code.length ∧ code.length ≤ 100 ∧
  (partAt code i = none → E (.ref CN) none H) ∧ (∀ pt, partAt code i = some pt → ∀ p, H p = none → Q (.ref p) (upd H p (.tup [nv pt.1, nv pt.2])))
theorem scReadPart : FnScope ["code", "place", "kind"] ["code", "place"] (defScope s_read_part) := ⟨rfl, rfl, rfl, by decide +kernel, rfl, by decide +kernel, by decide +kernel⟩
/-- CODES_BEHIND -/
structure CbT (K : PySem.W.Frag) (mg : Str → Option Value) (tc : Addr) : Prop where
  g : mg "CODES_BEHIND" = some (.ref tc)
  sq : ∀ H, SqT K H tc [.int 0, .int 0, .int 2, .int 2, .int 1]
theorem get_code {code : List Nat} {i : Nat} (h : i < code.length) : (code.map nv)[i]? = some (nv (code.getD i 0)) := by
  rw [List.getElem?_map, getD_get h, List.getElem?_eq_getElem h]
  rfl
theorem ok_readPart {f fI : Addr} {fd fdI : FuncData} {tc : Addr} {t1 : Tok} (F : Fun K "read_part" "read_part" s_read_part f fd) (B : Blt mg) (N1 : ExcT K mg "NotAsTold" CN) (C1 : CbT K mg tc) (I1 : IsLetterM P w K mg base fI fdI) (m1 : mg "LETTER" = some (.int 1 t1)) : FnOk P w K mg base (L2.CX P w) 2 f fd ["code", "place"] (spReadPart K CN) := by
  refine F.okX scReadPart (fun vs H Q E h => ?_) (fun cdv A outer s H vs Q E hr h => ?_)
  · obtain ⟨a, code, i, rfl, _⟩ := h
    rfl
  refine ⟨_, pss_cons (ps_set (i := 2) scReadPart.nd rfl (Or.inl rfl) (pe_ix ix_list (pv 0) (pv 1) (fun _ _ => rfl)))
    (pss_cons (ps_if (pt_cmpR op_ge (pv 2) (pe_callB call_len_seq (by rfl) B.len PySem.boot_len (pa_cons (pe_glob (v := .ref tc) rfl C1.g rfl) pa_nil)) (nomark _))
      (pss_one (ps_raise rfl (takes_of rfl rfl rfl rfl) (pmk_own0 PySem.F.excBase_Exception N1.x N1.g N1.k (raises_own N1.b N1.t) (by exact rfl)))) pss_nil)
    (pss_cons (ps_if (pt_cmpR op_ne (pv 2) (pe_gi m1) (nomark _)) (pss_one (ps_ret (pe_tup (pa_cons (pv 2) (pa_cons pe_int pa_nil))))) pss_nil)
    (pss_cons (ps_if (PW.pt (pw_or (pt_cmpR op_eq (pe_op op_add (pv 1) pe_int) (pe_callB call_len_seq (by rfl) B.len PySem.boot_len (pa_cons (pv 0) pa_nil)) (nomark _))
        (pw_or1 (pt_not (pt_val (pe_call I1.ok hr rfl I1.g I1.kp I1.b .nil pass0 (pa_cons (pe_ix ix_list (pv 0) (pe_op op_add (pv 1) pe_int) (fun _ _ => rfl)) pa_nil)))))))
      (pss_one (ps_raise rfl (takes_of rfl rfl rfl rfl) (pmk_own0 PySem.F.excBase_Exception N1.x N1.g N1.k (raises_own N1.b N1.t) (by exact rfl)))) pss_nil)
    (pss_one (ps_ret (pe_tup (pa_cons (pv 2) (pa_cons (pe_ix ix_list (pv 0) (pe_op op_add (pv 1) pe_int) (fun _ _ => rfl)) pa_nil)))))))), ?_⟩
  obtain ⟨a, code, i, rfl, ha, hi, hl, qN, qS⟩ := h
  refine ⟨_, rfl, _, rfl, a, _, _, _, rfl, rfl, ha, atI_nat (get_code hi), ?_⟩
  refine ⟨_, rfl, tc, _, rfl, .inr (C1.sq H), _, _, rfl, rfl, _, rfl, ?_⟩
  unfold partAt at qN qS
  generalize hk : code.getD i 0 = kk at qN qS ⊢
  by_cases c5 : 5 ≤ kk
  · refine ifT (by simp; omega) ?_
    rw [if_pos c5] at qN
    exact qN rfl
  · refine ifF (by simp; omega) ?_
    rw [if_neg c5] at qN qS
    refine ⟨_, rfl, rfl, _, rfl, ?_⟩
    by_cases c1 : kk ≠ 1
    · refine ifT (by simp; omega) ?_
      rw [if_pos c1] at qS
      exact ⟨_, rfl, (by show 2 ≤ sizeLine; decide), fun p np => qS _ rfl p np⟩
    · refine ifF (by simp; omega) ?_
      rw [if_neg c1] at qN qS
      have e1 : kk = 1 := by omega
      refine ⟨_, rfl, _, _, rfl, rfl, _, rfl, a, _, rfl, .inl ha, rfl, _, rfl, ?_⟩
      rw [List.length_map]
      by_cases cl : i + 1 = code.length
      · refine ifT (by simp; omega) ?_
        refine ifT rfl ?_
        rw [if_pos (.inl cl)] at qN
        exact qN rfl
      · refine ifF (by simp; omega) ?_
        have hi1 : i + 1 < code.length := by omega
        refine ⟨_, rfl, _, rfl, _, _, rfl, rfl, a, _, ((i + 1 : Nat) : Int), _, rfl, rfl, ha, atI_nat (get_code hi1), code.getD (i + 1) 0, rfl, _, rfl, ?_⟩
        by_cases cc : 2 ≤ code.getD (i + 1) 0 ∧ code.getD (i + 1) 0 ≤ 5
        · rw [if_neg (by rintro (z | z); exact cl z; exact z cc)] at qS
          refine ifF (by rw [decide_eq_true cc]; decide) ?_
          refine ⟨_, rfl, _, rfl, _, rfl, _, _, rfl, rfl, a, _, ((i + 1 : Nat) : Int), _, rfl, rfl, ha, atI_nat (get_code hi1), (by show 2 ≤ sizeLine; decide), fun p np => ?_⟩
          rw [e1]
          exact qS _ rfl p np
        · rw [if_pos (.inr cc)] at qN
          refine ifT (by rw [decide_eq_false cc]; decide) ?_
          exact qN rfl
/-! read_parts -/
theorem parts_push {H : Hp} {L p : Addr} {ts : List Addr} {ps : List Wa.Part} {pt : Wa.Part} (h1 : H L = some (.lst (ts.map V.ref))) (h2 : Paired (fun t (p : Wa.Part) => SqT K H t [nv p.1, nv p.2]) ts ps) (np : H p = none) :
    Parts K (upd (upd H p (.tup [nv pt.1, nv pt.2])) L (.lst (ts.map V.ref ++ [.ref p]))) L (ps ++ [pt]) := by
  have s1 : Same H (upd H p (.tup [nv pt.1, nv pt.2])) := same_upd np
  have k1 : Keep L (upd H p (.tup [nv pt.1, nv pt.2])) (upd (upd H p (.tup [nv pt.1, nv pt.2])) L (.lst (ts.map V.ref ++ [.ref p]))) := keep_upd
  refine ⟨ts ++ [p], by rw [upd_same]; simp, paired_append (paired_mono h2 fun t q z => keep_tup k1 (s1 _ _ h1) (same_tup s1 z)) (.cons ?_ .nil)⟩
  exact keep_tup k1 (s1 _ _ h1) (.inl (.inl upd_same))
theorem cb_get {k : Nat} (h : k ≤ 4) : ([.int 0, .int 0, .int 2, .int 2, .int 1] : List V)[k]? = some (nv (behindOf k)) := by
  rcases (by omega : k = 0 ∨ k = 1 ∨ k = 2 ∨ k = 3 ∨ k = 4) with rfl | rfl | rfl | rfl | rfl <;> rfl
def placeOf (n : Nat) (σ : L2.St) : Nat := match (σ : List (Option V))[2]? with
  | some (some (V.int z)) => n - z.toNat
  | _ => 0
abbrev ReadPartM (P : Program) (w : World) (K : PySem.W.Frag) (mg : Str → Option Value) (base : Heap) (CN f : Addr) (fd : FuncData) : Prop := DefM P w K mg base (L2.CX P w) 2 "read_part" ["code", "place"] (spReadPart K CN) f fd
def spReadParts (K : PySem.W.Frag) (CN : Addr) : Sp := fun vs H Q E => ∃ (a : Addr) (code : List Nat), vs = [.ref a] ∧ SqL K H a (code.map nv) ∧ code.length ≤ 100 ∧
  ((60 < code.length ∨ ∀ ps, Wa.readN 1 code ≠ some (ps, [])) → ∀ H', Same H H' → E (.ref CN) none H') ∧
  (∀ ps, code.length ≤ 60 → Wa.readN 1 code = some (ps, []) → ps.length ≤ 100 → ∀ (H' : Hp) (p : Addr), Same H H' → Parts K H' p ps → Q (.ref p) H')
abbrev rpN : List Str := ["code", "parts", "place", "codes_missing", "part"]
theorem scReadParts : FnScope rpN ["code"] (defScope s_read_parts) := ⟨rfl, rfl, rfl, by decide +kernel, rfl, by decide +kernel, by decide +kernel⟩
theorem ok_readParts {f fR : Addr} {fd fdR : FuncData} {tc : Addr} {t1 t60 : Tok} (F : Fun K "read_parts" "read_parts" s_read_parts f fd) (B : Blt mg) (N1 : ExcT K mg "NotAsTold" CN) (C1 : CbT K mg tc) (R1 : ReadPartM P w K mg base CN fR fdR) (m1 : mg "LETTER" = some (.int 1 t1)) (m60 : mg "MOST_NUMBERS" = some (.int 60 t60)) : FnOk P w K mg base (L2.CX P w) 3 f fd ["code"] (spReadParts K CN) := by
  refine F.okX scReadParts (fun vs H Q E h => ?_) (fun cdv A outer s H vs Q E hr h => ?_)
  · obtain ⟨a, code, rfl, _⟩ := h
    rfl
  refine ⟨_, pss_cons (ps_if (pt_cmpR op_gt (pe_callB call_len_seq (by rfl) B.len PySem.boot_len (pa_cons (pv 0) pa_nil)) (pe_gi m60) (nomark _))
      (pss_one (ps_raise rfl (takes_of rfl rfl rfl rfl) (pmk_own0 PySem.F.excBase_Exception N1.x N1.g N1.k (raises_own N1.b N1.t) (by exact rfl)))) pss_nil)
    (pss_cons (ps_set (i := 1) scReadParts.nd rfl (Or.inl rfl) (pe_lst pa_nil))
    (pss_cons (ps_set (i := 2) scReadParts.nd rfl (Or.inl rfl) pe_int)
    (pss_cons (ps_set (i := 3) scReadParts.nd rfl (Or.inl rfl) pe_int)
    (pss_cons (ps_while (passes_of rfl) (pt_cmpR op_gt (pv 3) pe_int (nomark _))
      (pss_cons (ps_if (pt_cmpR op_eq (pv 2) (pe_callB call_len_seq (by rfl) B.len PySem.boot_len (pa_cons (pv 0) pa_nil)) (nomark _))
        (pss_one (ps_raise rfl (takes_of rfl rfl rfl rfl) (pmk_own0 PySem.F.excBase_Exception N1.x N1.g N1.k (raises_own N1.b N1.t) (by exact rfl)))) pss_nil)
      (pss_cons (ps_set (i := 4) scReadParts.nd rfl (Or.inl rfl) (pe_call R1.ok hr rfl R1.g R1.kp R1.b .nil (passes_call (takes_of rfl rfl rfl rfl) (fun _ _ _ _ h => h)) (pa_cons (pv 0) (pa_cons (pv 2) pa_nil))))
      (pss_cons (ps_expr (pe_bm PySem.F.plainAttrs_list PySem.F.slot_list_append PySem.F.type_list_append mt_append (pv 1) (pa_cons (pv 4) pa_nil)))
      (pss_cons (ps_aug (i := 2) scReadParts.nd rfl (Or.inl rfl) (pe_ifExp (pt_cmpR op_eq (pe_ix ix_tup (pv 4) pe_int (fun _ _ => rfl)) (pe_gi m1) (nomark _)) pe_int pe_int) ip_add)
      (pss_one (ps_aug (i := 3) scReadParts.nd rfl (Or.inl rfl) (pe_op op_sub (pe_ix ix_tup (pe_glob (v := .ref tc) rfl C1.g rfl) (pe_ix ix_tup (pv 4) pe_int (fun _ _ => rfl)) (fun _ _ => rfl)) pe_int) ip_add)))))))
    (pss_cons (ps_if (pt_cmpR op_lt (pv 2) (pe_callB call_len_seq (by rfl) B.len PySem.boot_len (pa_cons (pv 0) pa_nil)) (nomark _))
      (pss_one (ps_raise rfl (takes_of rfl rfl rfl rfl) (pmk_own0 PySem.F.excBase_Exception N1.x N1.g N1.k (raises_own N1.b N1.t) (by exact rfl)))) pss_nil)
    (pss_one (ps_ret (pv 1)))))))), ?_⟩
  obtain ⟨a, code, rfl, ha, hl, qN, qS⟩ := h
  refine ⟨_, rfl, a, _, rfl, .inl ha, _, _, rfl, rfl, _, rfl, ?_⟩
  rw [List.length_map]
  by_cases c60 : 60 < code.length
  · refine ifT (by simp; omega) ?_
    exact qN (.inl c60) H (Same.refl H)
  refine ifF (by simp; omega) ?_
  refine ⟨(by show 0 ≤ sizeLine; decide), fun L nL => ?_⟩
  have s0 : Same H (upd H L (.lst [])) := same_upd nL
  refine while_by (fun σ H' => ∃ (i k : Nat) (ts : List Addr) (ps : List Wa.Part) (v4 : Option V), σ = [some (.ref a), some (.ref L), some (nv i), some (nv k), v4] ∧ i ≤ code.length ∧ Wa.readN 1 code = Wa.pre ps (Wa.readN k (code.drop i)) ∧ H' L = some (.lst (ts.map V.ref)) ∧ Paired (fun t (p : Wa.Part) => SqT K H' t [nv p.1, nv p.2]) ts ps ∧ ps.length ≤ i ∧ Same H H') (fun σ _ => placeOf code.length σ)
    ⟨0, 1, [], [], none, rfl, Nat.zero_le _, by rw [List.drop_zero, Wa.pre_nil], upd_same, .nil, Nat.le_refl _, s0⟩ ?_ ?_
  · rintro σ H' ⟨i, k, ts, ps, v4, rfl, hi, hrd, hL, hts, hpl, s1⟩
    refine ⟨_, rfl, _, _, rfl, rfl, _, rfl, ?_⟩
    by_cases ck : 0 < k
    · refine ifT (by simp; omega) ?_
      obtain ⟨k, rfl⟩ : ∃ j, k = j + 1 := ⟨k - 1, by omega⟩
      refine ⟨_, rfl, _, rfl, a, _, rfl, .inl (s1.seq ha), rfl, _, rfl, ?_⟩
      rw [List.length_map]
      by_cases ce : i = code.length
      · refine ifT (by simp; omega) ?_
        refine qN (.inr fun ps' z => ?_) H' s1
        rw [hrd, ce, List.drop_length] at z
        cases z
      · refine ifF (by simp; omega) ?_
        have hi' : i < code.length := by omega
        rw [read_turn hi'] at hrd
        refine ⟨_, rfl, _, rfl, a, code, i, rfl, s1.seq ha, hi', hl, fun z => ?_, fun pt hpt p np => ?_⟩
        · refine qN (.inr fun ps' y => ?_) H' s1
          rw [z] at hrd
          rw [hrd] at y
          cases y
        · rw [hpt] at hrd
          dsimp only at hrd
          rw [Wa.pre_pre] at hrd
          have hk4 := partAt_kind hpt
          have hadv := partAt_adv hi' hpt
          have s2 : Same H' (upd H' p (.tup [nv pt.1, nv pt.2])) := same_upd np
          have hpL : p ≠ L := fun z => by rw [z, hL] at np; cases np
          refine ⟨_, rfl, .inl ⟨rfl, _, SqL.of (s2 _ _ hL)⟩, _, rfl, L, _, _, rfl, rfl, s2 _ _ hL, ?_, ?_⟩
          · rw [List.length_map]
            have h9 : (1000 : Nat) < sizeLine := by decide
            have := Paired.length hts
            omega
          · have hpt2 : SqT K (upd (upd H' p (.tup [nv pt.1, nv pt.2])) L (.lst (ts.map V.ref ++ [.ref p]))) p [nv pt.1, nv pt.2] := .inl (.inl (by rw [upd_ne hpL]; exact upd_same))
            refine ⟨_, rfl, _, rfl, p, _, _, _, rfl, rfl, hpt2, atI_nat (j := 0) rfl, rfl, _, rfl, ?_⟩
            by_cases c1 : pt.1 = 1
            · refine ifT (by rw [c1]; rfl) ?_
              have ha1 : advOf pt.1 = 2 := if_pos c1
              rw [ha1] at hadv
              refine ⟨_, _, rfl, rfl, ?_⟩
              refine ⟨_, rfl, _, rfl, p, _, _, _, rfl, rfl, hpt2, atI_nat (j := 0) rfl, tc, _, _, _, rfl, rfl, C1.sq _, atI_nat (cb_get hk4), _, _, rfl, rfl, _, _, rfl, rfl, ?_⟩
              refine ⟨⟨i + 2, k + behindOf pt.1, ts ++ [p], ps ++ [pt], some (.ref p), ?_, by omega, ?_, ?_, ?_, ?_, ?_⟩, ?_⟩
              · show [some (V.ref a), some (V.ref L), some (V.int ((i : Int) + 2)), some (V.int (((k + 1 : Nat) : Int) + ((behindOf pt.1 : Nat) - 1 : Int))), some (V.ref p)] = [some (V.ref a), some (V.ref L), some (V.int ((i + 2 : Nat) : Int)), some (V.int ((k + behindOf pt.1 : Nat) : Int)), some (V.ref p)]
                have e1 : ((k + 1 : Nat) : Int) + ((behindOf pt.1 : Nat) - 1 : Int) = ((k + behindOf pt.1 : Nat) : Int) := by omega
                have e2 : (i : Int) + 2 = ((i + 2 : Nat) : Int) := by omega
                rw [e1, e2]
              · rw [hrd, ha1]
              · rw [upd_same]; simp
              · obtain ⟨ts', z1, z2⟩ := parts_push (pt := pt) hL hts np
                rw [upd_same] at z1
                have : ts' = ts ++ [p] := by
                  have z3 : (ts ++ [p]).map V.ref = ts'.map V.ref := by
                    have := Option.some.inj z1
                    injection this with this
                    rw [← this]; simp
                  have inj : ∀ (l m : List Addr), l.map V.ref = m.map V.ref → l = m := by
                    intro l
                    induction l with
                    | nil => intro m h; cases m with
                      | nil => rfl
                      | cons x m => cases h
                    | cons y l ih => intro m h; cases m with
                      | nil => cases h
                      | cons x m =>
                        simp only [List.map_cons, List.cons.injEq, V.ref.injEq] at h
                        rw [h.1, ih m h.2]
                  exact (inj _ _ z3).symm
                rw [this] at z2
                exact z2
              · simp; omega
              · exact fun b o e => by
                  rw [upd_ne (ne_of_none e nL)]
                  exact (s1.trans s2) _ _ e
              · show code.length - ((i : Int) + 2).toNat < code.length - ((i : Nat) : Int).toNat
                omega
            · refine ifF (by simp; omega) ?_
              have ha1 : advOf pt.1 = 1 := if_neg c1
              rw [ha1] at hadv
              refine ⟨_, _, rfl, rfl, ?_⟩
              refine ⟨_, rfl, _, rfl, p, _, _, _, rfl, rfl, hpt2, atI_nat (j := 0) rfl, tc, _, _, _, rfl, rfl, C1.sq _, atI_nat (cb_get hk4), _, _, rfl, rfl, _, _, rfl, rfl, ?_⟩
              refine ⟨⟨i + 1, k + behindOf pt.1, ts ++ [p], ps ++ [pt], some (.ref p), ?_, by omega, ?_, ?_, ?_, ?_, ?_⟩, ?_⟩
              · show [some (V.ref a), some (V.ref L), some (V.int ((i : Int) + 1)), some (V.int (((k + 1 : Nat) : Int) + ((behindOf pt.1 : Nat) - 1 : Int))), some (V.ref p)] = [some (V.ref a), some (V.ref L), some (V.int ((i + 1 : Nat) : Int)), some (V.int ((k + behindOf pt.1 : Nat) : Int)), some (V.ref p)]
                have e1 : ((k + 1 : Nat) : Int) + ((behindOf pt.1 : Nat) - 1 : Int) = ((k + behindOf pt.1 : Nat) : Int) := by omega
                have e2 : (i : Int) + 1 = ((i + 1 : Nat) : Int) := by omega
                rw [e1, e2]
              · rw [hrd, ha1]
              · rw [upd_same]; simp
              · obtain ⟨ts', z1, z2⟩ := parts_push (pt := pt) hL hts np
                rw [upd_same] at z1
                have : ts' = ts ++ [p] := by
                  have z3 : (ts ++ [p]).map V.ref = ts'.map V.ref := by
                    have := Option.some.inj z1
                    injection this with this
                    rw [← this]; simp
                  have inj : ∀ (l m : List Addr), l.map V.ref = m.map V.ref → l = m := by
                    intro l
                    induction l with
                    | nil => intro m h; cases m with
                      | nil => rfl
                      | cons x m => cases h
                    | cons y l ih => intro m h; cases m with
                      | nil => cases h
                      | cons x m =>
                        simp only [List.map_cons, List.cons.injEq, V.ref.injEq] at h
                        rw [h.1, ih m h.2]
                  exact (inj _ _ z3).symm
                rw [this] at z2
                exact z2
              · simp; omega
              · exact fun b o e => by
                  rw [upd_ne (ne_of_none e nL)]
                  exact (s1.trans s2) _ _ e
              · show code.length - ((i : Int) + 1).toNat < code.length - ((i : Nat) : Int).toNat
                omega
    · refine ifF (by simp; omega) ?_
      have ek : k = 0 := by omega
      subst ek
      refine ⟨_, rfl, _, rfl, a, _, rfl, .inl (s1.seq ha), _, _, rfl, rfl, _, rfl, ?_⟩
      rw [List.length_map]
      have hrd' : Wa.readN 1 code = some (ps, code.drop i) := by
        rw [hrd]
        simp [Wa.pre, Wa.readN]
      by_cases ce : i < code.length
      · refine ifT (by simp; omega) ?_
        refine qN (.inr fun ps' z => ?_) H' s1
        rw [hrd'] at z
        have := congrArg (fun o => (o.map fun x => x.2.length)) z
        simp at this
        omega
      · refine ifF (by simp; omega) ?_
        have : code.drop i = [] := List.drop_eq_nil_of_le (by omega)
        rw [this] at hrd'
        exact ⟨_, rfl, qS ps (by omega) hrd' (by omega) H' L s1 ⟨ts, hL, hts⟩⟩
  · rintro σ H' Q1 Q2 hq ⟨v, hv, i, j, e1, e2, b, e3, h⟩
    exact ⟨v, hv, i, j, e1, e2, b, e3, hq _ _ h⟩
/-! read_allowed_parts -/
abbrev ReadPartsM (P : Program) (w : World) (K : PySem.W.Frag) (mg : Str → Option Value) (base : Heap) (CN f : Addr) (fd : FuncData) : Prop := DefM P w K mg base (L2.CX P w) 3 "read_parts" ["code"] (spReadParts K CN) f fd
def spAllowed (K : PySem.W.Frag) (CN CT : Addr) : Sp := fun vs H Q E => ∃ (a : Addr) (code : List Nat) (m : Nat), vs = [.ref a, nv m] ∧ SqL K H a (code.map nv) ∧ code.length ≤ 100 ∧
  ((60 < code.length ∨ Gq02.parsed code = none) → ∀ H', Same H H' → E (.ref CN) none H') ∧
  (∀ e, code.length ≤ 60 → Gq02.parsed code = some e → (m < Gq02.steps e ∨ 30 < Gq02.size e) → ∀ H', Same H H' → E (.ref CT) none H') ∧
  (∀ e, code.length ≤ 60 → Gq02.parsed code = some e → ¬ (m < Gq02.steps e ∨ 30 < Gq02.size e) → Wa.Real e → (Wa.flat e).length ≤ 100 → ∀ (H' : Hp) (p : Addr), Same H H' → Parts K H' p (Wa.flat e) → Q (.ref p) H')
abbrev raN : List Str := ["code", "most_letters", "parts"]
theorem scAllowed : FnScope raN ["code", "most_letters"] (defScope s_read_allowed_parts) := ⟨rfl, rfl, rfl, by decide +kernel, rfl, by decide +kernel, by decide +kernel⟩
theorem ok_allowed {f fR fL : Addr} {fd fdR fdL : FuncData} {t30 : Tok} (F : Fun K "read_allowed_parts" "read_allowed_parts" s_read_allowed_parts f fd) (B : Blt mg) (T1 : ExcT K mg "TooLarge" CT) (R1 : ReadPartsM P w K mg base CN fR fdR) (L1 : LettersM P w K mg base fL fdL) (m30 : mg "MOST_PARTS" = some (.int 30 t30)) : FnOk P w K mg base (L2.CX P w) 4 f fd ["code", "most_letters"] (spAllowed K CN CT) := by
  refine F.okX scAllowed (fun vs H Q E h => ?_) (fun cdv A outer s H vs Q E hr h => ?_)
  · obtain ⟨a, code, m, rfl, _⟩ := h
    rfl
  have hr1 : Room 1 _ := hr.mono (by decide)
  refine ⟨_, pss_cons (ps_set (i := 2) scAllowed.nd rfl (Or.inl rfl) (pe_call R1.ok hr rfl R1.g R1.kp R1.b .nil (passes_call (takes_of rfl rfl rfl rfl) (fun _ _ _ _ h => h)) (pa_cons (pv 0) pa_nil)))
    (pss_cons (ps_if (PW.pt (pw_or (pt_cmpR op_gt (pe_callB call_len_seq (by rfl) B.len PySem.boot_len (pa_cons (pv 2) pa_nil)) (pe_gi m30) (nomark _))
        (pw_or1 (pt_cmpR op_gt (pe_callB call_len_seq (by rfl) B.len PySem.boot_len (pa_cons (pe_call L1.ok hr1 rfl L1.g L1.kp L1.b .nil pass0 (pa_cons (pv 2) pa_nil)) pa_nil)) (pv 1) (nomark _)))))
      (pss_one (ps_raise rfl (takes_of rfl rfl rfl rfl) (pmk_own0 PySem.F.excBase_Exception T1.x T1.g T1.k (raises_own T1.b T1.t) (by exact rfl)))) pss_nil)
    (pss_one (ps_ret (pv 2)))), ?_⟩
  obtain ⟨a, code, m, rfl, ha, hl, qN, qT, qS⟩ := h
  refine ⟨_, rfl, a, code, rfl, ha, hl, fun z H' s1 => ?_, fun ps h60 hps hp1 H' p s1 hP => ?_⟩
  · refine qN ?_ H' s1
    rcases z with z | z
    · exact .inl z
    · right
      cases e : Gq02.parsed code with
      | none => rfl
      | some d => exact (z _ (Wa.parsed_some e).2).elim
  · cases e : Gq02.parsed code with
    | none =>
      exfalso
      rcases Wa.parsed_none e with z | ⟨ps', b, r, z⟩
      · rw [z] at hps; cases hps
      · rw [z] at hps; cases hps
    | some d =>
      obtain ⟨hreal, hd⟩ := Wa.parsed_some e
      rw [hps] at hd
      cases hd
      obtain ⟨ts, hq, hts⟩ := id hP
      have hsz := Wa.flat_length d hreal
      have hlt := Paired.length hts
      refine ⟨_, rfl, p, _, rfl, .inl (SqL.of hq), _, _, rfl, rfl, _, rfl, ?_⟩
      rw [List.length_map, hlt, hsz]
      by_cases c30 : 30 < Gq02.size d
      · refine ifT (by simp; omega) ?_
        refine ifT rfl ?_
        exact qT d h60 e (.inr c30) H' s1
      · refine ifF (by simp; omega) ?_
        refine ⟨_, rfl, p, _, rfl, hP, by omega, fun H2 pl s2 npl hpl => ?_⟩
        refine ⟨pl, _, rfl, .inl (SqL.of hpl), _, rfl, _, _, rfl, rfl, _, rfl, ?_⟩
        rw [List.length_map, Wa.lettersIn_flat, Wa.lets_length]
        by_cases cm : m < Gq02.steps d
        · refine ifT (by simp; omega) ?_
          exact qT d h60 e (.inl cm) H2 (s1.trans s2)
        · refine ifF (by simp; omega) ?_
          exact ⟨_, rfl, qS d h60 e (by rintro (z | z); exact cm z; exact c30 z) hreal hp1 H2 p (s1.trans s2) (Parts.same s2 hP)⟩
end
end Wp

namespace Wp
open PySem PySem.Spec PyProof.Rows L2 Wn Wr
abbrev s_Stop_init : Stmt := inClass (top 47) 0
abbrev s_Search_init : Stmt := inClass (top 48) 0
abbrev s_Search_view_on : Stmt := inClass (top 48) 1
abbrev s_Search_put_down : Stmt := inClass (top 48) 2
abbrev s_Search_go_on : Stmt := inClass (top 48) 3
abbrev s_Search_shows_it : Stmt := inClass (top 48) 4
abbrev s_Search_line_to : Stmt := inClass (top 48) 5
/-! ### keys -/
def nums (l : List Nat) : List NestedKey := l.map fun (n : Nat) => NestedKey.num (n : Int)
def viewKey (v : Wa.View) : NestedKey := .tup [.tup (nums v.1), .num (v.2 : Int)]
def key2 (v : Wa.View) (c : Nat) : NestedKey := .tup [viewKey v, .num (c : Int)]
theorem nums_inj : ∀ {a b : List Nat}, nums a = nums b → a = b
  | [], [], _ => rfl
  | [], _ :: _, h => by cases h
  | _ :: _, [], h => by cases h
  | x :: a, y :: b, h => by
    simp only [nums, List.map_cons, List.cons.injEq, NestedKey.num.injEq] at h
    have : x = y := by omega
    rw [this, nums_inj h.2]
theorem viewKey_inj {u v : Wa.View} (h : viewKey u = viewKey v) : u = v := by
  simp only [viewKey, NestedKey.tup.injEq, List.cons.injEq, NestedKey.num.injEq] at h
  have : u.2 = v.2 := by omega
  exact Prod.ext (nums_inj h.1) this
theorem key2_inj {u v : Wa.View} {c d : Nat} (h : key2 u c = key2 v d) : u = v ∧ c = d := by
  simp only [key2, NestedKey.tup.injEq, List.cons.injEq, NestedKey.num.injEq] at h
  exact ⟨viewKey_inj h.1, by omega⟩
theorem nums_depth : ∀ l : List Nat, NestedKey.depthAll (nums l) ≤ 1
  | [] => by simp [nums, NestedKey.depthAll]
  | x :: l => by
    have := nums_depth l
    simp only [nums, List.map_cons, NestedKey.depthAll, NestedKey.depth] at this ⊢
    omega
theorem viewKey_depth (v : Wa.View) : (viewKey v).depth ≤ 8 := by
  have := nums_depth v.1
  simp only [viewKey, NestedKey.depth, NestedKey.depthAll]
  omega
theorem key2_depth (v : Wa.View) (c : Nat) : (key2 v c).depth ≤ 8 := by
  have := nums_depth v.1
  simp only [key2, viewKey, NestedKey.depth, NestedKey.depthAll]
  omega
theorem hkeys_nums {H : Hp} : ∀ l : List Nat, HKeys H (nums l) (l.map nv)
  | [] => .nil
  | x :: l => .cons (.int _) (hkeys_nums l)
theorem hkey_view {H : Hp} {a : Addr} {v : Wa.View} (h : ViewAt H a v) : HKey H (viewKey v) (.ref a) := by
  obtain ⟨r, h1, h2⟩ := h
  exact .tup h1 (.cons (.tup h2 (hkeys_nums v.1)) (.cons (.int _) .nil))
theorem same_tups {H H' : Hp} (s : Same H H') : TupsIn H H' := fun b ys e => s _ _ e
theorem nd_same {P : Program} {w : World} {H H' : Hp} {d : Addr} {kvs : List NEnt} (s : Same H H') (n : ND P w H d kvs) : ND P w H' d kvs := n.mono (same_tups s) ((s _ _ n.at_).trans n.at_.symm)
/-! ### stops -/
def stF (s : Nat) (va : Addr) (l b : Nat) : List (Str × V) := [("states", nv s), ("view", .ref va), ("letter", nv l), ("before", nv b)]
theorem stF_s {s l b : Nat} {va : Addr} : (stF s va l b).lookup ("states" : Str) = some (nv s) := lk_here
theorem stF_v {s l b : Nat} {va : Addr} : (stF s va l b).lookup ("view" : Str) = some (.ref va) := (lk_past (by decide +kernel)).trans lk_here
theorem stF_l {s l b : Nat} {va : Addr} : (stF s va l b).lookup ("letter" : Str) = some (nv l) := (lk_past (by decide +kernel)).trans ((lk_past (by decide +kernel)).trans lk_here)
theorem stF_b {s l b : Nat} {va : Addr} : (stF s va l b).lookup ("before" : Str) = some (nv b) := (lk_past (by decide +kernel)).trans ((lk_past (by decide +kernel)).trans ((lk_past (by decide +kernel)).trans lk_here))
theorem stF_new (s l b : Nat) (va : Addr) : putF "before" (nv b) (putF "letter" (nv l) (putF "view" (.ref va) (putF "states" (nv s) []))) = stF s va l b := by
  repeat (first | rw [put_nil] | rw [put_past (by decide +kernel)])
  rfl
def StopAt (C : Addr) (H : Hp) (a : Addr) (s : Wa.Stop) : Prop := ∃ dx va, H a = some (.ins C dx (stF s.states va s.letter s.before)) ∧ ViewAt H va s.view
theorem StopAt.same {C : Addr} {H H' : Hp} {a : Addr} {s : Wa.Stop} (k : Same H H') (h : StopAt C H a s) : StopAt C H' a s := by
  obtain ⟨dx, va, h1, h2⟩ := h
  exact ⟨dx, va, k _ _ h1, h2.same k⟩
abbrev StopT (K : PySem.W.Frag) (mg : Str → Option Value) (C : Addr) : Prop := ClsT K mg "Stop" C ["states", "view", "letter", "before"]
/-! ### the search's object -/
def seF (m1 m2 L D1 D2 : Addr) : List (Str × V) := [("first", .ref m1), ("second", .ref m2), ("stops", .ref L), ("states_seen", .ref D1), ("views_on", .ref D2)]
section
variable {m1 m2 L D1 D2 : Addr}
theorem seF_1 : (seF m1 m2 L D1 D2).lookup ("first" : Str) = some (.ref m1) := lk_here
theorem seF_2 : (seF m1 m2 L D1 D2).lookup ("second" : Str) = some (.ref m2) := (lk_past (by decide +kernel)).trans lk_here
theorem seF_3 : (seF m1 m2 L D1 D2).lookup ("stops" : Str) = some (.ref L) := (lk_past (by decide +kernel)).trans ((lk_past (by decide +kernel)).trans lk_here)
theorem seF_4 : (seF m1 m2 L D1 D2).lookup ("states_seen" : Str) = some (.ref D1) := (lk_past (by decide +kernel)).trans ((lk_past (by decide +kernel)).trans ((lk_past (by decide +kernel)).trans lk_here))
theorem seF_5 : (seF m1 m2 L D1 D2).lookup ("views_on" : Str) = some (.ref D2) := (lk_past (by decide +kernel)).trans ((lk_past (by decide +kernel)).trans ((lk_past (by decide +kernel)).trans ((lk_past (by decide +kernel)).trans lk_here)))
theorem seF_no {m : Str} (h1 : (m == ("first" : Str)) = false) (h2 : (m == ("second" : Str)) = false) (h3 : (m == ("stops" : Str)) = false) (h4 : (m == ("states_seen" : Str)) = false) (h5 : (m == ("views_on" : Str)) = false) : (seF m1 m2 L D1 D2).lookup m = none :=
  (lk_past h1).trans ((lk_past h2).trans ((lk_past h3).trans ((lk_past h4).trans ((lk_past h5).trans rfl))))
theorem seF_new : putF "views_on" (.ref D2) (putF "states_seen" (.ref D1) (putF "stops" (.ref L) (putF "second" (.ref m2) (putF "first" (.ref m1) [])))) = seF m1 m2 L D1 D2 := by
  repeat (first | rw [put_nil] | rw [put_past (by decide +kernel)])
  rfl
end
abbrev SearchT (K : PySem.W.Frag) (mg : Str → Option Value) (C : Addr) : Prop := ClsT K mg "Search" C ["first", "second", "stops", "states_seen", "views_on"]
/-- where the search's things stand -/
structure SAd where
  sA : Addr
  m1 : Addr
  m2 : Addr
  L : Addr
  D1 : Addr
  D2 : Addr
structure Cl3 where
  CM : Addr
  CS : Addr
  CE : Addr
structure SObj (P : Program) (w : World) (C : Cl3) (H : Hp) (a : SAd) (e f : Gq02.E) (items : List Wa.It) (seen : Wa.View → Nat) : Prop where
  ob : ∃ dx, H a.sA = some (.ins C.CE dx (seF a.m1 a.m2 a.L a.D1 a.D2))
  M1 : MachAt C.CM H a.m1 (Wa.mach e)
  M2 : MachAt C.CM H a.m2 (Wa.mach f)
  st : ∃ as : List Addr, H a.L = some (.lst (as.map V.ref)) ∧ Paired (fun b (it : Wa.It) => StopAt C.CS H b it.s) as items
  d1 : ∃ kv : List NEnt, ND P w H a.D1 kv ∧ kv.length ≤ items.length ∧ ∀ v, (nAt kv (viewKey v)).getD (nv 0) = nv (seen v)
  d2 : ∃ (kv : List NEnt) (ks : List (Nat × Wa.View)), ND P w H a.D2 kv ∧ kv.map (·.1) = ks.map (fun x => key2 x.2 x.1) ∧ ks.Nodup ∧ (∀ x ∈ ks, x.1 < 6 ∧ ∃ u, x.2 = Wa.viewAt f u) ∧
    ∀ v c, (nAt kv (key2 v c)).isSome = true → ∃ vb, nAt kv (key2 v c) = some (.ref vb) ∧ ViewAt H vb (Wa.viewOn (Wa.mach f) v c)
  ne : a.D1 ≠ a.D2
theorem SObj.same {P : Program} {w : World} {C : Cl3} {H H' : Hp} {a : SAd} {e f : Gq02.E} {items : List Wa.It} {seen : Wa.View → Nat} (s : Same H H') (o : SObj P w C H a e f items seen) : SObj P w C H' a e f items seen := by
  obtain ⟨dx, h1⟩ := o.ob
  obtain ⟨as, h2, h3⟩ := o.st
  obtain ⟨kv, h4, h5, h6⟩ := o.d1
  obtain ⟨kv2, ks, g1, g2, g3, g4, g5⟩ := o.d2
  refine ⟨⟨dx, s _ _ h1⟩, o.M1.same s, o.M2.same s, ⟨as, s _ _ h2, paired_mono h3 fun b it z => z.same s⟩, ⟨kv, nd_same s h4, h5, h6⟩, ⟨kv2, ks, nd_same s g1, g2, g3, g4, fun v c hs => ?_⟩, o.ne⟩
  obtain ⟨vb, z1, z2⟩ := g5 v c hs
  exact ⟨vb, z1, z2.same s⟩
/-- all but the search's own lists and dicts -/
def Keep3 (a : SAd) (H H' : Hp) : Prop := ∀ c o, H c = some o → c ≠ a.L → c ≠ a.D1 → c ≠ a.D2 → H' c = some o
section
variable {P : Program} {w : World} {K : PySem.W.Frag} {mg : Str → Option Value} {base : Heap} {C : Cl3} {CS : Addr}
/-! Stop -/
def spStopInit (C : Addr) : Sp := fun vs H Q _ => ∃ (p dx va : Addr) (s l b : Nat), vs = [.ref p, nv s, .ref va, nv l, nv b] ∧ H p = some (.ins C dx []) ∧
  ∀ H' : Hp, H' p = some (.ins C dx (stF s va l b)) → Keep p H H' → Q .non H'
theorem scStopInit : FnScope ["self", "states", "view", "letter", "before"] ["self", "states", "view", "letter", "before"] (defScope s_Stop_init) := ⟨rfl, rfl, rfl, by decide +kernel, rfl, by decide +kernel, by decide +kernel⟩
theorem ok_stopInit {f : Addr} {fd : FuncData} (F : Fun K "__init__" "Stop.__init__" s_Stop_init f fd) (T : StopT K mg CS) : FnOk P w K mg base CX0 1 f fd ["self", "states", "view", "letter", "before"] (spStopInit CS) := by
  refine F.ok scStopInit (fun vs H Q E h => ?_) (fun cdv A outer s H vs Q E hr h => ?_)
  · obtain ⟨p, dx, va, s, l, b, rfl, _⟩ := h
    rfl
  refine ⟨_, pss_cons (ps_fld (pv 0) (pv 1) rfl) (pss_cons (ps_fld (pv 0) (pv 2) rfl) (pss_cons (ps_fld (pv 0) (pv 3) rfl) (pss_one (ps_fld (pv 0) (pv 4) rfl)))), ?_⟩
  obtain ⟨p, dx, va, s, l, b, rfl, hp, k⟩ := h
  refine ⟨_, rfl, _, rfl, p, CS, dx, [], rfl, hp, T.cl, T.no _ (by simp), (by show 0 < 1000; decide), ?_⟩
  refine ⟨_, rfl, _, rfl, p, CS, dx, _, rfl, upd_same, T.cl, T.no _ (by simp), (by show 1 < 1000; decide), ?_⟩
  refine ⟨_, rfl, _, rfl, p, CS, dx, _, rfl, upd_same, T.cl, T.no _ (by simp), (by show 2 < 1000; decide), ?_⟩
  refine ⟨_, rfl, _, rfl, p, CS, dx, _, rfl, upd_same, T.cl, T.no _ (by simp), (by show 3 < 1000; decide), ?_⟩
  refine k _ (Eq.trans upd_same (congrArg (fun q => some (HO.ins CS dx q)) (stF_new s l b va))) fun c o e hb => ?_
  rw [upd_ne hb, upd_ne hb, upd_ne hb, upd_ne hb]
  exact e
abbrev StopM (P : Program) (w : World) (K : PySem.W.Frag) (mg : Str → Option Value) (base : Heap) (C fI : Addr) (fdI : FuncData) : Prop :=
  ClsM P w K mg base CX0 1 "Stop" C ["states", "view", "letter", "before"] ["self", "states", "view", "letter", "before"] (spStopInit C) fI fdI
/-! Search -/
def spSearchInit (P : Program) (w : World) (C : Addr) : Sp := fun vs H Q _ => ∃ (p dx m1 m2 : Addr), vs = [.ref p, .ref m1, .ref m2] ∧ H p = some (.ins C dx []) ∧
  ∀ (H' : Hp) (L D1 D2 : Addr), H' p = some (.ins C dx (seF m1 m2 L D1 D2)) → Keep p H H' → H' L = some (.lst []) → H L = none → H' D1 = some (.ext (NdObj P w D1 [])) → H D1 = none → (D1 == sysModules) = false → H' D2 = some (.ext (NdObj P w D2 [])) → H D2 = none → (D2 == sysModules) = false → D1 ≠ D2 → Q .non H'
theorem scSearchInit : FnScope ["self", "first", "second"] ["self", "first", "second"] (defScope s_Search_init) := ⟨rfl, rfl, rfl, by decide +kernel, rfl, by decide +kernel, by decide +kernel⟩
theorem ok_searchInit {f : Addr} {fd : FuncData} {CE : Addr} (F : Fun K "__init__" "Search.__init__" s_Search_init f fd) (T : SearchT K mg CE) : FnOk P w K mg base CX0 1 f fd ["self", "first", "second"] (spSearchInit P w CE) := by
  refine F.ok scSearchInit (fun vs H Q E h => ?_) (fun cdv A outer s H vs Q E hr h => ?_)
  · obtain ⟨p, dx, m1, m2, rfl, _⟩ := h
    rfl
  refine ⟨_, pss_cons (ps_fld (pv 0) (pv 1) rfl) (pss_cons (ps_fld (pv 0) (pv 2) rfl) (pss_cons (ps_fld (pv 0) (pe_lst pa_nil) rfl) (pss_cons (ps_fld (pv 0) (show PE _ _ (tNNew P w) from pe_nnew) rfl) (pss_one (ps_fld (pv 0) (show PE _ _ (tNNew P w) from pe_nnew) rfl))))), ?_⟩
  obtain ⟨p, dx, m1, m2, rfl, hp, k⟩ := h
  refine ⟨_, rfl, _, rfl, p, CE, dx, [], rfl, hp, T.cl, T.no _ (by simp), (by show 0 < 1000; decide), ?_⟩
  refine ⟨_, rfl, _, rfl, p, CE, dx, _, rfl, upd_same, T.cl, T.no _ (by simp), (by show 1 < 1000; decide), ?_⟩
  have keepP : ∀ (G G' : Hp) (x : Addr) (o o' : HO), G p = some o' → G x = none → (∀ c u, H c = some u → c ≠ p → G c = some u) → (∀ c u, H c = some u → c ≠ p → upd (upd G x o) p o' c = some u) := by
    intro G G' x o o' hp' hx hk c u hc hcp
    rw [upd_ne hcp, upd_ne (fun z => by subst z; rw [hk _ _ hc hcp] at hx; cases hx)]
    exact hk c u hc hcp
  refine ⟨(by show 0 ≤ sizeLine; decide), fun L nL => ?_⟩
  generalize hG2 : upd (upd H p (.ins CE dx (putF "first" (.ref m1) []))) p (.ins CE dx (putF "second" (.ref m2) (putF "first" (.ref m1) []))) = G2 at nL ⊢
  have g2p : G2 p = some (.ins CE dx (putF "second" (.ref m2) (putF "first" (.ref m1) []))) := by rw [← hG2]; exact upd_same
  have g2k : ∀ c u, H c = some u → c ≠ p → G2 c = some u := fun c u e n => by rw [← hG2, upd_ne n, upd_ne n]; exact e
  have hpL : p ≠ L := fun z => by rw [← z, g2p] at nL; cases nL
  refine ⟨_, rfl, p, CE, dx, _, rfl, (upd_ne hpL).trans g2p, T.cl, T.no _ (by simp), (by show 2 < 1000; decide), ?_⟩
  intro D1 nD1 hs1
  generalize hG3 : upd (upd G2 L (.lst [])) p (.ins CE dx (putF "stops" (.ref L) (putF "second" (.ref m2) (putF "first" (.ref m1) [])))) = G3 at nD1 ⊢
  have g3p : G3 p = some (.ins CE dx (putF "stops" (.ref L) (putF "second" (.ref m2) (putF "first" (.ref m1) [])))) := by rw [← hG3]; exact upd_same
  have g3k : ∀ c u, H c = some u → c ≠ p → G3 c = some u := fun c u e n => by
    rw [← hG3, upd_ne n, upd_ne (fun z => by subst z; rw [g2k _ _ e n] at nL; cases nL)]
    exact g2k c u e n
  have g3L : G3 L = some (.lst []) := by rw [← hG3, upd_ne (Ne.symm hpL)]; exact upd_same
  have hpD1 : p ≠ D1 := fun z => by rw [← z, g3p] at nD1; cases nD1
  have hLD1 : L ≠ D1 := fun z => by rw [← z, g3L] at nD1; cases nD1
  refine ⟨_, rfl, p, CE, dx, _, rfl, (upd_ne hpD1).trans g3p, T.cl, T.no _ (by simp), (by show 3 < 1000; decide), ?_⟩
  intro D2 nD2 hs2
  generalize hG4 : upd (upd G3 D1 (.ext (NdObj P w D1 []))) p (.ins CE dx (putF "states_seen" (.ref D1) (putF "stops" (.ref L) (putF "second" (.ref m2) (putF "first" (.ref m1) []))))) = G4 at nD2 ⊢
  have g4p : G4 p = some (.ins CE dx (putF "states_seen" (.ref D1) (putF "stops" (.ref L) (putF "second" (.ref m2) (putF "first" (.ref m1) []))))) := by rw [← hG4]; exact upd_same
  have g4k : ∀ c u, H c = some u → c ≠ p → G4 c = some u := fun c u e n => by
    rw [← hG4, upd_ne n, upd_ne (fun z => by subst z; rw [g3k _ _ e n] at nD1; cases nD1)]
    exact g3k c u e n
  have g4L : G4 L = some (.lst []) := by rw [← hG4, upd_ne (Ne.symm hpL), upd_ne hLD1]; exact g3L
  have g4D : G4 D1 = some (.ext (NdObj P w D1 [])) := by rw [← hG4, upd_ne (Ne.symm hpD1)]; exact upd_same
  have hpD2 : p ≠ D2 := fun z => by rw [← z, g4p] at nD2; cases nD2
  have hLD2 : L ≠ D2 := fun z => by rw [← z, g4L] at nD2; cases nD2
  have hDD : D1 ≠ D2 := fun z => by rw [← z, g4D] at nD2; cases nD2
  have free : ∀ {G : Hp} {x : Addr}, (∀ c u, H c = some u → c ≠ p → G c = some u) → G x = none → p ≠ x → H x = none := fun {G x} hk hx hpx => by
    cases e : H x with
    | none => rfl
    | some u => rw [hk _ _ e (Ne.symm hpx)] at hx; cases hx
  refine ⟨_, rfl, p, CE, dx, _, rfl, (upd_ne hpD2).trans g4p, T.cl, T.no _ (by simp), (by show 4 < 1000; decide), ?_⟩
  refine k _ L D1 D2 (Eq.trans upd_same (congrArg (fun q => some (HO.ins CE dx q)) seF_new)) (fun c u e n => ?_) ?_ (free g2k nL hpL) ?_ (free g3k nD1 hpD1) hs1 ?_ (free g4k nD2 hpD2) hs2 hDD
  · rw [upd_ne n, upd_ne (fun z => by subst z; rw [g4k _ _ e n] at nD2; cases nD2)]
    exact g4k c u e n
  · rw [upd_ne (Ne.symm hpL), upd_ne hLD2]; exact g4L
  · rw [upd_ne (Ne.symm hpD1), upd_ne hDD]; exact g4D
  · rw [upd_ne (Ne.symm hpD2)]; exact upd_same
abbrev SearchM (P : Program) (w : World) (K : PySem.W.Frag) (mg : Str → Option Value) (base : Heap) (CE fI : Addr) (fdI : FuncData) : Prop :=
  ClsM P w K mg base CX0 1 "Search" CE ["first", "second", "stops", "states_seen", "views_on"] ["self", "first", "second"] (spSearchInit P w CE) fI fdI
end
end Wp

namespace Wp
open PySem PySem.Spec PyProof.Rows L2 Wn Wr
theorem ne_ext {H : Hp} {c d : Addr} {o : HO} {φ : Heap → Prop} (h : H c = some o) (h' : H d = some (.ext φ)) (n : ∀ ψ, o ≠ .ext ψ) : c ≠ d := ne_of h h' (n φ)
section
variable {H H' : Hp} {d : Addr} {φ : Heap → Prop}
theorem ViewAt.keepE {a : Addr} {v : Wa.View} (k : Keep d H H') (hd : H d = some (.ext φ)) (h : ViewAt H a v) : ViewAt H' a v := by
  obtain ⟨r, h1, h2⟩ := h
  exact ⟨r, k _ _ h1 (ne_ext h1 hd (fun _ z => nomatch z)), k _ _ h2 (ne_ext h2 hd (fun _ z => nomatch z))⟩
theorem MachAt.keepE {C m : Addr} {M : Wa.Mach} (k : Keep d H H') (hd : H d = some (.ext φ)) (h : MachAt C H m M) : MachAt C H' m M := by
  obtain ⟨dx, dd, ads, h1, h2, h3, h4⟩ := h.ex
  exact ⟨dx, dd, ads, k _ _ h1 (ne_ext h1 hd (fun _ z => nomatch z)), h2, k _ _ h3 (ne_ext h3 hd (fun _ z => nomatch z)), fun i l e => k _ _ (h4 i l e) (ne_ext (h4 i l e) hd (fun _ z => nomatch z))⟩
theorem StopAt.keepE {C a : Addr} {s : Wa.Stop} (k : Keep d H H') (hd : H d = some (.ext φ)) (h : StopAt C H a s) : StopAt C H' a s := by
  obtain ⟨dx, va, h1, h2⟩ := h
  exact ⟨dx, va, k _ _ h1 (ne_ext h1 hd (fun _ z => nomatch z)), h2.keepE k hd⟩
theorem tups_keepE (k : Keep d H H') (hd : H d = some (.ext φ)) : TupsIn H H' := fun b ys e => k _ _ e (ne_ext e hd (fun _ z => nomatch z))
end
section
variable {P : Program} {w : World} {K : PySem.W.Frag} {mg : Str → Option Value} {base : Heap} {C : Cl3}
theorem ks_small {f : Gq02.E} {ks : List (Nat × Wa.View)} (hf : Gq02.steps f ≤ 3) (nd : ks.Nodup) (h : ∀ x ∈ ks, x.1 < 6 ∧ ∃ u, x.2 = Wa.viewAt f u) : ks.length + 1 < sizeLine := by
  have := Wa.keys_count (n := 2 ^ (Gq02.steps f + 1)) (m := 6) (k := Gq02.steps f + 1) nd (fun x hx => by
    obtain ⟨h1, u, h2⟩ := h x hx
    have l := Wa.view_lt f u
    rw [← h2] at l
    exact ⟨h1, l.1, l.2.1, l.2.2⟩)
  have h2 := Wa.small_pow (a := 6) (b := Gq02.steps f) (by omega) hf
  have h3 : (7340032 : Nat) + 1 < sizeLine := by decide
  have h4 : ks.length ≤ 7340032 := Nat.le_trans this h2
  omega
theorem nAt_none_keys {kv : List NEnt} {k : NestedKey} (h : nAt kv k = none) : k ∉ kv.map (·.1) := by
  intro hm
  obtain ⟨x, hx, rfl⟩ := List.mem_map.1 hm
  unfold nAt at h
  rw [Option.map_eq_none_iff, List.find?_eq_none] at h
  have := h x hx
  simp at this
abbrev ViewOnM (P : Program) (w : World) (K : PySem.W.Frag) (mg : Str → Option Value) (base : Heap) (CM f : Addr) (fd : FuncData) : Prop := DefM P w K mg base CX0 3 "view_one_letter_on" ["machine", "view", "letter"] (spViewOn CM) f fd
/-! view_on -/
def spSView (P : Program) (w : World) (C : Cl3) : Sp := fun vs H Q _ => ∃ (a : SAd) (e f : Gq02.E) (items : List Wa.It) (seen : Wa.View → Nat) (va : Addr) (v : Wa.View) (u : List Nat) (c : Nat), vs = [.ref a.sA, .ref va, nv c] ∧ SObj P w C H a e f items seen ∧ Gq02.steps f ≤ 3 ∧ ViewAt H va v ∧ v = Wa.viewAt f u ∧ c ∈ Gq02.letters ∧
  ∀ (H' : Hp) (vb : Addr), SObj P w C H' a e f items seen → ViewAt H' vb (Wa.viewOn (Wa.mach f) v c) → Keep a.D2 H H' → Q (.ref vb) H'
abbrev svN : List Str := ["self", "view", "letter", "key"]
theorem scSView : FnScope svN ["self", "view", "letter"] (defScope s_Search_view_on) := ⟨rfl, rfl, rfl, by decide +kernel, rfl, by decide +kernel, by decide +kernel⟩
theorem ok_sview {f fV : Addr} {fd fdV : FuncData} (F : Fun K "view_on" "Search.view_on" s_Search_view_on f fd) (T : SearchT K mg C.CE) (V1 : ViewOnM P w K mg base C.CM fV fdV) : FnOk P w K mg base CX0 4 f fd ["self", "view", "letter"] (spSView P w C) := by
  refine F.ok scSView (fun vs H Q E h => ?_) (fun cdv A outer s H vs Q E hr h => ?_)
  · obtain ⟨a, e, f, items, seen, va, v, u, c, rfl, _⟩ := h
    rfl
  have hu := hr.units
  refine ⟨_, pss_cons (ps_set (i := 3) scSView.nd rfl (Or.inl rfl) (pe_tup (pa_cons (pv 1) (pa_cons (pv 2) pa_nil))))
    (pss_cons (ps_if (pt_cmp (pc_nnotin hu (pv 3) (pe_fld (pv 0) rfl)))
      (pss_one (ps_nput hu (pe_fld (pv 0) rfl) (pv 3) (pe_call V1.ok hr rfl V1.g V1.kp V1.b .nil pass0 (pa_cons (pe_fld (pv 0) rfl) (pa_cons (pv 1) (pa_cons (pv 2) pa_nil)))) rfl)) pss_nil)
    (pss_one (ps_ret (pe_nget hu (pe_fld (pv 0) rfl) (pv 3) (fun _ _ => rfl))))), ?_⟩
  obtain ⟨a, e, f, items, seen, va, v, u, c, rfl, O, hf, hv, ev, hc, q⟩ := h
  refine ⟨_, rfl, _, rfl, (by show 2 ≤ sizeLine; decide), fun T1 nT => ?_⟩
  have s1 : Same H (upd H T1 (.tup [.ref va, nv c])) := same_upd nT
  have O1 := O.same s1
  obtain ⟨dx, ho⟩ := O1.ob
  obtain ⟨kv, ks, g1, g2, g3, g4, g5⟩ := O1.d2
  have hk : HKey (upd H T1 (.tup [.ref va, nv c])) (key2 v c) (.ref T1) := .tup upd_same (.cons (hkey_view (hv.same s1)) (.cons (.int _) .nil))
  refine ⟨_, rfl, _, rfl, a.sA, C.CE, dx, _, _, rfl, ho, T.cl, T.no _ (by simp), seF_5, a.D2, T1, kv, key2 v c, rfl, rfl, g1, hk, key2_depth v c, _, rfl, ?_⟩
  cases hn : nAt kv (key2 v c) with
  | some y =>
    refine ifF (by simp) ?_
    obtain ⟨vb, z1, z2⟩ := g5 v c (by rw [hn]; rfl)
    exact ⟨_, rfl, a.sA, C.CE, dx, _, _, rfl, ho, T.cl, T.no _ (by simp), seF_5, _, rfl, a.D2, T1, kv, key2 v c, .ref vb, rfl, rfl, g1, hk, key2_depth v c, z1, q _ vb O1 z2 (Same.keep s1)⟩
  | none =>
    refine ifT (by simp) ?_
    have hlen : (Wa.mach f).n ≤ 100 := by show Gq02.steps f ≤ 100; omega
    refine ⟨_, rfl, a.sA, C.CE, dx, _, _, rfl, ho, T.cl, T.no _ (by simp), seF_2, _, rfl, _, rfl, a.m2, va, Wa.mach f, v, c, rfl, O1.M2, hv.same s1, hlen, Wa.mach_length f, hc, fun H2 p hp s2 => ?_⟩
    have O2 := O1.same s2
    have g1' := nd_same s2 g1
    have hk2 := hk.mono (same_tups s2)
    have hkl : kv.length = ks.length := by
      have := congrArg List.length g2
      simpa using this
    have hsm := ks_small hf g3 g4
    obtain ⟨dx2, ho2⟩ := O2.ob
    refine ⟨_, rfl, a.sA, C.CE, dx2, _, _, rfl, ho2, T.cl, T.no _ (by simp), seF_5, _, rfl, a.D2, T1, kv, key2 v c, rfl, rfl, g1', hk2, key2_depth v c, by omega, ?_⟩
    have kD : Keep a.D2 H2 (upd H2 a.D2 (.ext (NdObj P w a.D2 (nPut kv (key2 v c) T1 (.ref p))))) := keep_upd
    have hD := g1'.at_
    have N3 : ND P w (upd H2 a.D2 (.ext (NdObj P w a.D2 (nPut kv (key2 v c) T1 (.ref p))))) a.D2 (nPut kv (key2 v c) T1 (.ref p)) := g1'.put hk2 (key2_depth v c) (by omega)
    have hp3 := hp.keepE kD hD
    have O3 : SObj P w C (upd H2 a.D2 (.ext (NdObj P w a.D2 (nPut kv (key2 v c) T1 (.ref p))))) a e f items seen := by
      obtain ⟨as, h2, h3⟩ := O2.st
      obtain ⟨kv1, h4, h5, h6⟩ := O2.d1
      refine ⟨⟨dx2, kD _ _ ho2 (ne_ext ho2 hD (fun _ z => nomatch z))⟩, O2.M1.keepE kD hD, O2.M2.keepE kD hD, ⟨as, kD _ _ h2 (ne_ext h2 hD (fun _ z => nomatch z)), paired_mono h3 fun b it z => z.keepE kD hD⟩, ⟨kv1, h4.mono (tups_keepE kD hD) (upd_ne O2.ne), h5, h6⟩, ⟨_, ks ++ [(c, v)], N3, ?_, ?_, ?_, fun v' c' hs => ?_⟩, O2.ne⟩
      · rw [nPut_keys hn, g2, List.map_append]
        rfl
      · rw [List.nodup_append]
        refine ⟨g3, by simp, fun x hx y hy => ?_⟩
        rw [List.mem_singleton] at hy
        subst hy
        rintro rfl
        exact nAt_none_keys hn (by rw [g2]; exact List.mem_map.mpr ⟨_, hx, rfl⟩)
      · intro x hx
        rcases List.mem_append.1 hx with hx | hx
        · exact g4 x hx
        · rw [List.mem_singleton] at hx
          subst hx
          exact ⟨by have := Wa.letter_ge hc; dsimp only; omega, u, ev⟩
      · rw [nAt_put] at hs ⊢
        by_cases ek : key2 v' c' = key2 v c
        · obtain ⟨rfl, rfl⟩ := key2_inj ek
          rw [if_pos rfl]
          exact ⟨p, rfl, hp3⟩
        · rw [if_neg ek] at hs ⊢
          obtain ⟨vb, z1, z2⟩ := g5 v' c' hs
          exact ⟨vb, z1, (z2.same s2).keepE kD hD⟩
    have ho3 := O3.ob
    obtain ⟨dx3, ho3⟩ := ho3
    refine ⟨_, rfl, a.sA, C.CE, dx3, _, _, rfl, ho3, T.cl, T.no _ (by simp), seF_5, _, rfl, a.D2, T1, _, key2 v c, .ref p, rfl, rfl, N3, hk2.mono (tups_keepE kD hD), key2_depth v c, by rw [nAt_put, if_pos rfl], ?_⟩
    exact q _ p O3 hp3 (Keep.trans (Same.keep (s1.trans s2)) kD)
/-! put_down -/
theorem refs_ne {as : List Addr} {R : List Nat} (h : R ≠ []) : HO.lst (as.map V.ref) ≠ HO.lst (R.map nv) := by
  intro z
  injection z with z
  cases R with
  | nil => exact h rfl
  | cons x R =>
    cases as with
    | nil => cases z
    | cons y as =>
      simp only [List.map_cons, List.cons.injEq] at z
      cases z.1
theorem mach_ne (e : Gq02.E) (c : Nat) : (Wa.mach e).mv c ≠ [] := by
  intro z
  have := Wa.mach_length e c
  rw [z] at this
  simp at this
theorem MachAt.keepL {CM m L : Addr} {H H' : Hp} {e : Gq02.E} {as : List Addr} (k : Keep L H H') (hL : H L = some (.lst (as.map V.ref))) (h : MachAt CM H m (Wa.mach e)) : MachAt CM H' m (Wa.mach e) := by
  obtain ⟨dx, dd, ads, h1, h2, h3, h4⟩ := h.ex
  exact ⟨dx, dd, ads, k _ _ h1 (ins_ne_lst h1 hL), h2, k _ _ h3 (ne_of h3 hL (fun z => nomatch z)), fun i l e => k _ _ (h4 i l e) (fun z => refs_ne (mach_ne _ _) (Option.some.inj ((z ▸ hL).symm.trans (h4 i l e))))⟩
theorem ViewAt.keepL {a L : Addr} {H H' : Hp} {v : Wa.View} {xs : List V} (k : Keep L H H') (hL : H L = some (.lst xs)) (h : ViewAt H a v) : ViewAt H' a v := by
  obtain ⟨r, h1, h2⟩ := h
  exact ⟨r, k _ _ h1 (ne_of h1 hL (fun z => nomatch z)), k _ _ h2 (ne_of h2 hL (fun z => nomatch z))⟩
theorem StopAt.keepL {CS a L : Addr} {H H' : Hp} {s : Wa.Stop} {xs : List V} (k : Keep L H H') (hL : H L = some (.lst xs)) (h : StopAt CS H a s) : StopAt CS H' a s := by
  obtain ⟨dx, va, h1, h2⟩ := h
  exact ⟨dx, va, k _ _ h1 (ins_ne_lst h1 hL), h2.keepL k hL⟩
theorem tups_keepL {L : Addr} {H H' : Hp} {xs : List V} (k : Keep L H H') (hL : H L = some (.lst xs)) : TupsIn H H' := fun b ys e => k _ _ e (ne_of e hL (fun z => nomatch z))
def freshOf (seen : Wa.View → Nat) (x : Nat) (v : Wa.View) : Nat := Wa.andNot x (seen v)
def spPut (P : Program) (w : World) (C : Cl3) : Sp := fun vs H Q _ => ∃ (a : SAd) (e f : Gq02.E) (items : List Wa.It) (seen : Wa.View → Nat) (va : Addr) (v : Wa.View) (x c b : Nat) (u : List Nat), vs = [.ref a.sA, nv x, .ref va, nv c, nv b] ∧ SObj P w C H a e f items seen ∧ items.length + 1 < sizeLine ∧ ViewAt H va v ∧
  (freshOf seen x v = 0 → Q .non H) ∧
  (freshOf seen x v ≠ 0 → ∀ H' : Hp, SObj P w C H' a e f (items ++ [⟨⟨freshOf seen x v, v, c, b⟩, u⟩]) (Wa.setAt seen v (seen v ||| freshOf seen x v)) → Keep3 a H H' → Q .non H')
abbrev pdN : List Str := ["self", "states", "view", "letter", "before", "seen", "fresh"]
theorem scPut : FnScope pdN ["self", "states", "view", "letter", "before"] (defScope s_Search_put_down) := ⟨rfl, rfl, rfl, by decide +kernel, rfl, by decide +kernel, by decide +kernel⟩
theorem ok_put {f fI : Addr} {fd fdI : FuncData} (F : Fun K "put_down" "Search.put_down" s_Search_put_down f fd) (T : SearchT K mg C.CE) (M : StopM P w K mg base C.CS fI fdI) : FnOk P w K mg base CX0 3 f fd ["self", "states", "view", "letter", "before"] (spPut P w C) := by
  refine F.ok scPut (fun vs H Q E h => ?_) (fun cdv A outer s H vs Q E hr h => ?_)
  · obtain ⟨a, e, f, items, seen, va, v, x, c, b, u, rfl, _⟩ := h
    rfl
  have hu := hr.units
  refine ⟨_, pss_cons (ps_set (i := 5) scPut.nd rfl (Or.inl rfl) (pe_nget2 hu (pe_fld (pv 0) rfl) (pv 2) pe_int ⟨rfl, rfl, rfl, rfl⟩))
    (pss_cons (ps_set (i := 6) scPut.nd rfl (Or.inl rfl) (pe_op op_andNotN (pv 1) (pe_un un_inv (pv 5))))
    (pss_one (ps_if (pt_cmpR op_ne (pv 6) pe_int (nomark _))
      (pss_cons (ps_nput hu (pe_fld (pv 0) rfl) (pv 2) (pe_op op_orN (pv 5) (pv 6)) rfl)
      (pss_one (ps_expr (pe_bm PySem.F.plainAttrs_list PySem.F.slot_list_append PySem.F.type_list_append mt_append (pe_fld (pv 0) rfl) (pa_cons (pe_make M.m M.ok hr rfl M.T.g M.b .nil pass0 (pa_cons (pv 6) (pa_cons (pv 2) (pa_cons (pv 3) (pa_cons (pv 4) pa_nil))))) pa_nil))))) pss_nil))), ?_⟩
  obtain ⟨a, e, f, items, seen, va, v, x, c, b, u, rfl, O, hlen, hv, q0, q1⟩ := h
  obtain ⟨dx, ho⟩ := O.ob
  obtain ⟨kv, g1, g2, g3⟩ := O.d1
  have hk := hkey_view hv
  refine ⟨_, rfl, a.sA, C.CE, dx, _, _, rfl, ho, T.cl, T.no _ (by simp), seF_4, a.D1, kv, rfl, g1, _, rfl, va, kv, viewKey v, rfl, g1, hk, viewKey_depth v, ?_⟩
  rw [show (V.int 0) = nv 0 from rfl, g3 v]
  refine ⟨_, rfl, _, rfl, _, rfl, x, seen v, rfl, rfl, ?_⟩
  refine ⟨_, rfl, rfl, _, rfl, ?_⟩
  have ef : (x ^^^ (x &&& seen v)) = freshOf seen x v := rfl
  rw [ef]
  by_cases c0 : freshOf seen x v = 0
  · refine ifF (by rw [c0]; simp) ?_
    exact q0 c0
  · refine ifT (by simp; omega) ?_
    have hD := g1.at_
    refine ⟨_, rfl, _, rfl, _, _, rfl, rfl, _, rfl, a.sA, C.CE, dx, _, _, rfl, ho, T.cl, T.no _ (by simp), seF_4, _, rfl, a.D1, va, kv, viewKey v, rfl, rfl, g1, hk, viewKey_depth v, by omega, ?_⟩
    generalize hkv : nPut kv (viewKey v) va (nv (seen v ||| freshOf seen x v)) = kv'
    have N1 : ND P w (upd H a.D1 (.ext (NdObj P w a.D1 kv'))) a.D1 kv' := by
      rw [← hkv]
      exact g1.put hk (viewKey_depth v) (by omega)
    have kD : Keep a.D1 H (upd H a.D1 (.ext (NdObj P w a.D1 kv'))) := keep_upd
    have ho1 := kD _ _ ho (ne_ext ho hD (fun _ z => nomatch z))
    obtain ⟨as, hL, hst⟩ := O.st
    have hL1 := kD _ _ hL (ne_ext hL hD (fun _ z => nomatch z))
    refine ⟨_, rfl, a.sA, C.CE, dx, _, _, rfl, ho1, T.cl, T.no _ (by simp), seF_3, .inl ⟨rfl, _, SqL.of hL1⟩, _, rfl, _, rfl, _, rfl, _, rfl, fun x' dx' nx nd ne => ?_⟩
    refine ⟨x', dx', va, freshOf seen x v, c, b, rfl, upd_same, fun H2 h2 k2 => ⟨rfl, ?_⟩⟩
    have s2 : Same (upd H a.D1 (.ext (NdObj P w a.D1 kv'))) H2 := Same.made nx nd k2
    have hL2 := s2 _ _ hL1
    have hpl := Paired.length hst
    refine ⟨a.L, _, _, rfl, rfl, hL2, by rw [List.length_map]; omega, ?_⟩
    have kL : Keep a.L H2 (upd H2 a.L (.lst (as.map V.ref ++ [.ref x']))) := keep_upd
    have hLD1 : a.D1 ≠ a.L := fun z => by rw [z, hL] at hD; cases hD
    refine q1 c0 _ ?_ ?_
    · refine ⟨⟨dx, kL _ _ (s2 _ _ ho1) (ins_ne_lst (s2 _ _ ho1) hL2)⟩, ((O.M1.keepE kD hD).same s2).keepL kL hL2, ((O.M2.keepE kD hD).same s2).keepL kL hL2, ⟨as ++ [x'], by rw [upd_same]; simp, ?_⟩, ⟨kv', ?_, ?_, fun v' => ?_⟩, ?_, O.ne⟩
      · refine paired_append (paired_mono hst fun b it z => ((z.keepE kD hD).same s2).keepL kL hL2) (.cons ?_ .nil)
        exact ⟨dx', va, kL _ _ h2 (ins_ne_lst h2 hL2), ((hv.keepE kD hD).same s2).keepL kL hL2⟩
      · exact (nd_same s2 N1).mono (tups_keepL kL hL2) (upd_ne hLD1)
      · rw [← hkv, List.length_append]
        have := nPut_length kv (viewKey v) va (nv (seen v ||| freshOf seen x v))
        simp
        omega
      · rw [← hkv, nAt_put]
        unfold Wa.setAt
        by_cases ek : v' = v
        · subst ek
          rw [if_pos rfl, if_pos rfl]
          rfl
        · rw [if_neg (fun z => ek (viewKey_inj z)), if_neg ek]
          exact g3 v'
      · obtain ⟨kv2, ks, j1, j2, j3, j4, j5⟩ := O.d2
        have hLD2 : a.D2 ≠ a.L := fun z => by have := j1.at_; rw [z, hL] at this; cases this
        refine ⟨kv2, ks, (nd_same s2 (j1.mono (tups_keepE kD hD) (upd_ne (Ne.symm O.ne)))).mono (tups_keepL kL hL2) (upd_ne hLD2), j2, j3, j4, fun v' c' hs => ?_⟩
        obtain ⟨vb, z1, z2⟩ := j5 v' c' hs
        exact ⟨vb, z1, ((z2.keepE kD hD).same s2).keepL kL hL2⟩
    · intro c' o' e' n1 n2 n3
      exact kL _ _ (s2 _ _ (kD _ _ e' n2)) n1
end
end Wp

namespace Wp
open PySem PySem.Spec PyProof.Rows L2 Wn Wr
abbrev s_line_that_shows_it : Stmt := top 49
abbrev s_is_within : Stmt := top 50
/-- a method -/
structure MetM (P : Program) (w : World) (K : PySem.W.Frag) (mg : Str → Option Value) (base : Heap) (CX : CXT) (k : Nat) (C : Addr) (name : Str) (ps : List Str) (sp : Sp) (f : Addr) (fd : FuncData) : Prop where
  m : Meth K C name f
  ok : FnOk P w K mg base CX k f fd ps sp
  b : Binds K fd ps []
theorem Keep3.trans {a : SAd} {H H1 H2 : Hp} (x : Keep3 a H H1) (y : Keep3 a H1 H2) : Keep3 a H H2 := fun c o e n1 n2 n3 => y c o (x c o e n1 n2 n3) n1 n2 n3
theorem Same.keep3 {a : SAd} {H H' : Hp} (x : Same H H') : Keep3 a H H' := fun c o e _ _ _ => x c o e
theorem Keep.keep3 {a : SAd} {H H' : Hp} (x : Keep a.D2 H H') : Keep3 a H H' := fun c o e _ _ n => x c o e n
section
variable {P : Program} {w : World} {K : PySem.W.Frag} {mg : Str → Option Value} {base : Heap} {C : Cl3}
theorem SObj.ne3 {H : Hp} {a : SAd} {e f : Gq02.E} {items : List Wa.It} {seen : Wa.View → Nat} (O : SObj P w C H a e f items seen) {c : Addr} {o : HO} (h : H c = some o) (n1 : ∀ xs, o ≠ .lst xs) (n2 : ∀ φ, o ≠ .ext φ) : c ≠ a.L ∧ c ≠ a.D1 ∧ c ≠ a.D2 := by
  obtain ⟨as, h2, _⟩ := O.st
  obtain ⟨kv1, h4, _⟩ := O.d1
  obtain ⟨kv2, ks, g1, _⟩ := O.d2
  exact ⟨ne_of h h2 (n1 _), ne_of h h4.at_ (n2 _), ne_of h g1.at_ (n2 _)⟩
theorem StopAt.keep3 {H H' : Hp} {a : SAd} {e f : Gq02.E} {items : List Wa.It} {seen : Wa.View → Nat} (O : SObj P w C H a e f items seen) (k : Keep3 a H H') {b : Addr} {s : Wa.Stop} (h : StopAt C.CS H b s) : StopAt C.CS H' b s := by
  obtain ⟨dx, va, h1, r, h2, h3⟩ := h
  have z1 := O.ne3 h1 (fun _ z => nomatch z) (fun _ z => nomatch z)
  have z2 := O.ne3 h2 (fun _ z => nomatch z) (fun _ z => nomatch z)
  have z3 := O.ne3 h3 (fun _ z => nomatch z) (fun _ z => nomatch z)
  exact ⟨dx, va, k _ _ h1 z1.1 z1.2.1 z1.2.2, r, k _ _ h2 z2.1 z2.2.1 z2.2.2, k _ _ h3 z3.1 z3.2.1 z3.2.2⟩
theorem si_small {e f : Gq02.E} {items : List Wa.It} {seen : Wa.View → Nat} {b : Nat} (h : Wa.SI e f items seen b) (he : Gq02.steps e ≤ 6) (hf : Gq02.steps f ≤ 3) : items.length ≤ 7340032 :=
  Nat.le_trans (Wa.si_count h) (Wa.small_pow (a := Gq02.steps e + 1) (b := Gq02.steps f) (by omega) hf)
theorem small_line : (7340032 : Nat) + 2 < sizeLine := by decide
/-! go_on -/
def spGo (P : Program) (w : World) (C : Cl3) : Sp := fun vs H Q _ => ∃ (a : SAd) (e f : Gq02.E) (items : List Wa.It) (seen : Wa.View → Nat) (k bnd : Nat) (x : Wa.It), vs = [.ref a.sA, nv k] ∧ SObj P w C H a e f items seen ∧ Gq02.steps e ≤ 6 ∧ Gq02.steps f ≤ 3 ∧ items[k]? = some x ∧ Wa.SI e f items seen bnd ∧ bnd ≤ 6 * Wa.num x.w + 2 ∧
  ∀ (H' : Hp) (t : List Wa.It) (seen' : Wa.View → Nat), SObj P w C H' a e f (items ++ t) seen' → Wa.SI e f (items ++ t) seen' (6 * Wa.num x.w + 6) → (∀ c ∈ Gq02.letters, Wa.Cov e f (items ++ t) x c) → Keep3 a H H' → Q .non H'
abbrev goN : List Str := ["self", "number", "stop", "letter", "states"]
theorem scGo : FnScope goN ["self", "number"] (defScope s_Search_go_on) := ⟨rfl, rfl, rfl, by decide +kernel, rfl, by decide +kernel, by decide +kernel⟩
abbrev PutM (P : Program) (w : World) (K : PySem.W.Frag) (mg : Str → Option Value) (base : Heap) (C : Cl3) (f : Addr) (fd : FuncData) : Prop := MetM P w K mg base CX0 3 C.CE "put_down" ["self", "states", "view", "letter", "before"] (spPut P w C) f fd
abbrev SViewM (P : Program) (w : World) (K : PySem.W.Frag) (mg : Str → Option Value) (base : Heap) (C : Cl3) (f : Addr) (fd : FuncData) : Prop := MetM P w K mg base CX0 4 C.CE "view_on" ["self", "view", "letter"] (spSView P w C) f fd
theorem ok_go {f fR fP fV : Addr} {fd fdR fdP fdV : FuncData} {t2 t5 : Tok} (F : Fun K "go_on" "Search.go_on" s_Search_go_on f fd) (B : Blt mg) (T : SearchT K mg C.CE) (TS : StopT K mg C.CS) (TM : MachT K mg C.CM) (R1 : ReachM P w K mg base fR fdR) (P1 : PutM P w K mg base C fP fdP) (V1 : SViewM P w K mg base C fV fdV)
    (m2 : mg "LOWEST_LETTER" = some (.int 2 t2)) (m5 : mg "HIGHEST_LETTER" = some (.int 5 t5)) : FnOk P w K mg base CX0 5 f fd ["self", "number"] (spGo P w C) := by
  refine F.ok scGo (fun vs H Q E h => ?_) (fun cdv A outer s H vs Q E hr h => ?_)
  · obtain ⟨a, e, f, items, seen, k, bnd, x, rfl, _⟩ := h
    rfl
  have hu := hu_of hr
  have hr2 : Room 2 _ := hr.mono (by decide)
  have hr3 : Room 3 _ := hr.mono (by decide)
  refine ⟨_, pss_cons (ps_set (i := 2) scGo.nd rfl (Or.inl rfl) (pe_ix ix_list (pe_fld (pv 0) rfl) (pv 1) (fun _ _ => rfl)))
    (pss_one (ps_for PassesOwn.never rfl (pi_range2 rfl B.range (pa_cons (pe_gi m2) (pa_cons (pe_op op_add (pe_gi m5) pe_int) pa_nil))) (pg_name (i := 3) scGo.nd rfl (Or.inl rfl))
      (pss_cons (ps_set (i := 4) scGo.nd rfl (Or.inl rfl) (pe_call R1.ok hr2 rfl R1.g R1.kp R1.b .nil pass0 (pa_cons (pe_dget hu (pe_fld (pe_fld (pv 0) rfl) rfl) (pv 3) (fun _ _ => rfl)) (pa_cons (pe_fld (pv 2) rfl) pa_nil))))
      (pss_one (ps_if (pt_cmpR op_ne (pv 4) pe_int (nomark _))
        (pss_one (ps_expr (pe_meth (pv 0) T.cl P1.m P1.ok hr3 P1.b .nil pass0 (pa_cons (pv 4) (pa_cons (pe_meth (pv 0) T.cl V1.m V1.ok hr V1.b .nil pass0 (pa_cons (pe_fld (pv 2) rfl) (pa_cons (pv 3) pa_nil))) (pa_cons (pv 3) (pa_cons (pv 1) pa_nil))))))) pss_nil))))), ?_⟩
  obtain ⟨a, e, f, items, seen, k, bnd, x, rfl, O, he, hf, hx, S, hb, q⟩ := h
  obtain ⟨dx, ho⟩ := O.ob
  obtain ⟨as, hL, hst⟩ := O.st
  obtain ⟨sa, hsa, hS⟩ := paired_getR hst hx
  have hk : k < items.length := (List.getElem?_eq_some_iff.mp hx).1
  have hax : (as.map V.ref)[k]? = some (.ref sa) := by rw [List.getElem?_map, hsa]; rfl
  refine ⟨_, rfl, a.sA, C.CE, dx, _, _, rfl, ho, T.cl, T.no _ (by simp), seF_3, _, rfl, a.L, _, _, _, rfl, rfl, SqL.of hL, atI_nat hax, ?_⟩
  refine ⟨_, _, rfl, rfl, 2, 6, rfl, ⟨by decide, by decide, by decide, by decide⟩, ?_⟩
  refine for_range (lo := 2) (n := 4) (fun i σ H' => ∃ (t : List Wa.It) (seen' : Wa.View → Nat) (v3 v4 : Option V), σ = [some (.ref a.sA), some (nv k), some (.ref sa), v3, v4] ∧ SObj P w C H' a e f (items ++ t) seen' ∧ StopAt C.CS H' sa x.s ∧ Wa.SI e f (items ++ t) seen' (6 * Wa.num x.w + 2 + i) ∧ (∀ c : Nat, c ∈ Gq02.letters → c < 2 + i → Wa.Cov e f (items ++ t) x c) ∧ Keep3 a H H')
    ⟨[], seen, none, none, rfl, by rw [List.append_nil]; exact O, hS, by rw [List.append_nil]; exact Wa.si_up S hb, fun c hc h => by have := Wa.letter_ge hc; omega, fun c o e _ _ _ => e⟩ ?_ ?_
  · rintro i σ H' hi ⟨t, seen', v3, v4, rfl, O', hS', SI', cov, k3⟩
    have e2 : (V.int (2 + (i : Int))) = nv (2 + i) := by congr 1
    rw [e2]
    have hcl : 2 + i ∈ Gq02.letters := Wa.letter_of (by omega)
    obtain ⟨dx', ho'⟩ := O'.ob
    obtain ⟨mx, md, ads, hm, hads, hMv⟩ := O'.M1.ex
    obtain ⟨l1, gg1, hl1⟩ := moves_get hMv hads hcl
    obtain ⟨sx, va, hs1, hs2⟩ := id hS'
    refine ⟨_, rfl, a.sA, C.CE, dx', _, _, rfl, ho', T.cl, T.no _ (by simp), seF_1, a.m1, C.CM, mx, _, _, rfl, hm, TM.cl, MachT.n3 TM, mcF_mv, _, rfl, md, _, rfl, gg1, _, rfl, sa, C.CS, sx, _, _, rfl, hs1, TS.cl, TS.no _ (by simp), stF_s, l1, (Wa.mach e).mv (2 + i), x.s.states, rfl, .inl (SqL.of hl1), fun H2 s2 => ?_⟩
    have hx' : (items ++ t)[k]? = some x := by rw [List.getElem?_append_left hk]; exact hx
    have O2 := O'.same s2
    have hS2 := hS'.same s2
    have hsm := si_small SI' he hf
    have hline := small_line
    obtain ⟨pA, pB⟩ := Wa.si_put (c := 2 + i) SI' hx' hcl (by omega)
    have ev : x.s.view = Wa.viewAt f x.w := (SI'.ok x (List.mem_of_getElem? hx')).2.1
    have ebnd : 6 * Wa.num x.w + (2 + i) + 1 = 6 * Wa.num x.w + 2 + (i + 1) := by omega
    refine ⟨_, rfl, rfl, _, rfl, ?_⟩
    by_cases c0 : Wa.reach ((Wa.mach e).mv (2 + i)) x.s.states = 0
    · refine ifF (by rw [c0]; simp) ?_
      obtain ⟨S3, C3⟩ := pA (by rw [c0]; simp [Wa.andNot])
      rw [ebnd] at S3
      refine ⟨t, seen', _, _, rfl, O2, hS2, S3, fun c hc h => ?_, Keep3.trans k3 (Same.keep3 s2)⟩
      by_cases z : c = 2 + i
      · subst z; exact C3
      · exact cov c hc (by omega)
    · refine ifT (by simp; omega) ?_
      obtain ⟨dx2, ho2⟩ := O2.ob
      obtain ⟨sx2, va2, hs12, hs22⟩ := id hS2
      refine ⟨_, rfl, a.sA, dx2, _, rfl, ho2, seF_no (by decide +kernel) (by decide +kernel) (by decide +kernel) (by decide +kernel) (by decide +kernel), _, rfl, _, rfl, a.sA, dx2, _, rfl, ho2, seF_no (by decide +kernel) (by decide +kernel) (by decide +kernel) (by decide +kernel) (by decide +kernel), _, rfl, sa, C.CS, sx2, _, _, rfl, hs12, TS.cl, TS.no _ (by simp), stF_v, _, rfl, ?_⟩
      refine ⟨a, e, f, items ++ t, seen', va2, x.s.view, x.w, 2 + i, rfl, O2, hf, hs22, ev, hcl, fun H3 vb O3 hvb k3' => ?_⟩
      have hS3 : StopAt C.CS H3 sa x.s := StopAt.keep3 O2 (Keep.keep3 k3') hS2
      refine ⟨_, rfl, _, rfl, a, e, f, items ++ t, seen', vb, Wa.viewOn (Wa.mach f) x.s.view (2 + i), Wa.reach ((Wa.mach e).mv (2 + i)) x.s.states, 2 + i, k, x.w ++ [2 + i], rfl, O3, by omega, hvb, fun z => ?_, fun z H4 O4 k4 => ?_⟩
      · obtain ⟨S3, C3⟩ := pA z
        rw [ebnd] at S3
        refine ⟨t, seen', _, _, rfl, O3, hS3, S3, fun c hc h => ?_, Keep3.trans k3 (Keep3.trans (Same.keep3 s2) (Keep.keep3 k3'))⟩
        by_cases y : c = 2 + i
        · subst y; exact C3
        · exact cov c hc (by omega)
      · obtain ⟨S3, C3⟩ := pB z
        rw [ebnd] at S3
        refine ⟨t ++ [_], _, _, _, rfl, by rw [← List.append_assoc]; exact O4, StopAt.keep3 O3 k4 hS3, by rw [← List.append_assoc]; exact S3, fun c hc h => ?_, Keep3.trans k3 (Keep3.trans (Same.keep3 s2) (Keep3.trans (Keep.keep3 k3') k4))⟩
        rw [← List.append_assoc]
        by_cases y : c = 2 + i
        · subst y; exact C3
        · exact Wa.cov_more (cov c hc (by omega))
  · rintro σ H' ⟨t, seen', v3, v4, rfl, O', hS', SI', cov, k3⟩
    exact q H' t seen' O' SI' (fun c hc => cov c hc (by have := Wa.letter_ge hc; omega)) k3
end
end Wp

namespace Wp
open PySem PySem.Spec PyProof.Rows L2 Wn Wr
def showB (e f : Gq02.E) (x : Wa.It) : Bool := decide (x.s.states &&& (Wa.mach e).fin ≠ 0) && !decide (x.s.view.2 &&& (Wa.mach f).fin ≠ 0)
theorem showB_iff {e f : Gq02.E} {x : Wa.It} : showB e f x = true ↔ Wa.ShowsIt e f x := by
  unfold showB Wa.ShowsIt
  rw [Bool.and_eq_true, Bool.not_eq_true', decide_eq_true_eq, decide_eq_false_iff_not]
theorem back_len {e f : Gq02.E} {items : List Wa.It} {seen : Wa.View → Nat} {b : Nat} (S : Wa.SI e f items seen b) : ∀ (i : Nat) (x : Wa.It), items[i]? = some x → x.w.length ≤ i := by
  intro i
  induction i using Nat.strongRecOn with
  | _ i ih =>
    intro x hx
    rcases S.back i x hx with ⟨_, e⟩ | ⟨h0, y, hb, hy, e⟩
    · rw [e]; simp
    · have := ih _ hb y hy
      rw [e]
      simp
      omega
section
variable {P : Program} {w : World} {K : PySem.W.Frag} {mg : Str → Option Value} {base : Heap} {C : Cl3}
/-! shows_it -/
def spShow (P : Program) (w : World) (C : Cl3) : Sp := fun vs H Q _ => ∃ (a : SAd) (e f : Gq02.E) (items : List Wa.It) (seen : Wa.View → Nat) (k : Nat) (x : Wa.It), vs = [.ref a.sA, nv k] ∧ SObj P w C H a e f items seen ∧ items[k]? = some x ∧ Q (.bl (showB e f x)) H
theorem scShow : FnScope ["self", "number", "stop"] ["self", "number"] (defScope s_Search_shows_it) := ⟨rfl, rfl, rfl, by decide +kernel, rfl, by decide +kernel, by decide +kernel⟩
abbrev AlongM (P : Program) (w : World) (K : PySem.W.Frag) (mg : Str → Option Value) (base : Heap) (CM f : Addr) (fd : FuncData) : Prop := DefM P w K mg base CX0 1 "view_leads_along" ["machine", "view"] (spAlong CM) f fd
theorem ok_show {f fA : Addr} {fd fdA : FuncData} (F : Fun K "shows_it" "Search.shows_it" s_Search_shows_it f fd) (T : SearchT K mg C.CE) (TS : StopT K mg C.CS) (TM : MachT K mg C.CM) (A1 : AlongM P w K mg base C.CM fA fdA) : FnOk P w K mg base CX0 2 f fd ["self", "number"] (spShow P w C) := by
  refine F.ok scShow (fun vs H Q E h => ?_) (fun cdv A outer s H vs Q E hr h => ?_)
  · obtain ⟨a, e, f, items, seen, k, x, rfl, _⟩ := h
    rfl
  refine ⟨_, pss_cons (ps_set (i := 2) scShow.nd rfl (Or.inl rfl) (pe_ix ix_list (pe_fld (pv 0) rfl) (pv 1) (fun _ _ => rfl)))
    (pss_one (ps_ret (pe_and (pe_cmpR op_ne (pe_op op_andN (pe_fld (pv 2) rfl) (pe_fld (pe_fld (pv 0) rfl) rfl)) pe_int (nomark _)) (pe_one (pe_not (pe_call A1.ok hr rfl A1.g A1.kp A1.b .nil pass0 (pa_cons (pe_fld (pv 0) rfl) (pa_cons (pe_fld (pv 2) rfl) pa_nil)))))))), ?_⟩
  obtain ⟨a, e, f, items, seen, k, x, rfl, O, hx, q⟩ := h
  obtain ⟨dx, ho⟩ := O.ob
  obtain ⟨as, hL, hst⟩ := O.st
  obtain ⟨sa, hsa, hS⟩ := paired_getR hst hx
  have hax : (as.map V.ref)[k]? = some (.ref sa) := by rw [List.getElem?_map, hsa]; rfl
  obtain ⟨sx, va, hs1, hs2⟩ := id hS
  obtain ⟨mx, md, ads, hm, _⟩ := O.M1.ex
  refine ⟨_, rfl, a.sA, C.CE, dx, _, _, rfl, ho, T.cl, T.no _ (by simp), seF_3, _, rfl, a.L, _, _, _, rfl, rfl, SqL.of hL, atI_nat hax, ?_⟩
  refine ⟨_, rfl, sa, C.CS, sx, _, _, rfl, hs1, TS.cl, TS.no _ (by simp), stF_s, _, rfl, a.sA, C.CE, dx, _, _, rfl, ho, T.cl, T.no _ (by simp), seF_1, a.m1, C.CM, mx, _, _, rfl, hm, TM.cl, MachT.n4 TM, mcF_fin, _, _, rfl, rfl, rfl, _, rfl, ?_⟩
  unfold showB at q
  by_cases c : x.s.states &&& (Wa.mach e).fin ≠ 0
  · refine ifT (by simpa using c) ?_
    rw [decide_eq_true c, Bool.true_and] at q
    exact ⟨_, rfl, a.sA, C.CE, dx, _, _, rfl, ho, T.cl, T.no _ (by simp), seF_2, _, rfl, sa, C.CS, sx, _, _, rfl, hs1, TS.cl, TS.no _ (by simp), stF_v, a.m2, va, Wa.mach f, x.s.view, rfl, O.M2, hs2, _, rfl, q⟩
  · refine ifF (by simpa using c) ?_
    rw [decide_eq_false c, Bool.false_and] at q
    exact q
/-! line_to -/
def spLineTo (P : Program) (w : World) (C : Cl3) : Sp := fun vs H Q _ => ∃ (a : SAd) (e f : Gq02.E) (items : List Wa.It) (seen : Wa.View → Nat) (k bnd : Nat) (x : Wa.It), vs = [.ref a.sA, nv k] ∧ SObj P w C H a e f items seen ∧ Wa.SI e f items seen bnd ∧ items[k]? = some x ∧ k ≤ 7340032 ∧
  ∀ (H' : Hp) (p : Addr), Same H H' → H p = none → H' p = some (.lst (x.w.map nv)) → Q (.ref p) H'
theorem scLineTo : FnScope ["self", "number", "letters", "at"] ["self", "number"] (defScope s_Search_line_to) := ⟨rfl, rfl, rfl, by decide +kernel, rfl, by decide +kernel, by decide +kernel⟩
def atOf (σ : L2.St) : Nat := match (σ : List (Option V))[3]? with
  | some (some (V.int z)) => z.toNat
  | _ => 0
theorem ok_lineTo {f : Addr} {fd : FuncData} (F : Fun K "line_to" "Search.line_to" s_Search_line_to f fd) (B : Blt mg) (T : SearchT K mg C.CE) (TS : StopT K mg C.CS) : FnOk P w K mg base CX0 1 f fd ["self", "number"] (spLineTo P w C) := by
  refine F.ok scLineTo (fun vs H Q E h => ?_) (fun cdv A outer s H vs Q E hr h => ?_)
  · obtain ⟨a, e, f, items, seen, k, bnd, x, rfl, _⟩ := h
    rfl
  refine ⟨_, pss_cons (ps_set (i := 2) scLineTo.nd rfl (Or.inl rfl) (pe_lst pa_nil))
    (pss_cons (ps_set (i := 3) scLineTo.nd rfl (Or.inl rfl) (pv 1))
    (pss_cons (ps_while PassesOwn.never (pt_cmpR op_gt (pv 3) pe_int (nomark _))
      (pss_cons (ps_expr (pe_bm PySem.F.plainAttrs_list PySem.F.slot_list_append PySem.F.type_list_append mt_append (pv 2) (pa_cons (pe_fld (pe_ix ix_list (pe_fld (pv 0) rfl) (pv 3) (fun _ _ => rfl)) rfl) pa_nil)))
      (pss_one (ps_set (i := 3) scLineTo.nd rfl (Or.inl rfl) (pe_fld (pe_ix ix_list (pe_fld (pv 0) rfl) (pv 3) (fun _ _ => rfl)) rfl)))))
    (pss_one (ps_ret (pe_lstRev (by rfl) (by rfl) B.list (by rfl) B.reversed (pv 2)))))), ?_⟩
  obtain ⟨a, e, f, items, seen, k, bnd, x, rfl, O, S, hx, hk, q⟩ := h
  refine ⟨(by show 0 ≤ sizeLine; decide), fun R nR => ?_⟩
  have s0 : Same H (upd H R (.lst [])) := same_upd nR
  refine ⟨_, rfl, ?_⟩
  refine while_by (fun σ H' => ∃ (j : Nat) (y : Wa.It) (ls : List Nat), σ = [some (.ref a.sA), some (nv k), some (.ref R), some (nv j)] ∧ items[j]? = some y ∧ x.w = y.w ++ ls.reverse ∧ ls.length + j ≤ k ∧ H' R = some (.lst (ls.map nv)) ∧ Same H H') (fun σ _ => atOf σ)
    ⟨k, x, [], rfl, hx, by simp, by simp, upd_same, s0⟩ ?_ ?_
  · rintro σ H' ⟨j, y, ls, rfl, hy, ew, hle, hR, s1⟩
    refine ⟨_, rfl, _, _, rfl, rfl, _, rfl, ?_⟩
    have O1 := O.same s1
    obtain ⟨dx, ho⟩ := O1.ob
    obtain ⟨as, hL, hst⟩ := O1.st
    obtain ⟨sa, hsa, hS⟩ := paired_getR hst hy
    have hax : (as.map V.ref)[j]? = some (.ref sa) := by rw [List.getElem?_map, hsa]; rfl
    obtain ⟨sx, va, hs1, hs2⟩ := id hS
    rcases S.back j y hy with ⟨ej, ey⟩ | ⟨h0, y', hb, hy', ey⟩
    · refine ifF (by subst ej; simp) ?_
      refine ⟨_, rfl, R, _, rfl, SqL.of hR, fun p np => ?_⟩
      have ex : x.w = ls.reverse := by rw [ew, ey]; rfl
      refine q _ p (s1.trans (same_upd np)) ?_ ?_
      · exact s1.free np
      · rw [upd_same, ex, List.map_reverse]
    · refine ifT (by simp; omega) ?_
      have hRL : R ≠ a.L := fun z => by
        obtain ⟨as0, hL0, _⟩ := O.st
        rw [z, hL0] at nR
        cases nR
      have kR : Keep R H' (upd H' R (.lst (ls.map nv ++ [nv y.s.letter]))) := keep_upd
      refine ⟨_, rfl, .inl ⟨rfl, _, SqL.of hR⟩, _, rfl, a.sA, C.CE, dx, _, _, rfl, ho, T.cl, T.no _ (by simp), seF_3, _, rfl, a.L, _, _, _, rfl, rfl, SqL.of hL, atI_nat hax, sa, C.CS, sx, _, _, rfl, hs1, TS.cl, TS.no _ (by simp), stF_l, R, _, _, rfl, rfl, hR, ?_, ?_⟩
      · rw [List.length_map]
        have h9 := small_line
        omega
      · have ho2 := kR _ _ ho (ins_ne_lst ho hR)
        have hL2 := kR _ _ hL (Ne.symm hRL)
        have hs12 := kR _ _ hs1 (ins_ne_lst hs1 hR)
        refine ⟨_, rfl, a.sA, C.CE, dx, _, _, rfl, ho2, T.cl, T.no _ (by simp), seF_3, _, rfl, a.L, _, _, _, rfl, rfl, SqL.of hL2, atI_nat hax, sa, C.CS, sx, _, _, rfl, hs12, TS.cl, TS.no _ (by simp), stF_b, ?_⟩
        refine ⟨⟨y.s.before, y', ls ++ [y.s.letter], rfl, hy', ?_, by simp; omega, ?_, fun b o e => ?_⟩, ?_⟩
        · rw [ew, ey, List.reverse_append]
          simp
        · rw [upd_same, List.map_append]
          rfl
        · rw [upd_ne (ne_of_none e nR)]
          exact s1 _ _ e
        · show ((y.s.before : Nat) : Int).toNat < ((j : Nat) : Int).toNat
          omega
  · rintro σ H' Q1 Q2 hq ⟨v, hv, i, j, e1, e2, b, e3, h⟩
    exact ⟨v, hv, i, j, e1, e2, b, e3, hq _ _ h⟩
end
end Wp

namespace Wp
open PySem PySem.Spec PyProof.Rows L2 Wn Wr
section
variable {P : Program} {w : World} {K : PySem.W.Frag} {mg : Str → Option Value} {base : Heap} {C : Cl3}
/-! line_that_shows_it -/
def spLine (CM : Addr) : Sp := fun vs H Q _ => ∃ (m1 m2 : Addr) (e f : Gq02.E), vs = [.ref m1, .ref m2] ∧ MachAt CM H m1 (Wa.mach e) ∧ MachAt CM H m2 (Wa.mach f) ∧ Gq02.steps e ≤ 6 ∧ Gq02.steps f ≤ 3 ∧
  (Gq02.differ e f = none → ∀ H', Same H H' → Q .non H') ∧
  (∀ wd, Gq02.differ e f = some wd → wd.length ≤ 7340032 → ∀ (H' : Hp) (p : Addr), Same H H' → H p = none → H' p = some (.lst (wd.map nv)) → Q (.ref p) H')
abbrev lnN : List Str := ["first", "second", "search", "number"]
theorem scLine : FnScope lnN ["first", "second"] (defScope s_line_that_shows_it) := ⟨rfl, rfl, rfl, by decide +kernel, rfl, by decide +kernel, by decide +kernel⟩
abbrev GoM (P : Program) (w : World) (K : PySem.W.Frag) (mg : Str → Option Value) (base : Heap) (C : Cl3) (f : Addr) (fd : FuncData) : Prop := MetM P w K mg base CX0 5 C.CE "go_on" ["self", "number"] (spGo P w C) f fd
abbrev ShowM (P : Program) (w : World) (K : PySem.W.Frag) (mg : Str → Option Value) (base : Heap) (C : Cl3) (f : Addr) (fd : FuncData) : Prop := MetM P w K mg base CX0 2 C.CE "shows_it" ["self", "number"] (spShow P w C) f fd
abbrev LineToM (P : Program) (w : World) (K : PySem.W.Frag) (mg : Str → Option Value) (base : Heap) (C : Cl3) (f : Addr) (fd : FuncData) : Prop := MetM P w K mg base CX0 1 C.CE "line_to" ["self", "number"] (spLineTo P w C) f fd
abbrev View0M (P : Program) (w : World) (K : PySem.W.Frag) (mg : Str → Option Value) (base : Heap) (CM f : Addr) (fd : FuncData) : Prop := DefM P w K mg base CX0 1 "view_of_no_letters" ["machine"] (spView0 CM) f fd
def numOf (σ : L2.St) : Nat := match (σ : List (Option V))[3]? with
  | some (some (V.int z)) => 7340033 - z.toNat
  | _ => 0
theorem li_at {e f : Gq02.E} {items : List Wa.It} {seen : Wa.View → Nat} {k : Nat} {x : Wa.It} (I : Wa.LI e f items seen k) (hx : items[k]? = some x) : Wa.SI e f items seen (6 * Wa.num x.w + 2) := by
  have := I.si
  rw [hx] at this
  exact this
theorem no_here {m : Str} {m1 m2 L D1 D2 : Addr} (h : (m == ("first" : Str)) = false ∧ (m == ("second" : Str)) = false ∧ (m == ("stops" : Str)) = false ∧ (m == ("states_seen" : Str)) = false ∧ (m == ("views_on" : Str)) = false) : (seF m1 m2 L D1 D2).lookup m = none := seF_no h.1 h.2.1 h.2.2.1 h.2.2.2.1 h.2.2.2.2
theorem ok_line {f fI fP fV fS fL fG : Addr} {fd fdI fdP fdV fdS fdL fdG : FuncData} {tb : Tok} (F : Fun K "line_that_shows_it" "line_that_shows_it" s_line_that_shows_it f fd) (B : Blt mg) (M : SearchM P w K mg base C.CE fI fdI) (P1 : PutM P w K mg base C fP fdP) (V1 : View0M P w K mg base C.CM fV fdV) (S1 : ShowM P w K mg base C fS fdS) (L1 : LineToM P w K mg base C fL fdL) (G1 : GoM P w K mg base C fG fdG)
    (mb : mg "BEGINNING" = some (.int 1 tb)) : FnOk P w K mg base CX0 6 f fd ["first", "second"] (spLine C.CM) := by
  refine F.ok scLine (fun vs H Q E h => ?_) (fun cdv A outer s H vs Q E hr h => ?_)
  · obtain ⟨m1, m2, e, f, rfl, _⟩ := h
    rfl
  have hr1 : Room 1 _ := hr.mono (by decide)
  have hr2 : Room 2 _ := hr.mono (by decide)
  have hr3 : Room 3 _ := hr.mono (by decide)
  refine ⟨_, pss_cons (ps_set (i := 2) scLine.nd rfl (Or.inl rfl) (pe_make M.m M.ok hr2 rfl M.T.g M.b .nil pass0 (pa_cons (pv 0) (pa_cons (pv 1) pa_nil))))
    (pss_cons (ps_expr (pe_meth (pv 2) M.T.cl P1.m P1.ok hr3 P1.b .nil pass0 (pa_cons (pe_gi mb) (pa_cons (pe_call V1.ok hr1 rfl V1.g V1.kp V1.b .nil pass0 (pa_cons (pv 1) pa_nil)) (pa_cons pe_int (pa_cons pe_int pa_nil))))))
    (pss_cons (ps_set (i := 3) scLine.nd rfl (Or.inl rfl) pe_int)
    (pss_cons (ps_while PassesOwn.never (pt_cmpR op_lt (pv 3) (pe_callB call_len_seq (by rfl) B.len PySem.boot_len (pa_cons (pe_fld (pv 2) rfl) pa_nil)) (nomark _))
      (pss_cons (ps_if (pt_val (pe_meth (pv 2) M.T.cl S1.m S1.ok hr2 S1.b .nil pass0 (pa_cons (pv 3) pa_nil))) (pss_one (ps_ret (pe_meth (pv 2) M.T.cl L1.m L1.ok hr1 L1.b .nil pass0 (pa_cons (pv 3) pa_nil)))) pss_nil)
      (pss_cons (ps_expr (pe_meth (pv 2) M.T.cl G1.m G1.ok hr G1.b .nil pass0 (pa_cons (pv 3) pa_nil)))
      (pss_one (ps_aug (i := 3) scLine.nd rfl (Or.inl rfl) pe_int ip_add)))))
    (pss_one (ps_ret pe_non))))), ?_⟩
  obtain ⟨m1, m2, e, f, rfl, hM1, hM2, he, hf, qN, qS⟩ := h
  refine ⟨_, rfl, _, rfl, fun sA dx nx nd ne => ?_⟩
  refine ⟨sA, dx, m1, m2, rfl, upd_same, fun H1 L D1 D2 h1 k1 hL nL hD1 nD1 hs1 hD2 nD2 hs2 hDD => ⟨rfl, ?_⟩⟩
  have s1 : Same H H1 := Same.made nx nd k1
  have free : ∀ {c : Addr}, upd (upd H dx (.own sA)) sA (.ins C.CE dx []) c = none → H c = none := fun {c} z => by
    cases hh : H c with
    | none => rfl
    | some o =>
      rw [upd_ne (fun y => by rw [y, nx] at hh; cases hh), upd_ne (fun y => by rw [y, nd] at hh; cases hh), hh] at z
      cases z
  have O1 : SObj P w C H1 ⟨sA, m1, m2, L, D1, D2⟩ e f [] (fun _ => 0) :=
    ⟨⟨dx, h1⟩, hM1.same s1, hM2.same s1, ⟨[], hL, .nil⟩, ⟨[], ND.new hD1 hs1, Nat.zero_le _, fun v => rfl⟩, ⟨[], [], ND.new hD2 hs2, rfl, List.nodup_nil, fun x hx => (nomatch hx), fun v c hs => (nomatch hs)⟩, hDD⟩
  have hnf : (Wa.mach f).n ≤ 100 := by show Gq02.steps f ≤ 100; omega
  refine ⟨_, rfl, sA, dx, _, rfl, h1, no_here (by decide +kernel), _, rfl, m2, Wa.mach f, rfl, O1.M2, hnf, fun H2 va hva s2 => ?_⟩
  have O2 := O1.same s2
  refine ⟨⟨sA, m1, m2, L, D1, D2⟩, e, f, [], fun _ => 0, va, Wa.view0 (Gq02.steps f + 1), 1, 0, 0, [], rfl, O2, by decide, hva, fun z => ?_, fun _ H3 O3 k3 => ?_⟩
  · exfalso
    have : freshOf (fun _ => 0) 1 (Wa.view0 (Gq02.steps f + 1)) = 1 := by simp [freshOf, Wa.andNot]
    rw [this] at z
    cases z
  have efr : freshOf (fun _ => 0) 1 (Wa.view0 (Gq02.steps f + 1)) = 1 := by simp [freshOf, Wa.andNot]
  rw [efr] at O3
  have e01 : ((fun _ => 0 : Wa.View → Nat) (Wa.view0 (Gq02.steps f + 1)) ||| 1) = 1 := by simp
  rw [e01] at O3
  have O3 : SObj P w C H3 ⟨sA, m1, m2, L, D1, D2⟩ e f [⟨⟨1, Wa.view0 (Gq02.steps f + 1), 0, 0⟩, []⟩] (Wa.setAt (fun _ => 0) (Wa.view0 (Gq02.steps f + 1)) 1) := O3
  have toH : ∀ {H' : Hp}, Keep3 ⟨sA, m1, m2, L, D1, D2⟩ H2 H' → Same H H' := fun {H'} k c o ec => by
    refine k _ _ ((s1.trans s2) _ _ ec) ?_ ?_ ?_
    · intro z; rw [z, free nL] at ec; cases ec
    · intro z; rw [z, free nD1] at ec; cases ec
    · intro z; rw [z, free nD2] at ec; cases ec
  refine while_by (fun σ H' => ∃ (items : List Wa.It) (seen : Wa.View → Nat) (k : Nat), σ = [some (.ref m1), some (.ref m2), some (.ref sA), some (nv k)] ∧ SObj P w C H' ⟨sA, m1, m2, L, D1, D2⟩ e f items seen ∧ Wa.LI e f items seen k ∧ Keep3 ⟨sA, m1, m2, L, D1, D2⟩ H2 H') (fun σ _ => numOf σ)
    ⟨_, _, 0, rfl, O3, Wa.li_start e f, k3⟩ ?_ ?_
  · rintro σ H' ⟨items, seen, k, rfl, O', LI', k'⟩
    obtain ⟨dx', ho'⟩ := O'.ob
    obtain ⟨as, hLs, hst⟩ := O'.st
    have hlen := Paired.length hst
    refine ⟨_, rfl, _, rfl, sA, C.CE, dx', _, _, rfl, ho', M.T.cl, M.T.no _ (by simp), seF_3, L, _, rfl, .inl (SqL.of hLs), _, _, rfl, rfl, _, rfl, ?_⟩
    rw [List.length_map, hlen]
    by_cases ck : k < items.length
    · refine ifT (by simp; omega) ?_
      have hx : items[k]? = some items[k] := List.getElem?_eq_getElem ck
      have S0 := li_at LI' hx
      have hsm := si_small S0 he hf
      refine ⟨_, rfl, sA, dx', _, rfl, ho', no_here (by decide +kernel), _, rfl, ⟨sA, m1, m2, L, D1, D2⟩, e, f, items, seen, k, items[k], rfl, O', hx, _, rfl, ?_⟩
      by_cases cs : showB e f items[k] = true
      · refine ifT cs ?_
        have hd := Wa.li_found LI' hx (showB_iff.mp cs)
        have ed := Wa.differ_unique (Wa.differ_is e f) hd
        refine ⟨_, rfl, sA, dx', _, rfl, ho', no_here (by decide +kernel), _, rfl, ⟨sA, m1, m2, L, D1, D2⟩, e, f, items, seen, k, _, items[k], rfl, O', S0, hx, by omega, fun H4 p s4 np hp => ?_⟩
        have hb := back_len S0 k _ hx
        exact qS _ ed (by omega) H4 p ((toH k').trans s4) ((toH k').free np) hp
      · refine ifF cs ?_
        refine ⟨_, rfl, sA, dx', _, rfl, ho', no_here (by decide +kernel), _, rfl, ⟨sA, m1, m2, L, D1, D2⟩, e, f, items, seen, k, _, items[k], rfl, O', he, hf, hx, S0, Nat.le_refl _, fun H4 t seen' O4 S4 C4 k4 => ?_⟩
        have L4 := Wa.li_next LI' hx (fun z => cs (showB_iff.mpr z)) S4 C4
        refine ⟨_, rfl, _, _, rfl, rfl, ⟨items ++ t, seen', k + 1, rfl, O4, L4, Keep3.trans k' k4⟩, ?_⟩
        show 7340033 - ((k : Int) + 1).toNat < 7340033 - ((k : Nat) : Int).toNat
        omega
    · refine ifF (by simp; omega) ?_
      have ek : k = items.length := by have := LI'.kle; omega
      subst ek
      have ed := Wa.differ_unique (Wa.differ_is e f) (Wa.li_end LI')
      exact qN ed H' (toH k')
  · rintro σ H' Q1 Q2 hq ⟨v, hv, h⟩
    obtain ⟨v2, hv2, b1, C1, d1, fs1, v3, e1, e2, e3, e4, e5, h⟩ := h
    obtain ⟨p, xs, e6, e7, i, j, e8, e9, b, e10, h⟩ := h
    exact ⟨v, hv, v2, hv2, b1, C1, d1, fs1, v3, e1, e2, e3, e4, e5, p, xs, e6, e7, i, j, e8, e9, b, e10, hq _ _ h⟩
/-! is_within -/
abbrev LineM (P : Program) (w : World) (K : PySem.W.Frag) (mg : Str → Option Value) (base : Heap) (CM f : Addr) (fd : FuncData) : Prop := DefM P w K mg base CX0 6 "line_that_shows_it" ["first", "second"] (spLine CM) f fd
def spWithin (CM : Addr) : Sp := fun vs H Q _ => ∃ (m1 m2 : Addr) (e f : Gq02.E), vs = [.ref m1, .ref m2] ∧ MachAt CM H m1 (Wa.mach e) ∧ MachAt CM H m2 (Wa.mach f) ∧ Gq02.steps e ≤ 6 ∧ Gq02.steps f ≤ 3 ∧
  ∀ H', Same H H' → Q (.bl (Gq02.differ e f).isNone) H'
theorem scWithin : FnScope ["first", "second"] ["first", "second"] (defScope s_is_within) := ⟨rfl, rfl, rfl, by decide +kernel, rfl, by decide +kernel, by decide +kernel⟩
theorem ok_within {f fL : Addr} {fd fdL : FuncData} {CM : Addr} (F : Fun K "is_within" "is_within" s_is_within f fd) (L1 : LineM P w K mg base CM fL fdL) : FnOk P w K mg base CX0 7 f fd ["first", "second"] (spWithin CM) := by
  refine F.ok scWithin (fun vs H Q E h => ?_) (fun cdv A outer s H vs Q E hr h => ?_)
  · obtain ⟨m1, m2, e, f, rfl, _⟩ := h
    rfl
  refine ⟨_, pss_one (ps_ret (pe_cmpR op_isN (pe_call L1.ok hr rfl L1.g L1.kp L1.b .nil pass0 (pa_cons (pv 0) (pa_cons (pv 1) pa_nil))) pe_non (nomark _))), ?_⟩
  obtain ⟨m1, m2, e, f, rfl, hM1, hM2, he, hf, q⟩ := h
  refine ⟨_, rfl, _, rfl, m1, m2, e, f, rfl, hM1, hM2, he, hf, fun ed H' s1 => ?_, fun wd ed _ H' p s1 _ _ => ?_⟩
  · rw [ed] at q
    exact ⟨rfl, q H' s1⟩
  · rw [ed] at q
    exact ⟨rfl, q H' s1⟩
end
end Wp

namespace Wp
open PySem PySem.Spec PyProof.Rows L2 Wn Wr
abbrev s_read_line : Stmt := top 21
abbrev s_machine_that_leads_nowhere : Stmt := top 37
abbrev s_leads_straight : Stmt := top 38
abbrev s_leads_along : Stmt := top 45
abbrev s_shortest_line : Stmt := top 51
abbrev s_yes_or_no : Stmt := top 67
section
variable {P : Program} {w : World} {K : PySem.W.Frag} {mg : Str → Option Value} {base : Heap} {CM CN : Addr}
/-! read_line -/
def spReadLine (K : PySem.W.Frag) (CN : Addr) : Sp := fun vs H Q E => ∃ (a : Addr) (ls : List Nat), vs = [.ref a] ∧ SqL K H a (ls.map nv) ∧ ls.length ≤ 100 ∧ (Gq02.isLine ls = false → E (.ref CN) none H) ∧ (Gq02.isLine ls = true → Q (.ref a) H)
theorem scReadLine : FnScope ["letters", "number"] ["letters"] (defScope s_read_line) := ⟨rfl, rfl, rfl, by decide +kernel, rfl, by decide +kernel, by decide +kernel⟩
theorem not_line {ls : List Nat} (h : ¬ (ls.length ≤ 20 ∧ Wa.Lets ls)) : Gq02.isLine ls = false := by
  cases e : Gq02.isLine ls with
  | false => rfl
  | true => exact (h (Wa.isLine_iff.mp e)).elim
theorem ok_readLine {f fI : Addr} {fd fdI : FuncData} {t20 : Tok} (F : Fun K "read_line" "read_line" s_read_line f fd) (B : Blt mg) (N1 : ExcT K mg "NotAsTold" CN) (I1 : IsLetterM P w K mg base fI fdI) (m20 : mg "MOST_LETTERS_OF_LINE" = some (.int 20 t20)) : FnOk P w K mg base (L2.CX P w) 2 f fd ["letters"] (spReadLine K CN) := by
  refine F.okX scReadLine (fun vs H Q E h => ?_) (fun cdv A outer s H vs Q E hr h => ?_)
  · obtain ⟨a, ls, rfl, _⟩ := h
    rfl
  refine ⟨_, pss_cons (ps_if (pt_cmpR op_gt (pe_callB call_len_seq (by rfl) B.len PySem.boot_len (pa_cons (pv 0) pa_nil)) (pe_gi m20) (nomark _))
      (pss_one (ps_raise rfl (takes_of rfl rfl rfl rfl) (pmk_own0 PySem.F.excBase_Exception N1.x N1.g N1.k (raises_own N1.b N1.t) (by exact rfl)))) pss_nil)
    (pss_cons (ps_for (passes_of rfl) rfl (pi_list (pv 0)) (pg_name (i := 1) scReadLine.nd rfl (Or.inl rfl))
      (pss_one (ps_if (pt_not (pt_val (pe_call I1.ok hr rfl I1.g I1.kp I1.b .nil pass0 (pa_cons (pv 1) pa_nil))))
        (pss_one (ps_raise rfl (takes_of rfl rfl rfl rfl) (pmk_own0 PySem.F.excBase_Exception N1.x N1.g N1.k (raises_own N1.b N1.t) (by exact rfl)))) pss_nil)))
    (pss_one (ps_ret (pv 0)))), ?_⟩
  obtain ⟨a, ls, rfl, ha, hl, qN, qS⟩ := h
  refine ⟨_, rfl, a, _, rfl, .inl ha, _, _, rfl, rfl, _, rfl, ?_⟩
  rw [List.length_map]
  by_cases c20 : 20 < ls.length
  · refine ifT (by simp; omega) ?_
    exact qN (not_line (fun z => by omega))
  refine ifF (by simp; omega) ?_
  refine ⟨_, rfl, a, rfl, ⟨_, ha⟩, for_list (K := K) (a := a) (xs := ls.map nv) (fun i σ H' => H' = H ∧ (∃ v1 : Option V, σ = [some (.ref a), v1]) ∧ ∀ c ∈ ls.take i, c ∈ Gq02.letters) ⟨rfl, ⟨none, rfl⟩, fun c hc => (nomatch hc)⟩ (fun i σ H' _ ⟨e, _⟩ => by rw [e]; exact ha) ?_ ?_⟩
  · rintro i x σ H' hx ⟨rfl, ⟨v1, rfl⟩, hlt⟩
    obtain ⟨r, hr2, rfl⟩ := map_nv hx
    refine ⟨_, rfl, r, rfl, _, rfl, ?_⟩
    by_cases cc : 2 ≤ r ∧ r ≤ 5
    · refine ifF (by rw [decide_eq_true cc]; decide) ?_
      refine ⟨rfl, ⟨_, rfl⟩, fun c hc => ?_⟩
      rw [List.take_succ, hr2] at hc
      rcases List.mem_append.mp hc with z | z
      · exact hlt c z
      · obtain rfl : c = r := List.mem_singleton.mp z
        exact Wa.letter_of cc
    · refine ifT (by rw [decide_eq_false cc]; decide) ?_
      exact qN (not_line (fun z => cc (Wa.letter_ge (z.2 r (List.mem_of_getElem? hr2)))))
  · rintro σ H' ⟨rfl, ⟨v1, rfl⟩, hlt⟩
    rw [List.length_map, List.take_length] at hlt
    exact ⟨_, rfl, qS (Wa.isLine_iff.mpr ⟨by omega, hlt⟩)⟩
/-! machine_that_leads_nowhere -/
def spNowhere (C : Addr) : Sp := fun vs H Q _ => vs = [] ∧ ∀ (H' : Hp) (m : Addr), MachAt C H' m (Wa.mach .no) → Same H H' → Q (.ref m) H'
theorem scNowhere : FnScope [] [] (defScope s_machine_that_leads_nowhere) := ⟨rfl, rfl, rfl, by decide +kernel, rfl, by decide +kernel, by decide +kernel⟩
theorem ok_nowhere {f fM fI : Addr} {fd fdM fdI : FuncData} (F : Fun K "machine_that_leads_nowhere" "machine_that_leads_nowhere" s_machine_that_leads_nowhere f fd) (V1 : MovesM P w K mg base fM fdM) (M : MachM P w K mg base CM fI fdI) : FnOk P w K mg base CX0 3 f fd [] (spNowhere CM) := by
  refine F.ok scNowhere (fun vs H Q E h => ?_) (fun cdv A outer s H vs Q E hr h => ?_)
  · obtain ⟨rfl, _⟩ := h
    rfl
  refine ⟨_, pss_one (ps_ret (pe_make M.m M.ok hr rfl M.T.g M.b .nil pass0 (pa_cons pe_int (pa_cons (pe_call V1.ok hr rfl V1.g V1.kp V1.b .nil pass0 (pa_cons (pe_lst pa_nil) (pa_cons (pe_lst (pa_cons pe_int pa_nil)) pa_nil))) (pa_cons pe_int pa_nil))))), ?_⟩
  obtain ⟨rfl, q⟩ := h
  refine ⟨(by show 0 ≤ sizeLine; decide), fun a na => ⟨(by show 1 ≤ sizeLine; decide), fun b nb => ?_⟩⟩
  have s1 : Same H (upd H a (.lst [])) := same_upd na
  have s2 : Same (upd H a (.lst [])) (upd (upd H a (.lst [])) b (.lst [.int 0])) := same_upd nb
  refine ⟨a, b, [], [0], rfl, SqL.of (s2 _ _ upd_same), by decide, SqL.of upd_same, by decide, fun H3 d ads hads hM _ s3 => ?_⟩
  intro x dx nx nd ne
  refine ⟨x, dx, d, 0, 0, rfl, upd_same, fun H4 hx k4 => ⟨rfl, ?_⟩⟩
  have s4 : Same H3 H4 := Same.made nx nd k4
  exact q H4 x ⟨dx, d, ads, hx, hads, s4 _ _ hM.1, fun i l hl => s4 _ _ (hM.2 i l hl)⟩ (((s1.trans s2).trans s3).trans s4)
/-! leads_straight -/
def spStr (K : PySem.W.Frag) (C : Addr) : Sp := fun vs H Q _ => ∃ (m a : Addr) (e : Gq02.E) (ls : List Nat), vs = [.ref m, .ref a] ∧ MachAt C H m (Wa.mach e) ∧ SqL K H a (ls.map nv) ∧ Wa.Lets ls ∧ ∀ H', Same H H' → Q (.bl (Gq02.straight e ls)) H'
theorem scStr : FnScope ["machine", "letters", "states", "letter"] ["machine", "letters"] (defScope s_leads_straight) := ⟨rfl, rfl, rfl, by decide +kernel, rfl, by decide +kernel, by decide +kernel⟩
theorem runOn_take {M : Wa.Mach} {S i r : Nat} {ls : List Nat} (h : ls[i]? = some r) : Wa.runOn M S (ls.take (i + 1)) = Wa.reach (M.mv r) (Wa.runOn M S (ls.take i)) := by
  unfold Wa.runOn
  rw [List.take_succ, h, List.foldl_append]
  rfl
theorem ok_str {f fR : Addr} {fd fdR : FuncData} {tb : Tok} (F : Fun K "leads_straight" "leads_straight" s_leads_straight f fd) (T : MachT K mg CM) (R1 : ReachM P w K mg base fR fdR) (mb : mg "BEGINNING" = some (.int 1 tb)) : FnOk P w K mg base CX0 3 f fd ["machine", "letters"] (spStr K CM) := by
  refine F.ok scStr (fun vs H Q E h => ?_) (fun cdv A outer s H vs Q E hr h => ?_)
  · obtain ⟨m, a, e, ls, rfl, _⟩ := h
    rfl
  have hu := hu_of hr
  refine ⟨_, pss_cons (ps_set (i := 2) scStr.nd rfl (Or.inl rfl) (pe_gi mb))
    (pss_cons (ps_for PassesOwn.never rfl (pi_list (pv 1)) (pg_name (i := 3) scStr.nd rfl (Or.inl rfl))
      (pss_one (ps_set (i := 2) scStr.nd rfl (Or.inl rfl) (pe_call R1.ok hr rfl R1.g R1.kp R1.b .nil pass0 (pa_cons (pe_dget hu (pe_fld (pv 0) rfl) (pv 3) (fun _ _ => rfl)) (pa_cons (pv 2) pa_nil))))))
    (pss_one (ps_ret (pe_cmpR op_ne (pe_op op_andN (pv 2) (pe_fld (pv 0) rfl)) pe_int (nomark _))))), ?_⟩
  obtain ⟨m, a, e, ls, rfl, hM, ha, hls, q⟩ := h
  obtain ⟨dx, d, ads, hm, hads, hMv⟩ := hM.ex
  refine ⟨_, rfl, a, rfl, ⟨_, ha⟩, for_list (K := K) (a := a) (xs := ls.map nv) (fun i σ H' => Same H H' ∧ ∃ v3 : Option V, σ = [some (.ref m), some (.ref a), some (nv (Wa.runOn (Wa.mach e) 1 (ls.take i))), v3]) ⟨Same.refl H, none, rfl⟩ (fun i σ H' _ ⟨s1, _⟩ => s1.seq ha) ?_ ?_⟩
  · rintro i x σ H' hx ⟨s1, v3, rfl⟩
    obtain ⟨r, hr2, rfl⟩ := map_nv hx
    obtain ⟨l1, g1, hl1⟩ := moves_get (H := H') (c := r) ⟨s1 _ _ hMv.1, fun i l el => s1 _ _ (hMv.2 i l el)⟩ hads (hls r (List.mem_of_getElem? hr2))
    refine ⟨_, rfl, m, CM, dx, _, _, rfl, s1 _ _ hm, T.cl, MachT.n3 T, mcF_mv, _, rfl, d, _, rfl, g1, _, rfl, l1, (Wa.mach e).mv r, _, rfl, .inl (SqL.of hl1), fun H2 s2 => ?_⟩
    exact ⟨s1.trans s2, some (nv r), by rw [runOn_take hr2]; rfl⟩
  · rintro σ H' ⟨s1, v3, rfl⟩
    rw [List.length_map, List.take_length]
    refine ⟨_, rfl, _, rfl, m, CM, dx, _, _, rfl, s1 _ _ hm, T.cl, MachT.n4 T, mcF_fin, _, _, rfl, rfl, rfl, ?_⟩
    have q1 := q H' s1
    rw [Wa.straight_mach] at q1
    simpa using q1
/-! leads_along -/
def spLA (K : PySem.W.Frag) (C : Addr) : Sp := fun vs H Q _ => ∃ (m a : Addr) (e : Gq02.E) (ls : List Nat), vs = [.ref m, .ref a] ∧ MachAt C H m (Wa.mach e) ∧ Gq02.steps e ≤ 100 ∧ SqL K H a (ls.map nv) ∧ Wa.Lets ls ∧ ∀ H', Same H H' → Q (.bl (Gq02.leads e ls)) H'
theorem scLA : FnScope ["machine", "letters", "view", "letter"] ["machine", "letters"] (defScope s_leads_along) := ⟨rfl, rfl, rfl, by decide +kernel, rfl, by decide +kernel, by decide +kernel⟩
theorem viewAt_take {e : Gq02.E} {i r : Nat} {ls : List Nat} (h : ls[i]? = some r) : Wa.viewAt e (ls.take (i + 1)) = Wa.viewOn (Wa.mach e) (Wa.viewAt e (ls.take i)) r := by
  rw [List.take_succ, h]
  exact Wa.viewAt_snoc e _ r
theorem ok_la {f fV fO fA : Addr} {fd fdV fdO fdA : FuncData} (F : Fun K "leads_along" "leads_along" s_leads_along f fd) (V1 : View0M P w K mg base CM fV fdV) (O1 : ViewOnM P w K mg base CM fO fdO) (A1 : AlongM P w K mg base CM fA fdA) : FnOk P w K mg base CX0 4 f fd ["machine", "letters"] (spLA K CM) := by
  refine F.ok scLA (fun vs H Q E h => ?_) (fun cdv A outer s H vs Q E hr h => ?_)
  · obtain ⟨m, a, e, ls, rfl, _⟩ := h
    rfl
  have hr1 : Room 1 _ := hr.mono (by decide)
  refine ⟨_, pss_cons (ps_set (i := 2) scLA.nd rfl (Or.inl rfl) (pe_call V1.ok hr1 rfl V1.g V1.kp V1.b .nil pass0 (pa_cons (pv 0) pa_nil)))
    (pss_cons (ps_for PassesOwn.never rfl (pi_list (pv 1)) (pg_name (i := 3) scLA.nd rfl (Or.inl rfl))
      (pss_one (ps_set (i := 2) scLA.nd rfl (Or.inl rfl) (pe_call O1.ok hr rfl O1.g O1.kp O1.b .nil pass0 (pa_cons (pv 0) (pa_cons (pv 2) (pa_cons (pv 3) pa_nil)))))))
    (pss_one (ps_ret (pe_call A1.ok hr1 rfl A1.g A1.kp A1.b .nil pass0 (pa_cons (pv 0) (pa_cons (pv 2) pa_nil)))))), ?_⟩
  obtain ⟨m, a, e, ls, rfl, hM, he, ha, hls, q⟩ := h
  refine ⟨_, rfl, m, Wa.mach e, rfl, hM, he, fun H1 va hva s1 => ?_⟩
  refine ⟨_, rfl, a, rfl, ⟨_, s1.seq ha⟩, for_list (K := K) (a := a) (xs := ls.map nv) (fun i σ H' => Same H H' ∧ ∃ (va : Addr) (v3 : Option V), σ = [some (.ref m), some (.ref a), some (.ref va), v3] ∧ ViewAt H' va (Wa.viewAt e (ls.take i))) ⟨s1, va, none, rfl, hva⟩ (fun i σ H' _ ⟨s2, _⟩ => s2.seq ha) ?_ ?_⟩
  · rintro i x σ H' hx ⟨s2, va, v3, rfl, hv⟩
    obtain ⟨r, hr2, rfl⟩ := map_nv hx
    refine ⟨_, rfl, _, rfl, _, rfl, m, va, Wa.mach e, _, r, rfl, hM.same s2, hv, he, Wa.mach_length e, hls r (List.mem_of_getElem? hr2), fun H3 p hp s3 => ?_⟩
    refine ⟨s2.trans s3, p, _, rfl, ?_⟩
    rw [viewAt_take hr2]
    exact hp
  · rintro σ H' ⟨s2, va, v3, rfl, hv⟩
    rw [List.length_map, List.take_length] at hv
    refine ⟨_, rfl, _, rfl, m, va, Wa.mach e, _, rfl, hM.same s2, hv, ?_⟩
    have q1 := q H' s2
    rw [Wa.leads_mach e hls] at q1
    exact q1
/-! shortest_line -/
abbrev NowhereM (P : Program) (w : World) (K : PySem.W.Frag) (mg : Str → Option Value) (base : Heap) (CM f : Addr) (fd : FuncData) : Prop := DefM P w K mg base CX0 3 "machine_that_leads_nowhere" [] (spNowhere CM) f fd
def spShortest (CM : Addr) : Sp := fun vs H Q _ => ∃ (m : Addr) (e : Gq02.E), vs = [.ref m] ∧ MachAt CM H m (Wa.mach e) ∧ Gq02.steps e ≤ 6 ∧
  (Gq02.shortest e = none → ∀ H', Same H H' → Q .non H') ∧
  (∀ wd, Gq02.shortest e = some wd → wd.length ≤ 7340032 → ∀ (H' : Hp) (p : Addr), Same H H' → H p = none → H' p = some (.lst (wd.map nv)) → Q (.ref p) H')
theorem scShortest : FnScope ["machine"] ["machine"] (defScope s_shortest_line) := ⟨rfl, rfl, rfl, by decide +kernel, rfl, by decide +kernel, by decide +kernel⟩
theorem ok_shortest {f fL fN : Addr} {fd fdL fdN : FuncData} (F : Fun K "shortest_line" "shortest_line" s_shortest_line f fd) (L1 : LineM P w K mg base CM fL fdL) (N1 : NowhereM P w K mg base CM fN fdN) : FnOk P w K mg base CX0 7 f fd ["machine"] (spShortest CM) := by
  refine F.ok scShortest (fun vs H Q E h => ?_) (fun cdv A outer s H vs Q E hr h => ?_)
  · obtain ⟨m, e, rfl, _⟩ := h
    rfl
  have hr3 : Room 3 _ := hr.mono (by decide)
  refine ⟨_, pss_one (ps_ret (pe_call L1.ok hr rfl L1.g L1.kp L1.b .nil pass0 (pa_cons (pv 0) (pa_cons (pe_call0 N1.ok hr3 rfl N1.g N1.kp N1.b .nil pass0) pa_nil)))), ?_⟩
  obtain ⟨m, e, rfl, hM, he, qN, qS⟩ := h
  refine ⟨_, rfl, rfl, fun H1 m2 hM2 s1 => ?_⟩
  refine ⟨m, m2, e, .no, rfl, hM.same s1, hM2, he, by decide, fun ed H2 s2 => qN ed H2 (s1.trans s2), fun wd ed hwd H2 p s2 np hp => qS wd ed hwd H2 p (s1.trans s2) (s1.free np) hp⟩
/-! yes_or_no -/
def spYes : Sp := fun vs H Q _ => ∃ b : Bool, vs = [.bl b] ∧ Q (nv (if b = true then 1 else 0)) H
theorem scYes : FnScope ["holds"] ["holds"] (defScope s_yes_or_no) := ⟨rfl, rfl, rfl, by decide +kernel, rfl, by decide +kernel, by decide +kernel⟩
theorem ok_yes {f : Addr} {fd : FuncData} (F : Fun K "yes_or_no" "yes_or_no" s_yes_or_no f fd) : FnOk P w K mg base CX0 1 f fd ["holds"] spYes := by
  refine F.ok scYes (fun vs H Q E h => ?_) (fun cdv A outer s H vs Q E hr h => ?_)
  · obtain ⟨b, rfl, _⟩ := h
    rfl
  refine ⟨_, pss_one (ps_ret (pe_ifExp (pt_val (pv 0)) pe_int pe_int)), ?_⟩
  obtain ⟨b, rfl, q⟩ := h
  refine ⟨_, rfl, _, rfl, ?_⟩
  cases b with
  | true => exact ifT rfl q
  | false => exact ifF (by decide) q
end
end Wp

namespace Wp
open PySem PySem.Spec PyProof.Rows L2 Wn Wr
abbrev s_Questions_init : Stmt := inClass (top 68) 0
abbrev s_Questions_take_first : Stmt := inClass (top 68) 1
abbrev s_Questions_take_second : Stmt := inClass (top 68) 2
abbrev s_Questions_tell_within : Stmt := inClass (top 68) 3
abbrev s_Questions_tell_alike : Stmt := inClass (top 68) 5
abbrev s_Questions_refuse_unless_first_could_be_second : Stmt := inClass (top 68) 4
abbrev s_Questions_tell_leads : Stmt := inClass (top 68) 6
abbrev s_Questions_tell_straight : Stmt := inClass (top 68) 7
abbrev s_Questions_tell_shortest : Stmt := inClass (top 68) 8
abbrev s_Questions_swap : Stmt := inClass (top 68) 9
/-! ### Questions -/
def quF (m1 m2 : Addr) : List (Str × V) := [("first", .ref m1), ("second", .ref m2)]
section
variable {m1 m2 : Addr}
theorem quF_1 : (quF m1 m2).lookup ("first" : Str) = some (.ref m1) := lk_here
theorem quF_2 : (quF m1 m2).lookup ("second" : Str) = some (.ref m2) := (lk_past (by decide +kernel)).trans lk_here
theorem quF_no {m : Str} (h : (m == ("first" : Str)) = false ∧ (m == ("second" : Str)) = false) : (quF m1 m2).lookup m = none := (lk_past h.1).trans ((lk_past h.2).trans rfl)
theorem quF_new : putF "second" (.ref m2) (putF "first" (.ref m1) []) = quF m1 m2 := by
  repeat (first | rw [put_nil] | rw [put_past (by decide +kernel)])
  rfl
theorem quF_put1 {m : Addr} : putF "first" (.ref m) (quF m1 m2) = quF m m2 := put_here
theorem quF_put2 {m : Addr} : putF "second" (.ref m) (quF m1 m2) = quF m1 m := (put_past (by decide +kernel)).trans (congrArg _ put_here)
end
abbrev QuT (K : PySem.W.Frag) (mg : Str → Option Value) (C : Addr) : Prop := ClsT K mg "Questions" C ["first", "second"]
/-- what is kept of an expression: it may be asked about -/
structure ExOk (e : Gq02.E) (m : Nat) : Prop where
  real : Wa.Real e
  steps : Gq02.steps e ≤ m
  lets : Wa.LetE e
structure QAt0 (CQ CM : Addr) (H : Hp) (q : Addr) (d : Gq02.St) : Prop where
  ex : ∃ dx m1 m2, H q = some (.ins CQ dx (quF m1 m2)) ∧ MachAt CM H m1 (Wa.mach d.one) ∧ MachAt CM H m2 (Wa.mach d.two)
  one : ExOk d.one 6
  two : ExOk d.two 3
/-- the same, and the list at T is none of the machines' rows -/
structure QAt (CQ CM : Addr) (T : Addr) (H : Hp) (q : Addr) (d : Gq02.St) : Prop where
  ex : ∃ dx m1 m2, H q = some (.ins CQ dx (quF m1 m2)) ∧ MachN CM H m1 (Wa.mach d.one) T ∧ MachN CM H m2 (Wa.mach d.two) T
  one : ExOk d.one 6
  two : ExOk d.two 3
theorem MachAt.toN {C : Addr} {H : Hp} {m : Addr} {M : Wa.Mach} {T : Addr} (h : MachAt C H m M) (hT : H T = none) : MachN C H m M T := by
  obtain ⟨dx, d, ads, h1, h2, h3⟩ := h.ex
  refine ⟨dx, d, ads, h1, h2, h3, fun z => ?_⟩
  obtain ⟨i, hi⟩ := List.getElem?_of_mem z
  rw [h3.2 i T hi] at hT
  cases hT
theorem QAt0.to {CQ CM : Addr} {H : Hp} {q T : Addr} {d : Gq02.St} (h : QAt0 CQ CM H q d) (hT : H T = none) : QAt CQ CM T H q d := by
  obtain ⟨dx, m1, m2, h1, h2, h3⟩ := h.ex
  exact ⟨⟨dx, m1, m2, h1, h2.toN hT, h3.toN hT⟩, h.one, h.two⟩
theorem QAt.same {CQ CM T : Addr} {H H' : Hp} {q : Addr} {d : Gq02.St} (s : Same H H') (h : QAt CQ CM T H q d) : QAt CQ CM T H' q d := by
  obtain ⟨dx, m1, m2, h1, h2, h3⟩ := h.ex
  exact ⟨⟨dx, m1, m2, s _ _ h1, h2.same s, h3.same s⟩, h.one, h.two⟩
/-- what a call comes to -/
structure ECls where
  CN : Addr
  CT : Addr
  CL : Addr
structure Out (CQ CM T : Addr) (X : ECls) (H : Hp) (q : Addr) (d : Gq02.St) (r : Gq02.St × List Int) (Q : VK) (E : XK) : Prop where
  form : r = (d, [-1]) → ∀ H', Same H H' → E (.ref X.CN) none H'
  size : r = (d, [-5]) → ∀ H', Same H H' → E (.ref X.CT) none H'
  fine : ∀ (H' : Hp) (p : Addr), QAt CQ CM T H' q r.1 → Keep q H H' → H p = none → H' p = some (.lst (r.2.map V.int)) → r.2.length ≤ 8000000 → Q (.ref p) H'
section
variable {P : Program} {w : World} {K : PySem.W.Frag} {mg : Str → Option Value} {base : Heap} {CQ CM : Addr} {X : ECls}
theorem Keep.free {q l : Addr} {H H' : Hp} {o : HO} (k : Keep q H H') (hq : H q = some o) (h : H' l = none) (hq' : H' q ≠ none := by rw [upd_same]; exact fun z => nomatch z) : H l = none := by
  cases e : H l with
  | none => rfl
  | some u =>
    by_cases z : l = q
    · subst z
      exact (hq' h).elim
    · rw [k _ _ e z] at h
      cases h
theorem MachAt.keepI {C m q CQ dx : Addr} {fs : List (Str × V)} {H H' : Hp} {M : Wa.Mach} (k : Keep q H H') (hq : H q = some (.ins CQ dx fs)) (hC : C ≠ CQ) (h : MachAt C H m M) : MachAt C H' m M := by
  obtain ⟨mx, dd, ads, h1, h2, h3, h4⟩ := h.ex
  exact ⟨mx, dd, ads, k _ _ h1 (fun z => by rw [z, hq] at h1; cases h1; exact hC rfl), h2, k _ _ h3 (ne_of h3 hq (fun z => nomatch z)), fun i l e => k _ _ (h4 i l e) (ne_of (h4 i l e) hq (fun z => nomatch z))⟩
theorem MachN.keepI {C m q CQ dx T : Addr} {fs : List (Str × V)} {H H' : Hp} {M : Wa.Mach} (k : Keep q H H') (hq : H q = some (.ins CQ dx fs)) (hC : C ≠ CQ) (h : MachN C H m M T) : MachN C H' m M T := by
  obtain ⟨mx, dd, ads, h1, h2, ⟨h3, h4⟩, h5⟩ := h.ex
  exact ⟨mx, dd, ads, k _ _ h1 (fun z => by rw [z, hq] at h1; cases h1; exact hC rfl), h2, ⟨k _ _ h3 (ne_of h3 hq (fun z => nomatch z)), fun i l e => k _ _ (h4 i l e) (ne_of (h4 i l e) hq (fun z => nomatch z))⟩, h5⟩
theorem MachN.keepT {C m T : Addr} {H H' : Hp} {M : Wa.Mach} {xs : List V} (k : Keep T H H') (hT : H T = some (.lst xs)) (h : MachN C H m M T) : MachN C H' m M T := by
  obtain ⟨mx, dd, ads, h1, h2, ⟨h3, h4⟩, h5⟩ := h.ex
  exact ⟨mx, dd, ads, k _ _ h1 (ins_ne_lst h1 hT), h2, ⟨k _ _ h3 (ne_of h3 hT (fun z => nomatch z)), fun i l e => k _ _ (h4 i l e) (fun z => h5 (by rw [← z]; exact List.mem_of_getElem? e))⟩, h5⟩
theorem QAt.keepT {T q : Addr} {H H' : Hp} {d : Gq02.St} {xs : List V} (k : Keep T H H') (hT : H T = some (.lst xs)) (h : QAt CQ CM T H q d) : QAt CQ CM T H' q d := by
  obtain ⟨dx, m1, m2, h1, h2, h3⟩ := h.ex
  exact ⟨⟨dx, m1, m2, k _ _ h1 (ins_ne_lst h1 hT), h2.keepT k hT, h3.keepT k hT⟩, h.one, h.two⟩
/-! Questions.__init__ -/
abbrev MachineM (P : Program) (w : World) (K : PySem.W.Frag) (mg : Str → Option Value) (base : Heap) (CM f : Addr) (fd : FuncData) : Prop := DefM P w K mg base CX0 6 "machine_of" ["parts"] (spMachine K CM) f fd
def spQuInit (CQ CM : Addr) : Sp := fun vs H Q _ => ∃ (p dx : Addr), vs = [.ref p] ∧ H p = some (.ins CQ dx []) ∧ ∀ H' : Hp, QAt0 CQ CM H' p Gq02.init → Keep p H H' → Q .non H'
theorem scQuInit : FnScope ["self"] ["self"] (defScope s_Questions_init) := ⟨rfl, rfl, rfl, by decide +kernel, rfl, by decide +kernel, by decide +kernel⟩
theorem stay_parts {H : Hp} {t l : Addr} (h1 : H t = some (.tup [.int 0, .int 0])) (h2 : H l = some (.lst [.ref t])) : Parts K H l (Wa.flat .stay) := ⟨[t], h2, .cons (.inl (.inl h1)) .nil⟩
theorem ok_quInit {f fM : Addr} {fd fdM : FuncData} {t0 : Tok} (F : Fun K "__init__" "Questions.__init__" s_Questions_init f fd) (T : QuT K mg CQ) (hC : CM ≠ CQ) (M1 : MachineM P w K mg base CM fM fdM) (m0 : mg "STAY" = some (.int 0 t0)) : FnOk P w K mg base CX0 7 f fd ["self"] (spQuInit CQ CM) := by
  refine F.ok scQuInit (fun vs H Q E h => ?_) (fun cdv A outer s H vs Q E hr h => ?_)
  · obtain ⟨p, dx, rfl, _⟩ := h
    rfl
  refine ⟨_, pss_cons (ps_fld (pv 0) (pe_call M1.ok hr rfl M1.g M1.kp M1.b .nil pass0 (pa_cons (pe_lst (pa_cons (pe_tup (pa_cons (pe_gi m0) (pa_cons pe_int pa_nil))) pa_nil)) pa_nil)) rfl)
    (pss_one (ps_fld (pv 0) (pe_call M1.ok hr rfl M1.g M1.kp M1.b .nil pass0 (pa_cons (pe_lst (pa_cons (pe_tup (pa_cons (pe_gi m0) (pa_cons pe_int pa_nil))) pa_nil)) pa_nil)) rfl)), ?_⟩
  obtain ⟨p, dx, rfl, hp, k⟩ := h
  refine ⟨(by show 2 ≤ sizeLine; decide), fun t nt => ⟨(by show 1 ≤ sizeLine; decide), fun l nl => ?_⟩⟩
  have s1 := (same_upd (o := .tup [.int 0, .int 0]) nt).trans (same_upd (o := .lst [.ref t]) nl)
  refine ⟨l, .stay, rfl, trivial, stay_parts (same_upd nl _ _ upd_same) upd_same, by decide, fun H1 mA hM _ s2 => ?_⟩
  have s12 := s1.trans s2
  refine ⟨_, rfl, p, CQ, dx, [], rfl, s12 _ _ hp, T.cl, T.no _ (by simp), (by show 0 < 1000; decide), ?_⟩
  refine ⟨(by show 2 ≤ sizeLine; decide), fun t' nt' => ⟨(by show 1 ≤ sizeLine; decide), fun l' nl' => ?_⟩⟩
  have kp : Keep p H1 (upd H1 p (.ins CQ dx (putF "first" (.ref mA) []))) := keep_upd
  have hM' : MachAt CM (upd H1 p (.ins CQ dx (putF "first" (.ref mA) []))) mA (Wa.mach .stay) := MachAt.keepI kp (s12 _ _ hp) hC hM
  have s3 := (same_upd (o := .tup [.int 0, .int 0]) nt').trans (same_upd (o := .lst [.ref t']) nl')
  refine ⟨l', .stay, rfl, trivial, stay_parts (same_upd nl' _ _ upd_same) upd_same, by decide, fun H2 mB hMB _ s4 => ?_⟩
  have s34 := s3.trans s4
  refine ⟨_, rfl, p, CQ, dx, _, rfl, s34 _ _ upd_same, T.cl, T.no _ (by simp), (by show 1 < 1000; decide), ?_⟩
  have kp2 : Keep p H2 (upd H2 p (.ins CQ dx (putF "second" (.ref mB) (putF "first" (.ref mA) [])))) := keep_upd
  refine k _ ⟨⟨dx, mA, mB, Eq.trans upd_same (congrArg (fun q => some (HO.ins CQ dx q)) quF_new), MachAt.keepI kp2 (s34 _ _ upd_same) hC (hM'.same s34), MachAt.keepI kp2 (s34 _ _ upd_same) hC hMB⟩, ⟨trivial, by decide, trivial⟩, ⟨trivial, by decide, trivial⟩⟩ fun c o e n => ?_
  exact kp2 _ _ (s34 _ _ (kp _ _ (s12 _ _ e) n)) n
/-! take_first, take_second -/
abbrev AllowedM (P : Program) (w : World) (K : PySem.W.Frag) (mg : Str → Option Value) (base : Heap) (CN CT f : Addr) (fd : FuncData) : Prop := DefM P w K mg base (L2.CX P w) 4 "read_allowed_parts" ["code", "most_letters"] (spAllowed K CN CT) f fd
def spTake (K : PySem.W.Frag) (CQ CM : Addr) (X : ECls) (call : List Nat → Gq02.Call) : Sp := fun vs H Q E => ∃ (q a T : Addr) (d : Gq02.St) (code : List Nat) (oT : HO), vs = [.ref q, .ref a] ∧ QAt CQ CM T H q d ∧ H T = some oT ∧ SqL K H a (code.map nv) ∧ code.length ≤ 100 ∧ Out CQ CM T X H q d (Gq02.step d (call code)) Q E
theorem step_one_long {d : Gq02.St} {code : List Nat} (h : 60 < code.length ∨ Gq02.parsed code = none) : Gq02.step d (.one code) = (d, [-1]) := by
  unfold Gq02.step
  dsimp only
  by_cases c : 60 < code.length
  · rw [if_pos c]
  · rw [if_neg c]
    rcases h with h | h
    · exact (c h).elim
    · rw [h]
theorem step_one_big {d : Gq02.St} {code : List Nat} {e : Gq02.E} (h : code.length ≤ 60) (he : Gq02.parsed code = some e) (hb : 6 < Gq02.steps e ∨ 30 < Gq02.size e) : Gq02.step d (.one code) = (d, [-5]) := by
  unfold Gq02.step
  dsimp only
  rw [if_neg (by omega), he]
  dsimp only
  rw [if_pos hb]
theorem step_one_ok {d : Gq02.St} {code : List Nat} {e : Gq02.E} (h : code.length ≤ 60) (he : Gq02.parsed code = some e) (hb : ¬ (6 < Gq02.steps e ∨ 30 < Gq02.size e)) : Gq02.step d (.one code) = ({ d with one := e }, [0]) := by
  unfold Gq02.step
  dsimp only
  rw [if_neg (by omega), he]
  dsimp only
  rw [if_neg hb]
theorem step_two_long {d : Gq02.St} {code : List Nat} (h : 60 < code.length ∨ Gq02.parsed code = none) : Gq02.step d (.two code) = (d, [-1]) := by
  unfold Gq02.step
  dsimp only
  by_cases c : 60 < code.length
  · rw [if_pos c]
  · rw [if_neg c]
    rcases h with h | h
    · exact (c h).elim
    · rw [h]
theorem step_two_big {d : Gq02.St} {code : List Nat} {e : Gq02.E} (h : code.length ≤ 60) (he : Gq02.parsed code = some e) (hb : 3 < Gq02.steps e ∨ 30 < Gq02.size e) : Gq02.step d (.two code) = (d, [-5]) := by
  unfold Gq02.step
  dsimp only
  rw [if_neg (by omega), he]
  dsimp only
  rw [if_pos hb]
theorem step_two_ok {d : Gq02.St} {code : List Nat} {e : Gq02.E} (h : code.length ≤ 60) (he : Gq02.parsed code = some e) (hb : ¬ (3 < Gq02.steps e ∨ 30 < Gq02.size e)) : Gq02.step d (.two code) = ({ d with two := e }, [0]) := by
  unfold Gq02.step
  dsimp only
  rw [if_neg (by omega), he]
  dsimp only
  rw [if_neg hb]
theorem scTake1 : FnScope ["self", "code"] ["self", "code"] (defScope s_Questions_take_first) := ⟨rfl, rfl, rfl, by decide +kernel, rfl, by decide +kernel, by decide +kernel⟩
theorem ok_take1 {f fM fA : Addr} {fd fdM fdA : FuncData} {t6 : Tok} (F : Fun K "take_first" "Questions.take_first" s_Questions_take_first f fd) (T : QuT K mg CQ) (hC : CM ≠ CQ) (M1 : MachineM P w K mg base CM fM fdM) (A1 : AllowedM P w K mg base X.CN X.CT fA fdA) (m6 : mg "MOST_LETTERS_OF_FIRST" = some (.int 6 t6)) : FnOk P w K mg base (L2.CX P w) 7 f fd ["self", "code"] (spTake K CQ CM X .one) := by
  refine F.okX scTake1 (fun vs H Q E h => ?_) (fun cdv A outer s H vs Q E hr h => ?_)
  · obtain ⟨q, a, T, d, code, oT, rfl, _⟩ := h
    rfl
  have hr4 : Room 4 _ := hr.mono (by decide)
  refine ⟨_, pss_cons (ps_fld (pv 0) (pe_call M1.ok hr rfl M1.g M1.kp M1.b .nil pass0 (pa_cons (pe_call A1.ok hr4 rfl A1.g A1.kp A1.b .nil (passes_call (takes_of rfl rfl rfl rfl) (fun _ _ _ _ h => h)) (pa_cons (pv 1) (pa_cons (pe_gi m6) pa_nil))) pa_nil)) rfl)
    (pss_one (ps_ret (pe_lst (pa_cons pe_int pa_nil)))), ?_⟩
  obtain ⟨q, a, TT, d, code, oT, rfl, hQ, hTT, ha, hl, hO⟩ := h
  obtain ⟨dx, m1, m2, h1, h2, h3⟩ := hQ.ex
  refine ⟨_, rfl, a, code, 6, rfl, ha, hl, fun z H' s1 => hO.form (step_one_long z) H' s1, fun e h60 he hb H' s1 => hO.size (step_one_big h60 he hb) H' s1, fun e h60 he hb hreal hfl H1 p s1 hP => ?_⟩
  have hst := step_one_ok (d := d) h60 he hb
  refine ⟨p, e, rfl, hreal, hP, hfl, fun H2 mA _ hMN s2 => ?_⟩
  have hM := hMN TT oT (s1 _ _ hTT)
  have s12 := s1.trans s2
  refine ⟨_, rfl, q, CQ, dx, _, rfl, s12 _ _ h1, T.cl, T.no _ (by simp), (by show 2 < 1000; decide), ?_⟩
  have kq : Keep q H2 (upd H2 q (.ins CQ dx (putF "first" (.ref mA) (quF m1 m2)))) := keep_upd
  refine ⟨(by show 1 ≤ sizeLine; decide), fun l nl => ?_⟩
  have s3 := same_upd (o := .lst [.int 0]) nl
  refine hO.fine _ l ?_ ?_ (s12.free (Keep.free kq (s12 _ _ h1) nl)) ?_ ?_
  · rw [hst]
    refine QAt.same s3 ⟨⟨dx, mA, m2, Eq.trans upd_same (congrArg (fun q => some (HO.ins CQ dx q)) quF_put1), MachN.keepI kq (s12 _ _ h1) hC hM, MachN.keepI kq (s12 _ _ h1) hC (h3.same s12)⟩, ⟨hreal, by dsimp only; omega, Wa.parsed_letE he⟩, hQ.two⟩
  · exact fun c o e n => s3 _ _ (kq _ _ (s12 _ _ e) n)
  · rw [hst]; exact upd_same
  · rw [hst]; show 1 ≤ 8000000; decide
theorem scTake2 : FnScope ["self", "code"] ["self", "code"] (defScope s_Questions_take_second) := ⟨rfl, rfl, rfl, by decide +kernel, rfl, by decide +kernel, by decide +kernel⟩
theorem ok_take2 {f fM fA : Addr} {fd fdM fdA : FuncData} {t3 : Tok} (F : Fun K "take_second" "Questions.take_second" s_Questions_take_second f fd) (T : QuT K mg CQ) (hC : CM ≠ CQ) (M1 : MachineM P w K mg base CM fM fdM) (A1 : AllowedM P w K mg base X.CN X.CT fA fdA) (m3 : mg "MOST_LETTERS_OF_SECOND" = some (.int 3 t3)) : FnOk P w K mg base (L2.CX P w) 7 f fd ["self", "code"] (spTake K CQ CM X .two) := by
  refine F.okX scTake2 (fun vs H Q E h => ?_) (fun cdv A outer s H vs Q E hr h => ?_)
  · obtain ⟨q, a, T, d, code, oT, rfl, _⟩ := h
    rfl
  have hr4 : Room 4 _ := hr.mono (by decide)
  refine ⟨_, pss_cons (ps_fld (pv 0) (pe_call M1.ok hr rfl M1.g M1.kp M1.b .nil pass0 (pa_cons (pe_call A1.ok hr4 rfl A1.g A1.kp A1.b .nil (passes_call (takes_of rfl rfl rfl rfl) (fun _ _ _ _ h => h)) (pa_cons (pv 1) (pa_cons (pe_gi m3) pa_nil))) pa_nil)) rfl)
    (pss_one (ps_ret (pe_lst (pa_cons pe_int pa_nil)))), ?_⟩
  obtain ⟨q, a, TT, d, code, oT, rfl, hQ, hTT, ha, hl, hO⟩ := h
  obtain ⟨dx, m1, m2, h1, h2, h3⟩ := hQ.ex
  refine ⟨_, rfl, a, code, 3, rfl, ha, hl, fun z H' s1 => hO.form (step_two_long z) H' s1, fun e h60 he hb H' s1 => hO.size (step_two_big h60 he hb) H' s1, fun e h60 he hb hreal hfl H1 p s1 hP => ?_⟩
  have hst := step_two_ok (d := d) h60 he hb
  refine ⟨p, e, rfl, hreal, hP, hfl, fun H2 mA _ hMN s2 => ?_⟩
  have hM := hMN TT oT (s1 _ _ hTT)
  have s12 := s1.trans s2
  refine ⟨_, rfl, q, CQ, dx, _, rfl, s12 _ _ h1, T.cl, T.no _ (by simp), (by show 2 < 1000; decide), ?_⟩
  have kq : Keep q H2 (upd H2 q (.ins CQ dx (putF "second" (.ref mA) (quF m1 m2)))) := keep_upd
  refine ⟨(by show 1 ≤ sizeLine; decide), fun l nl => ?_⟩
  have s3 := same_upd (o := .lst [.int 0]) nl
  refine hO.fine _ l ?_ ?_ (s12.free (Keep.free kq (s12 _ _ h1) nl)) ?_ ?_
  · rw [hst]
    refine QAt.same s3 ⟨⟨dx, m1, mA, Eq.trans upd_same (congrArg (fun q => some (HO.ins CQ dx q)) quF_put2), MachN.keepI kq (s12 _ _ h1) hC (h2.same s12), MachN.keepI kq (s12 _ _ h1) hC hM⟩, hQ.one, ⟨hreal, by dsimp only; omega, Wa.parsed_letE he⟩⟩
  · exact fun c o e n => s3 _ _ (kq _ _ (s12 _ _ e) n)
  · rw [hst]; exact upd_same
  · rw [hst]; show 1 ≤ 8000000; decide
/-! tell_within -/
def spTell (CQ CM : Addr) (X : ECls) (call : Gq02.Call) : Sp := fun vs H Q E => ∃ (q T : Addr) (d : Gq02.St), vs = [.ref q] ∧ QAt CQ CM T H q d ∧ Out CQ CM T X H q d (Gq02.step d call) Q E
theorem scTellW : FnScope ["self", "line"] ["self"] (defScope s_Questions_tell_within) := ⟨rfl, rfl, rfl, by decide +kernel, rfl, by decide +kernel, by decide +kernel⟩
theorem map_nv_int (l : List Nat) : (Gq02.ints l).map V.int = l.map nv := by
  unfold Gq02.ints
  rw [List.map_map]
  rfl
theorem ok_tellW {f fL : Addr} {fd fdL : FuncData} (F : Fun K "tell_within" "Questions.tell_within" s_Questions_tell_within f fd) (B : Blt mg) (T : QuT K mg CQ) (L1 : LineM P w K mg base CM fL fdL) : FnOk P w K mg base (L2.CX P w) 7 f fd ["self"] (spTell CQ CM X .within) := by
  refine F.okX scTellW (fun vs H Q E h => ?_) (fun cdv A outer s H vs Q E hr h => ?_)
  · obtain ⟨q, TT, d, rfl, _⟩ := h
    rfl
  refine ⟨_, pss_cons (ps_set (i := 1) scTellW.nd rfl (Or.inl rfl) (pe_call L1.ok hr rfl L1.g L1.kp L1.b .nil pass0 (pa_cons (pe_fld (pv 0) rfl) (pa_cons (pe_fld (pv 0) rfl) pa_nil))))
    (pss_cons (ps_if (pt_cmpR op_isN (pv 1) pe_non (nomark _)) (pss_one (ps_ret (pe_lst (pa_cons pe_int pa_nil)))) pss_nil)
    (pss_one (ps_ret (pe_op op_cat (pe_lst (pa_cons pe_int (pa_cons (pe_callB call_len_seq (by rfl) B.len PySem.boot_len (pa_cons (pv 1) pa_nil)) pa_nil))) (pv 1))))), ?_⟩
  obtain ⟨q, TT, d, rfl, hQ, hO⟩ := h
  obtain ⟨dx, m1, m2, h1, h2, h3⟩ := hQ.ex
  have hst : Gq02.step d .within = (d, Gq02.lineTold (Gq02.differ d.one d.two)) := rfl
  rw [hst] at hO
  refine ⟨_, rfl, q, CQ, dx, _, _, rfl, h1, T.cl, T.no _ (by simp), quF_1, _, rfl, q, CQ, dx, _, _, rfl, h1, T.cl, T.no _ (by simp), quF_2, m1, m2, d.one, d.two, rfl, h2.at, h3.at, hQ.one.steps, hQ.two.steps, fun ed H1 s1 => ?_, fun wd ed hwd H1 p s1 np hp => ?_⟩
  · rw [ed] at hO
    refine ⟨_, rfl, rfl, _, rfl, ifT (by rfl) ?_⟩
    refine ⟨(by show 1 ≤ sizeLine; decide), fun l nl => ?_⟩
    have s2 := same_upd (o := .lst [.int 1]) nl
    exact hO.fine _ l (hQ.same (s1.trans s2)) (Same.keep (s1.trans s2)) (s1.free nl) upd_same (by show 1 ≤ 8000000; decide)
  · rw [ed] at hO
    refine ⟨_, rfl, rfl, _, rfl, ifF (by simp) ?_⟩
    refine ⟨_, rfl, p, _, rfl, .inl (SqL.of hp), (by show 2 ≤ sizeLine; decide), fun l nl => ?_⟩
    have s2 := same_upd (o := .lst [.int 0, .int (((wd.map nv).length : Nat) : Int)]) nl
    have h9 := small_line
    refine ⟨_, rfl, l, p, _, _, rfl, rfl, upd_same, s2 _ _ hp, ?_, fun l2 nl2 => ?_⟩
    · simp only [List.length_cons, List.length_nil, List.length_map]
      omega
    · have s3 := same_upd (o := .lst ([.int 0, .int (((wd.map nv).length : Nat) : Int)] ++ wd.map nv)) nl2
      refine hO.fine _ l2 (hQ.same ((s1.trans s2).trans s3)) (Same.keep ((s1.trans s2).trans s3)) ((s1.trans s2).free nl2) ?_ ?_
      · rw [upd_same]
        show _ = some (HO.lst ((0 :: Gq02.ints (wd.length :: wd)).map V.int))
        rw [List.map_cons, map_nv_int, List.length_map]
        rfl
      · show (0 :: Gq02.ints (wd.length :: wd)).length ≤ 8000000
        simp [Gq02.ints]
        omega
end
end Wp

namespace Wp
open PySem PySem.Spec PyProof.Rows L2 Wn Wr
section
variable {P : Program} {w : World} {K : PySem.W.Frag} {mg : Str → Option Value} {base : Heap} {CQ CM : Addr} {X : ECls}
abbrev YesM (P : Program) (w : World) (K : PySem.W.Frag) (mg : Str → Option Value) (base : Heap) (f : Addr) (fd : FuncData) : Prop := DefM P w K mg base CX0 1 "yes_or_no" ["holds"] spYes f fd
abbrev WithinM (P : Program) (w : World) (K : PySem.W.Frag) (mg : Str → Option Value) (base : Heap) (CM f : Addr) (fd : FuncData) : Prop := DefM P w K mg base CX0 7 "is_within" ["first", "second"] (spWithin CM) f fd
abbrev ReadLineM (P : Program) (w : World) (K : PySem.W.Frag) (mg : Str → Option Value) (base : Heap) (CN f : Addr) (fd : FuncData) : Prop := DefM P w K mg base (L2.CX P w) 2 "read_line" ["letters"] (spReadLine K CN) f fd
abbrev LaM (P : Program) (w : World) (K : PySem.W.Frag) (mg : Str → Option Value) (base : Heap) (CM f : Addr) (fd : FuncData) : Prop := DefM P w K mg base CX0 4 "leads_along" ["machine", "letters"] (spLA K CM) f fd
abbrev StrM (P : Program) (w : World) (K : PySem.W.Frag) (mg : Str → Option Value) (base : Heap) (CM f : Addr) (fd : FuncData) : Prop := DefM P w K mg base CX0 3 "leads_straight" ["machine", "letters"] (spStr K CM) f fd
abbrev ShortestM (P : Program) (w : World) (K : PySem.W.Frag) (mg : Str → Option Value) (base : Heap) (CM f : Addr) (fd : FuncData) : Prop := DefM P w K mg base CX0 7 "shortest_line" ["machine"] (spShortest CM) f fd
/-! refuse_unless_first_could_be_second -/
def spRefuse (CQ CM : Addr) (X : ECls) : Sp := fun vs H Q E => ∃ (q T : Addr) (d : Gq02.St), vs = [.ref q] ∧ QAt CQ CM T H q d ∧ (3 < Gq02.steps d.one → E (.ref X.CT) none H) ∧ (¬ 3 < Gq02.steps d.one → Q .non H)
theorem scRefuse : FnScope ["self"] ["self"] (defScope s_Questions_refuse_unless_first_could_be_second) := ⟨rfl, rfl, rfl, by decide +kernel, rfl, by decide +kernel, by decide +kernel⟩
theorem ok_refuse {f : Addr} {fd : FuncData} {t3 : Tok} (F : Fun K "refuse_unless_first_could_be_second" "Questions.refuse_unless_first_could_be_second" s_Questions_refuse_unless_first_could_be_second f fd) (T : QuT K mg CQ) (TM : MachT K mg CM) (T1 : ExcT K mg "TooLarge" X.CT) (m3 : mg "MOST_LETTERS_OF_SECOND" = some (.int 3 t3)) : FnOk P w K mg base (L2.CX P w) 1 f fd ["self"] (spRefuse CQ CM X) := by
  refine F.okX scRefuse (fun vs H Q E h => ?_) (fun cdv A outer s H vs Q E hr h => ?_)
  · obtain ⟨q, TT, d, rfl, _⟩ := h
    rfl
  refine ⟨_, pss_one (ps_if (pt_cmpR op_gt (pe_fld (pe_fld (pv 0) rfl) rfl) (pe_gi m3) (nomark _))
      (pss_one (ps_raise rfl (takes_of rfl rfl rfl rfl) (pmk_own0 PySem.F.excBase_Exception T1.x T1.g T1.k (raises_own T1.b T1.t) (by exact rfl)))) pss_nil), ?_⟩
  obtain ⟨q, TT, d, rfl, hQ, qE, qN⟩ := h
  obtain ⟨dx, m1, m2, h1, h2, h3⟩ := hQ.ex
  obtain ⟨mx, md, ads, hm, _⟩ := h2.ex
  refine ⟨_, rfl, q, CQ, dx, _, _, rfl, h1, T.cl, T.no _ (by simp), quF_1, m1, CM, mx, _, _, rfl, hm, TM.cl, MachT.n1 TM, mcF_lc, _, _, rfl, rfl, _, rfl, ?_⟩
  have hn : (Wa.mach d.one).n = Gq02.steps d.one := rfl
  rw [hn]
  by_cases c3 : 3 < Gq02.steps d.one
  · refine ifT (by simp; omega) ?_
    exact qE c3
  · refine ifF (by simp; omega) ?_
    exact qN c3
abbrev RefuseM (P : Program) (w : World) (K : PySem.W.Frag) (mg : Str → Option Value) (base : Heap) (CQ CM : Addr) (X : ECls) (f : Addr) (fd : FuncData) : Prop := MetM P w K mg base (L2.CX P w) 1 CQ "refuse_unless_first_could_be_second" ["self"] (spRefuse CQ CM X) f fd
theorem qu_no {m : Str} {m1 m2 : Addr} (h : (m == ("first" : Str)) = false ∧ (m == ("second" : Str)) = false) : (quF m1 m2).lookup m = none := quF_no h
/-! tell_alike -/
theorem scTellA : FnScope ["self"] ["self"] (defScope s_Questions_tell_alike) := ⟨rfl, rfl, rfl, by decide +kernel, rfl, by decide +kernel, by decide +kernel⟩
theorem ok_tellA {f fW fY fR : Addr} {fd fdW fdY fdR : FuncData} (F : Fun K "tell_alike" "Questions.tell_alike" s_Questions_tell_alike f fd) (T : QuT K mg CQ) (R1 : RefuseM P w K mg base CQ CM X fR fdR) (W1 : WithinM P w K mg base CM fW fdW) (Y1 : YesM P w K mg base fY fdY) : FnOk P w K mg base (L2.CX P w) 8 f fd ["self"] (spTell CQ CM X .alike) := by
  refine F.okX scTellA (fun vs H Q E h => ?_) (fun cdv A outer s H vs Q E hr h => ?_)
  · obtain ⟨q, TT, d, rfl, _⟩ := h
    rfl
  have hr1 : Room 1 _ := hr.mono (by decide)
  refine ⟨_, pss_cons (ps_expr (pe_meth0 (pv 0) T.cl R1.m R1.ok hr1 R1.b .nil (passes_call (takes_of rfl rfl rfl rfl) (fun _ _ _ _ h => h))))
    (pss_one (ps_ret (pe_lst (pa_cons (pe_call Y1.ok hr1 rfl Y1.g Y1.kp Y1.b .nil pass0 (pa_cons (pe_and (pe_call W1.ok hr rfl W1.g W1.kp W1.b .nil pass0 (pa_cons (pe_fld (pv 0) rfl) (pa_cons (pe_fld (pv 0) rfl) pa_nil))) (pe_one (pe_call W1.ok hr rfl W1.g W1.kp W1.b .nil pass0 (pa_cons (pe_fld (pv 0) rfl) (pa_cons (pe_fld (pv 0) rfl) pa_nil))))) pa_nil)) pa_nil)))), ?_⟩
  obtain ⟨q, TT, d, rfl, hQ, hO⟩ := h
  obtain ⟨dx, m1, m2, h1, h2, h3⟩ := hQ.ex
  refine ⟨_, rfl, q, dx, _, rfl, h1, qu_no (by decide +kernel), q, TT, d, rfl, hQ, fun c3 => ?_, fun c3 => ?_⟩
  · have hst : Gq02.step d .alike = (d, [-5]) := by
      unfold Gq02.step
      dsimp only
      rw [if_pos c3]
    exact hO.size hst H (Same.refl H)
  · have hst : Gq02.step d .alike = (d, Gq02.ints [if (Gq02.differ d.one d.two).isNone = true ∧ (Gq02.differ d.two d.one).isNone = true then 1 else 0]) := by
      unfold Gq02.step
      dsimp only
      rw [if_neg c3]
    rw [hst] at hO
    have h26 := hQ.two.steps
    refine ⟨_, rfl, q, CQ, dx, _, _, rfl, h1, T.cl, T.no _ (by simp), quF_1, _, rfl, q, CQ, dx, _, _, rfl, h1, T.cl, T.no _ (by simp), quF_2, m1, m2, d.one, d.two, rfl, h2.at, h3.at, hQ.one.steps, hQ.two.steps, fun H1 s1 => ⟨_, rfl, ?_⟩⟩
    have done : ∀ (H2 : Hp) (s2 : Same H H2) (k : Nat), k = (if (Gq02.differ d.one d.two).isNone = true ∧ (Gq02.differ d.two d.one).isNone = true then 1 else 0) → ∀ p, H2 p = none → Q (.ref p) (upd H2 p (.lst [nv k])) := by
      intro H2 s2 k ek p np
      have s3 := same_upd (o := .lst [nv k]) np
      refine hO.fine _ p (hQ.same (s2.trans s3)) (Same.keep (s2.trans s3)) (s2.free np) ?_ (by show 1 ≤ 8000000; decide)
      rw [upd_same, map_nv_int, ← ek]
      rfl
    by_cases c1 : (Gq02.differ d.one d.two).isNone = true
    · refine ifT c1 ?_
      refine ⟨_, rfl, q, CQ, dx, _, _, rfl, s1 _ _ h1, T.cl, T.no _ (by simp), quF_2, _, rfl, q, CQ, dx, _, _, rfl, s1 _ _ h1, T.cl, T.no _ (by simp), quF_1, m2, m1, d.two, d.one, rfl, h3.at.same s1, h2.at.same s1, by omega, by omega, fun H2 s2 => ?_⟩
      refine ⟨_, rfl, (by show 1 ≤ sizeLine; decide), ?_⟩
      by_cases c2 : (Gq02.differ d.two d.one).isNone = true
      · rw [if_pos c2]
        exact done H2 (s1.trans s2) 1 (by rw [if_pos ⟨c1, c2⟩])
      · rw [if_neg c2]
        exact done H2 (s1.trans s2) 0 (by rw [if_neg (fun z => c2 z.2)])
    · refine ifF c1 ?_
      exact ⟨false, rfl, (by show 1 ≤ sizeLine; decide), done H1 s1 0 (by rw [if_neg (fun z => c1 z.1)])⟩
/-! tell_leads -/
theorem scTellL : FnScope ["self", "letters"] ["self", "letters"] (defScope s_Questions_tell_leads) := ⟨rfl, rfl, rfl, by decide +kernel, rfl, by decide +kernel, by decide +kernel⟩
theorem ok_tellL {f fR fL fY : Addr} {fd fdR fdL fdY : FuncData} (F : Fun K "tell_leads" "Questions.tell_leads" s_Questions_tell_leads f fd) (T : QuT K mg CQ) (R1 : ReadLineM P w K mg base X.CN fR fdR) (L1 : LaM P w K mg base CM fL fdL) (Y1 : YesM P w K mg base fY fdY) : FnOk P w K mg base (L2.CX P w) 5 f fd ["self", "letters"] (spTake K CQ CM X .leads) := by
  refine F.okX scTellL (fun vs H Q E h => ?_) (fun cdv A outer s H vs Q E hr h => ?_)
  · obtain ⟨q, a, T, d, code, oT, rfl, _⟩ := h
    rfl
  have hr1 : Room 1 _ := hr.mono (by decide)
  have hr2 : Room 2 _ := hr.mono (by decide)
  refine ⟨_, pss_one (ps_ret (pe_lst (pa_cons (pe_call Y1.ok hr1 rfl Y1.g Y1.kp Y1.b .nil pass0 (pa_cons (pe_call L1.ok hr rfl L1.g L1.kp L1.b .nil pass0 (pa_cons (pe_fld (pv 0) rfl) (pa_cons (pe_call R1.ok hr2 rfl R1.g R1.kp R1.b .nil (passes_call (takes_of rfl rfl rfl rfl) (fun _ _ _ _ h => h)) (pa_cons (pv 1) pa_nil)) pa_nil))) pa_nil)) pa_nil))), ?_⟩
  obtain ⟨q, a, TT, d, ls, oT, rfl, hQ, hTT, ha, hl, hO⟩ := h
  obtain ⟨dx, m1, m2, h1, h2, h3⟩ := hQ.ex
  refine ⟨_, rfl, q, CQ, dx, _, _, rfl, h1, T.cl, T.no _ (by simp), quF_2, _, rfl, a, ls, rfl, ha, hl, fun no => ?_, fun yes => ?_⟩
  · refine hO.form ?_ H (Same.refl H)
    unfold Gq02.step
    dsimp only
    rw [if_pos no]
  · have hst : Gq02.step d (.leads ls) = (d, Gq02.ints [if Gq02.leads d.two ls = true then 1 else 0]) := by
      unfold Gq02.step
      dsimp only
      rw [if_neg (by rw [yes]; decide)]
    rw [hst] at hO
    have h23 := hQ.two.steps
    refine ⟨m2, a, d.two, ls, rfl, h3.at, by omega, ha, (Wa.isLine_iff.mp yes).2, fun H1 s1 => ?_⟩
    refine ⟨_, rfl, (by show 1 ≤ sizeLine; decide), fun p np => ?_⟩
    have s2 := same_upd (o := .lst [nv (if Gq02.leads d.two ls = true then 1 else 0)]) np
    refine hO.fine _ p (hQ.same (s1.trans s2)) (Same.keep (s1.trans s2)) (s1.free np) ?_ (by show 1 ≤ 8000000; decide)
    rw [upd_same, map_nv_int]
    rfl
/-! tell_straight -/
theorem scTellS : FnScope ["self", "letters", "line"] ["self", "letters"] (defScope s_Questions_tell_straight) := ⟨rfl, rfl, rfl, by decide +kernel, rfl, by decide +kernel, by decide +kernel⟩
theorem ok_tellS {f fR fL fY : Addr} {fd fdR fdL fdY : FuncData} (F : Fun K "tell_straight" "Questions.tell_straight" s_Questions_tell_straight f fd) (T : QuT K mg CQ) (R1 : ReadLineM P w K mg base X.CN fR fdR) (L1 : StrM P w K mg base CM fL fdL) (Y1 : YesM P w K mg base fY fdY) : FnOk P w K mg base (L2.CX P w) 5 f fd ["self", "letters"] (spTake K CQ CM X .straight) := by
  refine F.okX scTellS (fun vs H Q E h => ?_) (fun cdv A outer s H vs Q E hr h => ?_)
  · obtain ⟨q, a, T, d, code, oT, rfl, _⟩ := h
    rfl
  have hr1 : Room 1 _ := hr.mono (by decide)
  have hr2 : Room 2 _ := hr.mono (by decide)
  have hr3 : Room 3 _ := hr.mono (by decide)
  refine ⟨_, pss_cons (ps_set (i := 2) scTellS.nd rfl (Or.inl rfl) (pe_call R1.ok hr2 rfl R1.g R1.kp R1.b .nil (passes_call (takes_of rfl rfl rfl rfl) (fun _ _ _ _ h => h)) (pa_cons (pv 1) pa_nil)))
    (pss_one (ps_ret (pe_lst (pa_cons (pe_call Y1.ok hr1 rfl Y1.g Y1.kp Y1.b .nil pass0 (pa_cons (pe_call L1.ok hr3 rfl L1.g L1.kp L1.b .nil pass0 (pa_cons (pe_fld (pv 0) rfl) (pa_cons (pv 2) pa_nil))) pa_nil)) (pa_cons (pe_call Y1.ok hr1 rfl Y1.g Y1.kp Y1.b .nil pass0 (pa_cons (pe_call L1.ok hr3 rfl L1.g L1.kp L1.b .nil pass0 (pa_cons (pe_fld (pv 0) rfl) (pa_cons (pv 2) pa_nil))) pa_nil)) pa_nil))))), ?_⟩
  obtain ⟨q, a, TT, d, ls, oT, rfl, hQ, hTT, ha, hl, hO⟩ := h
  obtain ⟨dx, m1, m2, h1, h2, h3⟩ := hQ.ex
  refine ⟨_, rfl, a, ls, rfl, ha, hl, fun no => ?_, fun yes => ?_⟩
  · refine hO.form ?_ H (Same.refl H)
    unfold Gq02.step
    dsimp only
    rw [if_pos no]
  · have hst : Gq02.step d (.straight ls) = (d, Gq02.ints [if Gq02.straight d.two ls = true then 1 else 0, if Gq02.straight d.one ls = true then 1 else 0]) := by
      unfold Gq02.step
      dsimp only
      rw [if_neg (by rw [yes]; decide)]
    rw [hst] at hO
    have hls := (Wa.isLine_iff.mp yes).2
    refine ⟨_, rfl, q, CQ, dx, _, _, rfl, h1, T.cl, T.no _ (by simp), quF_2, _, rfl, m2, a, d.two, ls, rfl, h3.at, ha, hls, fun H1 s1 => ?_⟩
    refine ⟨_, rfl, _, rfl, q, CQ, dx, _, _, rfl, s1 _ _ h1, T.cl, T.no _ (by simp), quF_1, _, rfl, m1, a, d.one, ls, rfl, h2.at.same s1, s1.seq ha, hls, fun H2 s2 => ?_⟩
    refine ⟨_, rfl, (by show 2 ≤ sizeLine; decide), fun p np => ?_⟩
    have s12 := s1.trans s2
    have s3 := same_upd (o := .lst [nv (if Gq02.straight d.two ls = true then 1 else 0), nv (if Gq02.straight d.one ls = true then 1 else 0)]) np
    refine hO.fine _ p (hQ.same (s12.trans s3)) (Same.keep (s12.trans s3)) (s12.free np) ?_ (by show 2 ≤ 8000000; decide)
    rw [upd_same, map_nv_int]
    rfl
/-! tell_shortest -/
theorem scTellM : FnScope ["self", "line"] ["self"] (defScope s_Questions_tell_shortest) := ⟨rfl, rfl, rfl, by decide +kernel, rfl, by decide +kernel, by decide +kernel⟩
theorem ok_tellM {f fL : Addr} {fd fdL : FuncData} (F : Fun K "tell_shortest" "Questions.tell_shortest" s_Questions_tell_shortest f fd) (B : Blt mg) (T : QuT K mg CQ) (N1 : ExcT K mg "NoLine" X.CL) (L1 : ShortestM P w K mg base CM fL fdL) : FnOk P w K mg base (L2.CX P w) 8 f fd ["self"] (spTell CQ CM X .shortest) := by
  refine F.okX scTellM (fun vs H Q E h => ?_) (fun cdv A outer s H vs Q E hr h => ?_)
  · obtain ⟨q, TT, d, rfl, _⟩ := h
    rfl
  refine ⟨_, pss_cons (ps_set (i := 1) scTellM.nd rfl (Or.inl rfl) (pe_call L1.ok hr rfl L1.g L1.kp L1.b .nil pass0 (pa_cons (pe_fld (pv 0) rfl) pa_nil)))
    (pss_cons (ps_if (pt_cmpR op_isN (pv 1) pe_non (nomark _)) (pss_one (ps_raise rfl (takes_of rfl rfl rfl rfl) (pmk_own0 PySem.F.excBase_Exception N1.x N1.g N1.k (raises_own N1.b N1.t) (by exact rfl)))) pss_nil)
    (pss_one (ps_ret (pe_op op_cat (pe_lst (pa_cons (pe_callB call_len_seq (by rfl) B.len PySem.boot_len (pa_cons (pv 1) pa_nil)) pa_nil)) (pv 1))))), ?_⟩
  obtain ⟨q, TT, d, rfl, hQ, hO⟩ := h
  obtain ⟨dx, m1, m2, h1, h2, h3⟩ := hQ.ex
  obtain ⟨wd0, hwd0⟩ := Wa.shortest_some hQ.one.real hQ.one.lets
  refine ⟨_, rfl, q, CQ, dx, _, _, rfl, h1, T.cl, T.no _ (by simp), quF_1, m1, d.one, rfl, h2.at, hQ.one.steps, fun ed H1 s1 => ?_, fun wd ed hwd H1 p s1 np hp => ?_⟩
  · rw [hwd0] at ed
    cases ed
  · have hst : Gq02.step d .shortest = (d, Gq02.told wd) := by
      unfold Gq02.step
      dsimp only
      rw [ed]
    rw [hst] at hO
    refine ⟨_, rfl, rfl, _, rfl, ifF (by simp) ?_⟩
    refine ⟨_, rfl, p, _, rfl, .inl (SqL.of hp), (by show 1 ≤ sizeLine; decide), fun l nl => ?_⟩
    have s2 := same_upd (o := .lst [.int (((wd.map nv).length : Nat) : Int)]) nl
    have h9 := small_line
    refine ⟨_, rfl, l, p, _, _, rfl, rfl, upd_same, s2 _ _ hp, ?_, fun l2 nl2 => ?_⟩
    · simp only [List.length_cons, List.length_nil, List.length_map]
      omega
    · have s3 := same_upd (o := .lst ([.int (((wd.map nv).length : Nat) : Int)] ++ wd.map nv)) nl2
      refine hO.fine _ l2 (hQ.same ((s1.trans s2).trans s3)) (Same.keep ((s1.trans s2).trans s3)) ((s1.trans s2).free nl2) ?_ ?_
      · rw [upd_same]
        show _ = some (HO.lst ((Gq02.ints (wd.length :: wd)).map V.int))
        rw [map_nv_int, List.length_map]
        rfl
      · show (Gq02.ints (wd.length :: wd)).length ≤ 8000000
        simp [Gq02.ints]
        omega
/-! swap -/
theorem scSwap : FnScope ["self", "first"] ["self"] (defScope s_Questions_swap) := ⟨rfl, rfl, rfl, by decide +kernel, rfl, by decide +kernel, by decide +kernel⟩
theorem ok_swap {f fR : Addr} {fd fdR : FuncData} (F : Fun K "swap" "Questions.swap" s_Questions_swap f fd) (T : QuT K mg CQ) (hC : CM ≠ CQ) (R1 : RefuseM P w K mg base CQ CM X fR fdR) : FnOk P w K mg base (L2.CX P w) 2 f fd ["self"] (spTell CQ CM X .swap) := by
  refine F.okX scSwap (fun vs H Q E h => ?_) (fun cdv A outer s H vs Q E hr h => ?_)
  · obtain ⟨q, TT, d, rfl, _⟩ := h
    rfl
  refine ⟨_, pss_cons (ps_expr (pe_meth0 (pv 0) T.cl R1.m R1.ok hr R1.b .nil (passes_call (takes_of rfl rfl rfl rfl) (fun _ _ _ _ h => h))))
    (pss_cons (ps_set (i := 1) scSwap.nd rfl (Or.inl rfl) (pe_fld (pv 0) rfl))
    (pss_cons (ps_fld (pv 0) (pe_fld (pv 0) rfl) rfl)
    (pss_cons (ps_fld (pv 0) (pv 1) rfl)
    (pss_one (ps_ret (pe_lst (pa_cons pe_int pa_nil))))))), ?_⟩
  obtain ⟨q, TT, d, rfl, hQ, hO⟩ := h
  obtain ⟨dx, m1, m2, h1, h2, h3⟩ := hQ.ex
  refine ⟨_, rfl, q, dx, _, rfl, h1, qu_no (by decide +kernel), q, TT, d, rfl, hQ, fun c3 => ?_, fun c3 => ?_⟩
  · refine hO.size ?_ H (Same.refl H)
    unfold Gq02.step
    dsimp only
    rw [if_pos c3]
  · have hst : Gq02.step d .swap = (⟨d.two, d.one⟩, [0]) := by
      unfold Gq02.step
      dsimp only
      rw [if_neg c3]
    have h26 := hQ.two.steps
    refine ⟨_, rfl, q, CQ, dx, _, _, rfl, h1, T.cl, T.no _ (by simp), quF_1, ?_⟩
    refine ⟨_, rfl, q, CQ, dx, _, _, rfl, h1, T.cl, T.no _ (by simp), quF_2, _, rfl, q, CQ, dx, _, rfl, h1, T.cl, T.no _ (by simp), (by show 2 < 1000; decide), ?_⟩
    have k1 : Keep q H (upd H q (.ins CQ dx (putF "first" (.ref m2) (quF m1 m2)))) := keep_upd
    rw [quF_put1] at k1 ⊢
    refine ⟨_, rfl, _, rfl, q, CQ, dx, _, rfl, upd_same, T.cl, T.no _ (by simp), (by show 2 < 1000; decide), ?_⟩
    have k2 : Keep q (upd H q (.ins CQ dx (quF m2 m2))) (upd (upd H q (.ins CQ dx (quF m2 m2))) q (.ins CQ dx (putF "second" (.ref m1) (quF m2 m2)))) := keep_upd
    rw [quF_put2] at k2 ⊢
    have k12 : Keep q H (upd (upd H q (.ins CQ dx (quF m2 m2))) q (.ins CQ dx (quF m2 m1))) := Keep.trans k1 k2
    refine ⟨(by show 1 ≤ sizeLine; decide), fun l nl => ?_⟩
    have s3 := same_upd (o := .lst [.int 0]) nl
    refine hO.fine _ l ?_ ?_ (Keep.free k12 h1 nl) ?_ ?_
    · rw [hst]
      exact QAt.same s3 ⟨⟨dx, m2, m1, upd_same, MachN.keepI k12 h1 hC h3, MachN.keepI k12 h1 hC h2⟩, ⟨hQ.two.real, by dsimp only; omega, hQ.two.lets⟩, ⟨hQ.one.real, by dsimp only; omega, hQ.one.lets⟩⟩
    · exact fun c o e n => s3 _ _ (k12 _ _ e n)
    · rw [hst]; exact upd_same
    · rw [hst]; show 1 ≤ 8000000; decide
end
end Wp

namespace Wp
open PySem PySem.Spec PyProof.Rows L2 Wn Wr
abbrev s_answers : Stmt := top 71
theorem cut_nat {l : List Int} {i n : Nat} (h : i + n ≤ l.length) : cutV (l.map V.int) (some (i : Int)) (some ((i : Int) + (n : Int))) = ((l.drop i).take n).map V.int := by
  unfold cutV
  have e1 : HT.sIx (l.map V.int).length 0 (some (i : Int)) = i := by
    rw [HT.sIx_nat, List.length_map]
    omega
  have e2 : HT.sIx (l.map V.int).length (l.map V.int).length (some ((i : Int) + (n : Int))) = i + n := by
    rw [← Int.natCast_add, HT.sIx_nat, List.length_map]
    omega
  rw [e1, e2, ← List.map_drop, ← List.map_take]
  congr 2
  omega
theorem cut_inv {p q : Int} {r row t : List Int} (h : Wa.Cut (p :: r) q row t) : (Wa.isBare p ∧ row = [] ∧ t = r) ∨ (Wa.isRow p ∧ ∃ n r', r = n :: r' ∧ 0 ≤ n ∧ n.toNat ≤ r'.length ∧ row = r'.take n.toNat ∧ t = r'.drop n.toNat) := by
  generalize hl : p :: r = l at h
  cases h with
  | row k h0 hn =>
    cases hl
    exact .inr ⟨k, _, _, rfl, h0, hn, rfl, rfl⟩
  | bare k =>
    cases hl
    exact .inl ⟨k, rfl, rfl⟩
theorem ints_nv {row : List Int} (h : Wa.RowOk row) : row.map V.int = (row.map Int.toNat).map nv := by
  rw [List.map_map]
  refine List.map_congr_left fun x hx => ?_
  have := (h.2 x hx).1
  show V.int x = V.int ((x.toNat : Nat) : Int)
  rw [Int.toNat_of_nonneg this]
section
variable {P : Program} {w : World} {K : PySem.W.Frag} {mg : Str → Option Value} {base : Heap} {CQ CM : Addr}
def spAnsOr (K : PySem.W.Frag) (CQ CM : Addr) : Sp := fun vs H Q _ => ∃ (q a T : Addr) (d : Gq02.St) (p : Int) (row : List Nat) (oT : HO), vs = [.ref q, .int p, .ref a] ∧ QAt CQ CM T H q d ∧ H T = some oT ∧ SqL K H a (row.map nv) ∧ row.length ≤ 100 ∧ 0 ≤ p ∧ p ≤ 7 ∧
  ∀ (H' : Hp) (r : Addr), QAt CQ CM T H' q (Gq02.step d (Wa.callNo p row)).1 → Keep q H H' → H r = none → H' r = some (.lst ((Gq02.step d (Wa.callNo p row)).2.map V.int)) → (Gq02.step d (Wa.callNo p row)).2.length ≤ 8000000 → Q (.ref r) H'
abbrev AnsOrM (P : Program) (w : World) (K : PySem.W.Frag) (mg : Str → Option Value) (base : Heap) (CQ CM f : Addr) (fd : FuncData) (k : Nat) : Prop := DefM P w K mg base CX0 k "answer_or_refusal" ["questions", "number", "row"] (spAnsOr K CQ CM) f fd
def spAns (K : PySem.W.Frag) : Sp := fun vs H Q _ => ∃ (a : Addr) (l : List Int) (raw : List (List (List Int))), vs = [.ref a] ∧ SqL K H a (l.map V.int) ∧ Wa.Asked l raw ∧ l.length ≤ 5000 ∧
  ∀ (H' : Hp) (p : Addr), H' p = some (.lst ((PyGq02.answers l).map V.int)) → Q (.ref p) H'
abbrev anN2 : List Str := ["calls", "questions", "told", "place", "number", "row", "numbers"]
theorem scAns : FnScope anN2 ["calls"] (defScope s_answers) := ⟨rfl, rfl, rfl, by decide +kernel, rfl, by decide +kernel, by decide +kernel⟩
/-- CALLS_WITH_A_ROW -/
structure CrT (K : PySem.W.Frag) (mg : Str → Option Value) (tr : Addr) : Prop where
  g : mg "CALLS_WITH_A_ROW" = some (.ref tr)
  sq : ∀ H, SqT K H tr [.int 0, .int 1, .int 4, .int 5]
abbrev QuM (P : Program) (w : World) (K : PySem.W.Frag) (mg : Str → Option Value) (base : Heap) (CQ CM f : Addr) (fd : FuncData) : Prop := ClsM P w K mg base CX0 7 "Questions" CQ ["first", "second"] ["self"] (spQuInit CQ CM) f fd
def plOf (n : Nat) (σ : L2.St) : Nat := match (σ : List (Option V))[3]? with
  | some (some (V.int z)) => n - z.toNat
  | _ => 0
theorem in_row {p : Int} (h : Wa.isRow p) : inV (.int p) [.int 0, .int 1, .int 4, .int 5] = true := by
  rcases h with rfl | rfl | rfl | rfl <;> decide
theorem in_bare {p : Int} (h : Wa.isBare p) : inV (.int p) [.int 0, .int 1, .int 4, .int 5] = false := by
  rcases h with rfl | rfl | rfl | rfl <;> decide
theorem get_int {l : List Int} {i : Nat} {x : Int} (h : l[i]? = some x) : (l.map V.int)[i]? = some (.int x) := by
  rw [List.getElem?_map, h]
  rfl
theorem ok_ans {f fI fA : Addr} {fd fdI fdA : FuncData} {tr : Addr} {kA : Nat} (hk : kA ≤ 20) (F : Fun K "answers" "answers" s_answers f fd) (B : Blt mg) (R1 : CrT K mg tr) (M : QuM P w K mg base CQ CM fI fdI) (A1 : AnsOrM P w K mg base CQ CM fA fdA kA) : FnOk P w K mg base CX0 21 f fd ["calls"] (spAns K) := by
  refine F.ok scAns (fun vs H Q E h => ?_) (fun cdv A outer s H vs Q E hr h => ?_)
  · obtain ⟨a, l, raw, rfl, _⟩ := h
    rfl
  have hr8 : Room 8 _ := hr.mono (by decide)
  have hrA : Room kA _ := hr.mono hk
  refine ⟨_, pss_cons (ps_set (i := 1) scAns.nd rfl (Or.inl rfl) (pe_make0 M.m M.ok hr8 rfl M.T.g M.b .nil pass0))
    (pss_cons (ps_set (i := 2) scAns.nd rfl (Or.inl rfl) (pe_lst pa_nil))
    (pss_cons (ps_set (i := 3) scAns.nd rfl (Or.inl rfl) pe_int)
    (pss_cons (ps_while PassesOwn.never (pt_cmpR op_lt (pv 3) (pe_callB call_len_seq (by rfl) B.len PySem.boot_len (pa_cons (pv 0) pa_nil)) (nomark _))
      (pss_cons (ps_set (i := 4) scAns.nd rfl (Or.inl rfl) (pe_ix ix_list (pv 0) (pv 3) (fun _ _ => rfl)))
      (pss_cons (ps_aug (i := 3) scAns.nd rfl (Or.inl rfl) pe_int ip_add)
      (pss_cons (ps_set (i := 5) scAns.nd rfl (Or.inl rfl) (pe_lst pa_nil))
      (pss_cons (ps_if (pt_cmpR op_in_seq (pv 4) (pe_glob (v := .ref tr) rfl R1.g rfl) (by rfl))
        (pss_cons (ps_set (i := 5) scAns.nd rfl (Or.inl rfl) (pe_slice sl_list (pv 0) (po_some (pe_op op_add (pv 3) pe_int)) (po_some (pe_op op_add (pe_op op_add (pv 3) pe_int) (pe_ix ix_list (pv 0) (pv 3) (fun _ _ => rfl))))))
        (pss_one (ps_aug (i := 3) scAns.nd rfl (Or.inl rfl) (pe_op op_add pe_int (pe_callB call_len_seq (by rfl) B.len PySem.boot_len (pa_cons (pv 5) pa_nil))) ip_add))) pss_nil)
      (pss_cons (ps_set (i := 6) scAns.nd rfl (Or.inl rfl) (pe_call A1.ok hrA rfl A1.g A1.kp A1.b .nil pass0 (pa_cons (pv 1) (pa_cons (pv 4) (pa_cons (pv 5) pa_nil)))))
      (pss_cons (ps_expr (pe_bm PySem.F.plainAttrs_list PySem.F.slot_list_append PySem.F.type_list_append mt_append (pv 2) (pa_cons (pe_callB call_len_seq (by rfl) B.len PySem.boot_len (pa_cons (pv 6) pa_nil)) pa_nil)))
      (pss_one (ps_expr (pe_bm PySem.F.plainAttrs_list PySem.F.slot_list_extend PySem.F.type_list_extend mt_extend (pv 2) (pa_cons (pv 6) pa_nil)))))))))))
    (pss_one (ps_ret (pv 2)))))), ?_⟩
  obtain ⟨a, l, raw, rfl, ha, hA, hl, q⟩ := h
  intro qa dx nx nd ne
  refine ⟨qa, dx, rfl, upd_same, fun H1 hQ0 k1 => ⟨rfl, ?_⟩⟩
  have s1 : Same H H1 := Same.made nx nd k1
  refine ⟨(by show 0 ≤ sizeLine; decide), fun T nT => ?_⟩
  have s2 : Same H1 (upd H1 T (.lst [])) := same_upd nT
  have hQ1 : QAt CQ CM T (upd H1 T (.lst [])) qa Gq02.init := (hQ0.to nT).same s2
  have nTH : H T = none := s1.free nT
  refine while_by (fun σ H' => ∃ (i : Nat) (d : Gq02.St) (cs : List (List (List Int))) (fu : Nat) (Xs : List Int) (v4 v5 v6 : Option V), σ = [some (.ref a), some (.ref qa), some (.ref T), some (nv i), v4, v5, v6] ∧ i ≤ l.length ∧ PyFlat.calls PyGq02.shape fu (l.drop i) = some cs ∧ (∀ c ∈ cs, PyInside.call PyGq02.bound c = true) ∧ PyGq02.answers l = Xs ++ Wa.due d cs ∧ QAt CQ CM T H' qa d ∧ H' T = some (.lst (Xs.map V.int)) ∧ Same H H') (fun σ _ => plOf l.length σ)
    ⟨0, Gq02.init, raw, l.length, [], none, none, none, rfl, Nat.zero_le _, by rw [List.drop_zero]; exact hA.calls, hA.bound, hA.ans, hQ1, upd_same, s1.trans s2⟩ ?_ ?_
  · rintro σ H' ⟨i, d, cs, fu, Xs, v4, v5, v6, rfl, hi, hcs, hbd, hans, hQ, hT, sH⟩
    refine ⟨_, rfl, _, rfl, a, _, rfl, .inl (sH.seq ha), _, _, rfl, rfl, _, rfl, ?_⟩
    rw [List.length_map]
    by_cases ci : i < l.length
    · refine ifT (by simp; omega) ?_
      have hdrop : l.drop i = l[i] :: l.drop (i + 1) := List.drop_eq_getElem_cons ci
      rw [hdrop] at hcs
      obtain ⟨row, t, fu', cs', hcut, hcs', rfl⟩ := Wa.calls_cut hcs
      have hkind := Wa.cut_kind hcut
      have hp07 : 0 ≤ l[i] ∧ l[i] ≤ 7 := by
        rcases hkind with z | ⟨z, _⟩
        · unfold Wa.isRow at z; omega
        · unfold Wa.isBare at z; omega
      have hrow : Wa.RowOk row := by
        rcases hkind with z | ⟨z, rfl⟩
        · exact Wa.rowOk_of z (hbd _ List.mem_cons_self)
        · exact Wa.rowOk_nil
      rw [Wa.due_cons hcut, Wa.stepOf_eq hkind hrow] at hans
      have hshort : Xs.length + 9 + (Gq02.step d (Wa.callNo l[i] (row.map Int.toNat))).2.length < sizeLine := by
        have h1 := hA.short
        rw [hans] at h1
        simp only [List.length_append, List.length_cons] at h1
        have h2 : (10000010 : Nat) < sizeLine := by decide
        omega
      generalize hd2 : (Gq02.step d (Wa.callNo l[i] (row.map Int.toNat))).1 = d2 at hans hshort
      generalize hr2 : (Gq02.step d (Wa.callNo l[i] (row.map Int.toNat))).2 = r2 at hans hshort
      refine ⟨_, rfl, _, rfl, a, _, _, _, rfl, rfl, sH.seq ha, atI_nat (get_int (List.getElem?_eq_getElem ci)), ?_⟩
      refine ⟨_, rfl, _, _, rfl, rfl, (by show 0 ≤ sizeLine; decide), fun R0 nR0 => ?_⟩
      generalize hH2 : upd H' R0 (.lst []) = H2
      have s3 : Same H' H2 := by rw [← hH2]; exact same_upd nR0
      refine ⟨_, rfl, tr, _, rfl, .inr (R1.sq _), rfl, rfl, _, rfl, ?_⟩
      rcases cut_inv hcut with ⟨hb, hrw, ht⟩ | ⟨hb, n, r', hr0, hn0, hnl, hrw, ht⟩
      · refine ifF (by rw [if_neg (by decide), in_bare hb]; decide) ?_
        subst ht
        refine ⟨_, rfl, _, rfl, _, rfl, qa, R0, T, d, l[i], row.map Int.toNat, _, rfl, hQ.same s3, s3 _ _ hT, by rw [← ints_nv hrow, hrw, ← hH2]; exact SqL.of upd_same, by rw [List.length_map]; exact hrow.1, hp07.1, hp07.2, fun H3 r hQ3 k3 nr hr hrl => ?_⟩
        rw [hd2] at hQ3
        rw [hr2] at hr
        have hT3 : H3 T = some (.lst (Xs.map V.int)) := k3 _ _ (s3 _ _ hT) (fun z => by obtain ⟨_, _, _, w1, _⟩ := (hQ.same s3).ex; have w2 := s3 _ _ hT; rw [z, w1] at w2; cases w2)
        have hrT : r ≠ T := fun z => by have w2 := s3 _ _ hT; rw [← z, nr] at w2; cases w2
        have k4 : Keep T H3 (upd H3 T (.lst (Xs.map V.int ++ [.int (((r2.map V.int).length : Nat) : Int)]))) := keep_upd
        have hr4 := k4 _ _ hr hrT
        have k5 : Keep T (upd H3 T (.lst (Xs.map V.int ++ [.int (((r2.map V.int).length : Nat) : Int)]))) (upd (upd H3 T (.lst (Xs.map V.int ++ [.int (((r2.map V.int).length : Nat) : Int)]))) T (.lst ((Xs.map V.int ++ [.int (((r2.map V.int).length : Nat) : Int)]) ++ r2.map V.int))) := keep_upd
        refine ⟨_, rfl, .inl ⟨rfl, _, SqL.of hT3⟩, _, rfl, r, _, rfl, .inl (SqL.of hr), T, _, _, rfl, rfl, hT3, by rw [List.length_map]; omega, ?_⟩
        refine ⟨_, rfl, .inl ⟨rfl, _, SqL.of upd_same⟩, _, rfl, T, r, _, _, rfl, rfl, upd_same, hr4, ?_, ?_⟩
        · simp only [List.length_append, List.length_map, List.length_cons, List.length_nil]
          omega
        refine ⟨⟨i + 1, d2, cs', fu', Xs ++ ((r2.length : Int) :: r2), some (.int l[i]), some (.ref R0), some (.ref r), ?_, by omega, hcs', fun c hc => hbd c (List.mem_cons_of_mem _ hc), ?_, QAt.keepT k5 upd_same (QAt.keepT k4 hT3 hQ3), ?_, fun b o eb => ?_⟩, ?_⟩
        · show [some (V.ref a), some (V.ref qa), some (V.ref T), some (V.int ((i : Int) + 1)), some (V.int l[i]), some (V.ref R0), some (V.ref r)] = [some (V.ref a), some (V.ref qa), some (V.ref T), some (V.int ((i + 1 : Nat) : Int)), some (V.int l[i]), some (V.ref R0), some (V.ref r)]
          rfl
        · rw [hans, List.append_assoc]
          rfl
        · rw [upd_same, List.length_map, List.map_append, List.append_assoc]
          rfl
        · rw [upd_ne (fun z => by rw [z, nTH] at eb; cases eb), upd_ne (fun z => by rw [z, nTH] at eb; cases eb)]
          exact k3 _ _ (s3 _ _ (sH _ _ eb)) (fun z => by rw [z, nx] at eb; cases eb)
        · show l.length - ((i : Int) + 1).toNat < l.length - ((i : Nat) : Int).toNat
          omega
      · refine ifT (by rw [if_neg (by decide), in_row hb]) ?_
        have hi1 : i + 1 < l.length := by
          apply Decidable.byContradiction
          intro z
          rw [List.drop_eq_nil_of_le (by omega)] at hr0
          cases hr0
        have hd1 : l.drop (i + 1) = l[i + 1] :: l.drop (i + 2) := List.drop_eq_getElem_cons hi1
        rw [hd1] at hr0
        injection hr0 with en er
        have hlen2 : r'.length = l.length - (i + 2) := by rw [← er, List.length_drop]
        have hrw2 : row = (l.drop (i + 2)).take n.toNat := by rw [hrw, er]
        have hrlen : ((l.drop (i + 2)).take n.toNat).length = n.toNat := by rw [List.length_take, er]; omega
        have ht2 : t = l.drop (i + 2 + n.toNat) := by rw [ht, ← er, List.drop_drop]
        have hnn : n = ((n.toNat : Nat) : Int) := (Int.toNat_of_nonneg hn0).symm
        have hcutv : cutV (l.map V.int) (some ((i : Int) + 1 + 1)) (some ((i : Int) + 1 + 1 + n)) = ((l.drop (i + 2)).take n.toNat).map V.int := by
          have e1 : ((i : Int) + 1 + 1) = ((i + 2 : Nat) : Int) := by omega
          have e2 : ((i : Int) + 1 + 1 + n) = ((i + 2 : Nat) : Int) + ((n.toNat : Nat) : Int) := by omega
          rw [e2, e1]
          exact cut_nat (by omega)
        have ha2 := (sH.trans s3).seq ha
        have hg1 := get_int (List.getElem?_eq_getElem hi1)
        rw [en] at hg1
        have hix : ((i : Int) + 1) = ((i + 1 : Nat) : Int) := by omega
        refine ⟨_, rfl, _, rfl, _, _, rfl, rfl, _, rfl, _, rfl, _, _, rfl, rfl, _, rfl, _, rfl, a, _, _, _, rfl, rfl, ha2, atI_nat (j := i + 1) hg1, _, _, rfl, rfl, _, rfl, a, _, rfl, ha2, fun R1 nR1 => ?_⟩
        rw [hcutv]
        generalize hH4 : upd H2 R1 (.lst (((l.drop (i + 2)).take n.toNat).map V.int)) = H4
        have s4 : Same H2 H4 := by rw [← hH4]; exact same_upd nR1
        have s5 : Same H' H4 := s3.trans s4
        have hR1 : H4 R1 = some (.lst (((l.drop (i + 2)).take n.toNat).map V.int)) := by rw [← hH4]; exact upd_same
        refine ⟨_, rfl, _, rfl, R1, _, rfl, .inl (SqL.of hR1), _, _, rfl, rfl, _, _, rfl, rfl, ?_⟩
        rw [ht2] at hcs'
        refine ⟨_, rfl, _, rfl, _, rfl, qa, R1, T, d, l[i], row.map Int.toNat, _, rfl, hQ.same s5, s5 _ _ hT, by rw [← ints_nv hrow, hrw2, ← hH4]; exact SqL.of upd_same, by rw [List.length_map]; exact hrow.1, hp07.1, hp07.2, fun H3 r hQ3 k3 nr hr hrl => ?_⟩
        rw [hd2] at hQ3
        rw [hr2] at hr
        have hT3 : H3 T = some (.lst (Xs.map V.int)) := k3 _ _ (s5 _ _ hT) (fun z => by obtain ⟨_, _, _, w1, _⟩ := (hQ.same s5).ex; have w2 := s5 _ _ hT; rw [z, w1] at w2; cases w2)
        have hrT : r ≠ T := fun z => by have w2 := s5 _ _ hT; rw [← z, nr] at w2; cases w2
        have k4 : Keep T H3 (upd H3 T (.lst (Xs.map V.int ++ [.int (((r2.map V.int).length : Nat) : Int)]))) := keep_upd
        have hr4 := k4 _ _ hr hrT
        have k5 : Keep T (upd H3 T (.lst (Xs.map V.int ++ [.int (((r2.map V.int).length : Nat) : Int)]))) (upd (upd H3 T (.lst (Xs.map V.int ++ [.int (((r2.map V.int).length : Nat) : Int)]))) T (.lst ((Xs.map V.int ++ [.int (((r2.map V.int).length : Nat) : Int)]) ++ r2.map V.int))) := keep_upd
        refine ⟨_, rfl, .inl ⟨rfl, _, SqL.of hT3⟩, _, rfl, r, _, rfl, .inl (SqL.of hr), T, _, _, rfl, rfl, hT3, by rw [List.length_map]; omega, ?_⟩
        refine ⟨_, rfl, .inl ⟨rfl, _, SqL.of upd_same⟩, _, rfl, T, r, _, _, rfl, rfl, upd_same, hr4, ?_, ?_⟩
        · simp only [List.length_append, List.length_map, List.length_cons, List.length_nil]
          omega
        refine ⟨⟨i + 2 + n.toNat, d2, cs', fu', Xs ++ ((r2.length : Int) :: r2), some (.int l[i]), some (.ref R1), some (.ref r), ?_, by omega, hcs', fun c hc => hbd c (List.mem_cons_of_mem _ hc), ?_, QAt.keepT k5 upd_same (QAt.keepT k4 hT3 hQ3), ?_, fun b o eb => ?_⟩, ?_⟩
        · show [some (V.ref a), some (V.ref qa), some (V.ref T), some (V.int (((i : Int) + 1) + (1 + (((((l.drop (i + 2)).take n.toNat).map V.int).length : Nat) : Int)))), some (V.int l[i]), some (V.ref R1), some (V.ref r)] = [some (V.ref a), some (V.ref qa), some (V.ref T), some (V.int ((i + 2 + n.toNat : Nat) : Int)), some (V.int l[i]), some (V.ref R1), some (V.ref r)]
          have e9 : ((i : Int) + 1) + (1 + (((((l.drop (i + 2)).take n.toNat).map V.int).length : Nat) : Int)) = ((i + 2 + n.toNat : Nat) : Int) := by
            rw [List.length_map, hrlen]
            omega
          rw [e9]
        · rw [hans, List.append_assoc]
          rfl
        · rw [upd_same, List.length_map, List.map_append, List.append_assoc]
          rfl
        · rw [upd_ne (fun z => by rw [z, nTH] at eb; cases eb), upd_ne (fun z => by rw [z, nTH] at eb; cases eb)]
          exact k3 _ _ (s5 _ _ (sH _ _ eb)) (fun z => by rw [z, nx] at eb; cases eb)
        · show l.length - (((i : Int) + 1) + (1 + (((((l.drop (i + 2)).take n.toNat).map V.int).length : Nat) : Int))).toNat < l.length - ((i : Nat) : Int).toNat
          rw [List.length_map, hrlen]
          omega
    · refine ifF (by simp; omega) ?_
      have : l.drop i = [] := List.drop_eq_nil_of_le (by omega)
      rw [this] at hcs
      have := Wa.calls_nil hcs
      subst this
      rw [Wa.due_nil, List.append_nil] at hans
      exact ⟨_, rfl, q H' T (by rw [hT, hans])⟩
  · rintro σ H' Q1 Q2 hq ⟨v, hv, v2, hv2, h⟩
    obtain ⟨p, xs, e6, e7, i, j, e8, e9, b, e10, h⟩ := h
    exact ⟨v, hv, v2, hv2, p, xs, e6, e7, i, j, e8, e9, b, e10, hq _ _ h⟩
end
end Wp

namespace Wp
open PySem PySem.Spec PyProof.Rows L2 Wn Wr
abbrev s_answer_or_refusal : Stmt := top 70
/-- which clause takes which error -/
structure ExmT (K : PySem.W.Frag) (X : ECls) : Prop where
  nn : PySem.W.exmOne K (.ref X.CN) (.ref X.CN) = some true
  tn : PySem.W.exmOne K (.ref X.CT) (.ref X.CN) = some false
  tl : PySem.W.exmOne K (.ref X.CT) (.ref X.CL) = some false
  tt : PySem.W.exmOne K (.ref X.CT) (.ref X.CT) = some true
section
variable {P : Program} {w : World} {K : PySem.W.Frag} {mg : Str → Option Value} {base : Heap} {CQ CM : Addr} {X : ECls}
def spAnswer (K : PySem.W.Frag) (CQ CM : Addr) (X : ECls) : Sp := fun vs H Q E => ∃ (q a T : Addr) (d : Gq02.St) (p : Int) (row : List Nat) (oT : HO), vs = [.ref q, .int p, .ref a] ∧ QAt CQ CM T H q d ∧ H T = some oT ∧ SqL K H a (row.map nv) ∧ row.length ≤ 100 ∧ 0 ≤ p ∧ p ≤ 7 ∧ Out CQ CM T X H q d (Gq02.step d (Wa.callNo p row)) Q E
theorem scAnsOr : FnScope ["questions", "number", "row"] ["questions", "number", "row"] (defScope s_answer_or_refusal) := ⟨rfl, rfl, rfl, by decide +kernel, rfl, by decide +kernel, by decide +kernel⟩
abbrev AnswerM (P : Program) (w : World) (K : PySem.W.Frag) (mg : Str → Option Value) (base : Heap) (CQ CM : Addr) (X : ECls) (k : Nat) (f : Addr) (fd : FuncData) : Prop := DefM P w K mg base (L2.CX P w) k "answer" ["questions", "number", "row"] (spAnswer K CQ CM X) f fd
theorem ok_ansOr {f fA : Addr} {fd fdA : FuncData} {k : Nat} {u1 u3 u5 : Tok} (F : Fun K "answer_or_refusal" "answer_or_refusal" s_answer_or_refusal f fd) (N1 : ExcT K mg "NotAsTold" X.CN) (L1 : ExcT K mg "NoLine" X.CL) (T1 : ExcT K mg "TooLarge" X.CT) (EX : ExmT K X) (A1 : AnswerM P w K mg base CQ CM X k fA fdA)
    (m1 : mg "REFUSED_FORM" = some (.int (-1) u1)) (m3 : mg "REFUSED_NO_LINE" = some (.int (-3) u3)) (m5 : mg "REFUSED_SIZE" = some (.int (-5) u5)) : FnOk P w K mg base CX0 (k + 1) f fd ["questions", "number", "row"] (spAnsOr K CQ CM) := by
  refine F.ok scAnsOr (fun vs H Q E h => ?_) (fun cdv A outer s H vs Q E hr h => ?_)
  · obtain ⟨q, a, T, d, p, row, oT, rfl, _⟩ := h
    rfl
  refine ⟨_, pss_one (ps_try_many (tb := fun W => tRet (tCallS (spAnswer K CQ CM X) (WE W) (tCons (tVar 0) (tCons (tVar 1) (tCons (tVar 2) tNil))))) (Wout := fun _ _ _ _ => False)
      (l := [(.ref X.CN, fun _ _ _ => tRet (tLst (tCons (tC (.int (-1))) tNil))), (.ref X.CL, fun _ _ _ => tRet (tLst (tCons (tC (.int (-3))) tNil))), (.ref X.CT, fun _ _ _ => tRet (tLst (tCons (tC (.int (-5))) tNil)))]) rfl rfl takes0
      (fun W pn xe tk _ => pss_one (ps_ret (pe_callS A1.ok hr rfl A1.g A1.kp A1.b (fun σ => passAt tk σ) (pa_cons (pv 0) (pa_cons (pv 1) (pa_cons (pv 2) pa_nil))))))
      (.cons ⟨rfl, by decide, Or.inl N1.g⟩ (fun _ _ _ _ _ _ _ => pss_one (ps_ret (pe_lst (pa_cons (pe_gi m1) pa_nil))))
      (.cons ⟨rfl, by decide, Or.inl L1.g⟩ (fun _ _ _ _ _ _ _ => pss_one (ps_ret (pe_lst (pa_cons (pe_gi m3) pa_nil))))
      (.cons ⟨rfl, by decide, Or.inl T1.g⟩ (fun _ _ _ _ _ _ _ => pss_one (ps_ret (pe_lst (pa_cons (pe_gi m5) pa_nil)))) .nil)))), ?_⟩
  obtain ⟨q, a, T, d, p, row, oT, rfl, hQ, hT, ha, hl, h0, h7, hq⟩ := h
  refine ⟨_, rfl, _, rfl, _, rfl, q, a, T, d, p, row, oT, rfl, hQ, hT, ha, hl, h0, h7, ⟨fun er H' s1 => ?_, fun er H' s1 => ?_, fun H' r hQ' k' nr hr' hrl => hq H' r hQ' k' nr hr' hrl⟩⟩
  · refine ⟨true, EX.nn, fun _ a0 na => ?_, fun z => Bool.noConfusion z⟩
    refine ⟨(by show 1 ≤ sizeLine; decide), fun l nl => ?_⟩
    have s2 := same_upd (o := .lst [.int (-1)]) nl
    rw [er] at hq
    exact hq _ l (hQ.same (s1.trans s2)) (Same.keep (s1.trans s2)) (s1.free nl) upd_same (by show 1 ≤ 8000000; decide)
  · refine ⟨false, EX.tn, fun z => Bool.noConfusion z, fun _ => ⟨false, EX.tl, fun z => Bool.noConfusion z, fun _ => ⟨true, EX.tt, fun _ a0 na => ?_, fun z => Bool.noConfusion z⟩⟩⟩
    refine ⟨(by show 1 ≤ sizeLine; decide), fun l nl => ?_⟩
    have s2 := same_upd (o := .lst [.int (-5)]) nl
    rw [er] at hq
    exact hq _ l (hQ.same (s1.trans s2)) (Same.keep (s1.trans s2)) (s1.free nl) upd_same (by show 1 ≤ 8000000; decide)
end
end Wp

namespace Wp
open PySem PySem.Spec PyProof.Rows L2 Wn Wr
abbrev s_answer : Stmt := top 69
section
variable {P : Program} {w : World} {K : PySem.W.Frag} {mg : Str → Option Value} {base : Heap} {CQ CM : Addr} {X : ECls}
/-! answer: which call it is -/
abbrev RowM (P : Program) (w : World) (K : PySem.W.Frag) (mg : Str → Option Value) (base : Heap) (CQ CM : Addr) (X : ECls) (k : Nat) (name row : Str) (call : List Nat → Gq02.Call) (f : Addr) (fd : FuncData) : Prop := MetM P w K mg base (L2.CX P w) k CQ name ["self", row] (spTake K CQ CM X call) f fd
abbrev BareM (P : Program) (w : World) (K : PySem.W.Frag) (mg : Str → Option Value) (base : Heap) (CQ CM : Addr) (X : ECls) (k : Nat) (name : Str) (call : Gq02.Call) (f : Addr) (fd : FuncData) : Prop := MetM P w K mg base (L2.CX P w) k CQ name ["self"] (spTell CQ CM X call) f fd
/-- the numbers of the calls -/
structure NumT (mg : Str → Option Value) : Prop where
  n0 : ∃ t, mg "ONE" = some (.int 0 t)
  n1 : ∃ t, mg "TWO" = some (.int 1 t)
  n2 : ∃ t, mg "WITHIN" = some (.int 2 t)
  n3 : ∃ t, mg "ALIKE" = some (.int 3 t)
  n4 : ∃ t, mg "LEADS" = some (.int 4 t)
  n5 : ∃ t, mg "STRAIGHT" = some (.int 5 t)
  n6 : ∃ t, mg "SHORTEST" = some (.int 6 t)
  n7 : ∃ t, mg "SWAP" = some (.int 7 t)
theorem scAnswer : FnScope ["questions", "number", "row"] ["questions", "number", "row"] (defScope s_answer) := ⟨rfl, rfl, rfl, by decide +kernel, rfl, by decide +kernel, by decide +kernel⟩
theorem ok_answer {f f0 f1 f2 f3 f4 f5 f6 f7 CU : Addr} {fd d0 d1 d2 d3 d4 d5 d6 d7 : FuncData} (F : Fun K "answer" "answer" s_answer f fd) (T : QuT K mg CQ) (U1 : ExcT K mg "NoSuchCall" CU) (N : NumT mg)
    (M0 : RowM P w K mg base CQ CM X 7 "take_first" "code" .one f0 d0) (M1 : RowM P w K mg base CQ CM X 7 "take_second" "code" .two f1 d1) (M2 : BareM P w K mg base CQ CM X 7 "tell_within" .within f2 d2) (M3 : BareM P w K mg base CQ CM X 8 "tell_alike" .alike f3 d3)
    (M4 : RowM P w K mg base CQ CM X 5 "tell_leads" "letters" .leads f4 d4) (M5 : RowM P w K mg base CQ CM X 5 "tell_straight" "letters" .straight f5 d5) (M6 : BareM P w K mg base CQ CM X 8 "tell_shortest" .shortest f6 d6) (M7 : BareM P w K mg base CQ CM X 2 "swap" .swap f7 d7) : FnOk P w K mg base (L2.CX P w) 9 f fd ["questions", "number", "row"] (spAnswer K CQ CM X) := by
  obtain ⟨t0, n0⟩ := N.n0
  obtain ⟨t1, n1⟩ := N.n1
  obtain ⟨t2, n2⟩ := N.n2
  obtain ⟨t3, n3⟩ := N.n3
  obtain ⟨t4, n4⟩ := N.n4
  obtain ⟨t5, n5⟩ := N.n5
  obtain ⟨t6, n6⟩ := N.n6
  obtain ⟨t7, n7⟩ := N.n7
  refine F.okX scAnswer (fun vs H Q E h => ?_) (fun cdv A outer s H vs Q E hr h => ?_)
  · obtain ⟨q, a, T, d, p, row, oT, rfl, _⟩ := h
    rfl
  have hr7 : Room 7 _ := hr.mono (by decide)
  have hr5 : Room 5 _ := hr.mono (by decide)
  have hr2 : Room 2 _ := hr.mono (by decide)
  refine ⟨_, pss_cons (ps_if (pt_cmpR op_eq (pv 1) (pe_gi n0) (nomark _)) (pss_one (ps_ret (pe_meth (pv 0) T.cl M0.m M0.ok hr7 M0.b .nil (passes_call (takes_of rfl rfl rfl rfl) (fun _ _ _ _ h => h)) (pa_cons (pv 2) pa_nil)))) pss_nil)
    (pss_cons (ps_if (pt_cmpR op_eq (pv 1) (pe_gi n1) (nomark _)) (pss_one (ps_ret (pe_meth (pv 0) T.cl M1.m M1.ok hr7 M1.b .nil (passes_call (takes_of rfl rfl rfl rfl) (fun _ _ _ _ h => h)) (pa_cons (pv 2) pa_nil)))) pss_nil)
    (pss_cons (ps_if (pt_cmpR op_eq (pv 1) (pe_gi n2) (nomark _)) (pss_one (ps_ret (pe_meth0 (pv 0) T.cl M2.m M2.ok hr7 M2.b .nil (passes_call (takes_of rfl rfl rfl rfl) (fun _ _ _ _ h => h))))) pss_nil)
    (pss_cons (ps_if (pt_cmpR op_eq (pv 1) (pe_gi n3) (nomark _)) (pss_one (ps_ret (pe_meth0 (pv 0) T.cl M3.m M3.ok hr M3.b .nil (passes_call (takes_of rfl rfl rfl rfl) (fun _ _ _ _ h => h))))) pss_nil)
    (pss_cons (ps_if (pt_cmpR op_eq (pv 1) (pe_gi n4) (nomark _)) (pss_one (ps_ret (pe_meth (pv 0) T.cl M4.m M4.ok hr5 M4.b .nil (passes_call (takes_of rfl rfl rfl rfl) (fun _ _ _ _ h => h)) (pa_cons (pv 2) pa_nil)))) pss_nil)
    (pss_cons (ps_if (pt_cmpR op_eq (pv 1) (pe_gi n5) (nomark _)) (pss_one (ps_ret (pe_meth (pv 0) T.cl M5.m M5.ok hr5 M5.b .nil (passes_call (takes_of rfl rfl rfl rfl) (fun _ _ _ _ h => h)) (pa_cons (pv 2) pa_nil)))) pss_nil)
    (pss_cons (ps_if (pt_cmpR op_eq (pv 1) (pe_gi n6) (nomark _)) (pss_one (ps_ret (pe_meth0 (pv 0) T.cl M6.m M6.ok hr M6.b .nil (passes_call (takes_of rfl rfl rfl rfl) (fun _ _ _ _ h => h))))) pss_nil)
    (pss_cons (ps_if (pt_cmpR op_eq (pv 1) (pe_gi n7) (nomark _)) (pss_one (ps_ret (pe_meth0 (pv 0) T.cl M7.m M7.ok hr2 M7.b .nil (passes_call (takes_of rfl rfl rfl rfl) (fun _ _ _ _ h => h))))) pss_nil)
    (pss_one (ps_raise rfl (takes_of rfl rfl rfl rfl) (pmk_own0 PySem.F.excBase_Exception U1.x U1.g U1.k (raises_own U1.b U1.t) (by exact rfl))))))))))), ?_⟩
  obtain ⟨q, a, TT, d, p, row, oT, rfl, hQ, hT, ha, hl, h0, h7, hO⟩ := h
  obtain ⟨dx, m1, m2, h1, h2, h3⟩ := hQ.ex
  rcases (by omega : p = 0 ∨ p = 1 ∨ p = 2 ∨ p = 3 ∨ p = 4 ∨ p = 5 ∨ p = 6 ∨ p = 7) with rfl | rfl | rfl | rfl | rfl | rfl | rfl | rfl
  · refine ⟨_, rfl, rfl, _, rfl, ifT (by decide) ?_⟩
    exact ⟨_, rfl, q, dx, _, rfl, h1, qu_no (by decide +kernel), _, rfl, q, a, TT, d, row, oT, rfl, hQ, hT, ha, hl, hO⟩
  · refine ⟨_, rfl, rfl, _, rfl, ifF (by decide) ?_⟩
    refine ⟨_, rfl, rfl, _, rfl, ifT (by decide) ?_⟩
    exact ⟨_, rfl, q, dx, _, rfl, h1, qu_no (by decide +kernel), _, rfl, q, a, TT, d, row, oT, rfl, hQ, hT, ha, hl, hO⟩
  · iterate 2 refine ⟨_, rfl, rfl, _, rfl, ifF (by decide) ?_⟩
    refine ⟨_, rfl, rfl, _, rfl, ifT (by decide) ?_⟩
    exact ⟨_, rfl, q, dx, _, rfl, h1, qu_no (by decide +kernel), q, TT, d, rfl, hQ, hO⟩
  · iterate 3 refine ⟨_, rfl, rfl, _, rfl, ifF (by decide) ?_⟩
    refine ⟨_, rfl, rfl, _, rfl, ifT (by decide) ?_⟩
    exact ⟨_, rfl, q, dx, _, rfl, h1, qu_no (by decide +kernel), q, TT, d, rfl, hQ, hO⟩
  · iterate 4 refine ⟨_, rfl, rfl, _, rfl, ifF (by decide) ?_⟩
    refine ⟨_, rfl, rfl, _, rfl, ifT (by decide) ?_⟩
    exact ⟨_, rfl, q, dx, _, rfl, h1, qu_no (by decide +kernel), _, rfl, q, a, TT, d, row, oT, rfl, hQ, hT, ha, hl, hO⟩
  · iterate 5 refine ⟨_, rfl, rfl, _, rfl, ifF (by decide) ?_⟩
    refine ⟨_, rfl, rfl, _, rfl, ifT (by decide) ?_⟩
    exact ⟨_, rfl, q, dx, _, rfl, h1, qu_no (by decide +kernel), _, rfl, q, a, TT, d, row, oT, rfl, hQ, hT, ha, hl, hO⟩
  · iterate 6 refine ⟨_, rfl, rfl, _, rfl, ifF (by decide) ?_⟩
    refine ⟨_, rfl, rfl, _, rfl, ifT (by decide) ?_⟩
    exact ⟨_, rfl, q, dx, _, rfl, h1, qu_no (by decide +kernel), q, TT, d, rfl, hQ, hO⟩
  · iterate 7 refine ⟨_, rfl, rfl, _, rfl, ifF (by decide) ?_⟩
    refine ⟨_, rfl, rfl, _, rfl, ifT (by decide) ?_⟩
    exact ⟨_, rfl, q, dx, _, rfl, h1, qu_no (by decide +kernel), q, TT, d, rfl, hQ, hO⟩
end
end Wp

namespace Wp
open PySem PySem.Spec PyProof.Rows L2 Wn Wr
/-- an error of the class at S is (is not) what «except R» names -/
theorem exm_of {K : PySem.W.Frag} {S R : Addr} {b : Bool} (h1 : PySem.W.subIn K (.ref R) (.type "BaseException") = some true) (h2 : PySem.W.isClsIn K R = true) (h3 : PySem.W.typeIn K (.ref R) = some (.type "type")) (h4 : PySem.W.subIn K (.ref S) (.ref R) = some b) :
    PySem.W.exmOne K (.ref S) (.ref R) = some b := by
  have e1 : (PySem.W.subIn K (.ref R) (.type "BaseException") == some true) = true := by rw [h1] <;> rfl
  have e2 : ((PySem.W.clsIn K R).isSome && PySem.W.typeIn K (.ref R) == some (.type "type")) = true := by
    have h2' : (PySem.W.clsIn K R).isSome = true := h2
    rw [h2', h3] <;> rfl
  show (if (PySem.W.subIn K (.ref R) (.type "BaseException") == some true) = true then (if ((PySem.W.clsIn K R).isSome && PySem.W.typeIn K (.ref R) == some (.type "type")) = true then PySem.W.subIn K (.ref S) (.ref R) else none) else none) = some b
  rw [if_pos e1, if_pos e2]
  exact h4
theorem oth_keys {d0 d1 d2 d3 d4 d5 d6 d7 : Tok} : ∀ e ∈ (#[⟨2, .int 2 d0, .int 3 d1⟩, ⟨3, .int 3 d2, .int 2 d3⟩, ⟨4, .int 4 d4, .int 5 d5⟩, ⟨5, .int 5 d6, .int 4 d7⟩] : Array DictEntry), ∃ (k : Int) (t : Tok), e.key = .int k t ∧ e.hash = hashInt k := by
  intro e he
  simp only [List.mem_toArray, List.mem_cons, List.not_mem_nil, or_false] at he
  rcases he with rfl | rfl | rfl | rfl
  · exact ⟨2, d0, rfl, (show (2 : Int) = hashInt 2 by decide +kernel)⟩
  · exact ⟨3, d2, rfl, (show (3 : Int) = hashInt 3 by decide +kernel)⟩
  · exact ⟨4, d4, rfl, (show (4 : Int) = hashInt 4 by decide +kernel)⟩
  · exact ⟨5, d6, rfl, (show (5 : Int) = hashInt 5 by decide +kernel)⟩
theorem oth_get {d0 d1 d2 d3 d4 d5 d6 d7 : Tok} : ∀ c : Nat, c ∈ Gq02.letters → ∃ t, findBy Value.isInt (#[⟨2, .int 2 d0, .int 3 d1⟩, ⟨3, .int 3 d2, .int 2 d3⟩, ⟨4, .int 4 d4, .int 5 d5⟩, ⟨5, .int 5 d6, .int 4 d7⟩] : Array DictEntry) (c : Int) = some (.int ((Gq02.turned c : Nat) : Int) t) := by
  intro c hc
  simp only [Gq02.letters, List.mem_cons, List.not_mem_nil, or_false] at hc
  rcases hc with rfl | rfl | rfl | rfl
  · exact ⟨d1, rfl⟩
  · exact ⟨d3, rfl⟩
  · exact ⟨d5, rfl⟩
  · exact ⟨d7, rfl⟩
theorem all_mk {P : Program} {w : World} {K : PySem.W.Frag} {h : Heap} {mg : Str → Option Value} {fa : Addr} (X : K.In h) (G : h.Ns mainGlobals mg) (hfa : mg "answers" = some (.ref fa))
    {t_STAY : Tok}
    {t_LETTER : Tok}
    {t_IN_ORDER : Tok}
    {t_AGAIN : Tok}
    {t_LOWEST_LETTER : Tok}
    {t_HIGHEST_LETTER : Tok}
    {t_MOST_NUMBERS : Tok}
    {t_MOST_PARTS : Tok}
    {t_BEGINNING : Tok}
    {t_MOST_LETTERS_OF_FIRST : Tok}
    {t_MOST_LETTERS_OF_SECOND : Tok}
    {t_REFUSED_FORM : Tok}
    {t_REFUSED_NO_LINE : Tok}
    {t_REFUSED_SIZE : Tok}
    {t_MOST_LETTERS_OF_LINE : Tok}
    {t_ONE : Tok}
    {t_TWO : Tok}
    {t_WITHIN : Tok}
    {t_ALIKE : Tok}
    {t_LEADS : Tok}
    {t_STRAIGHT : Tok}
    {t_SHORTEST : Tok}
    {t_SWAP : Tok}
    {tc : Addr} {odT : Option Addr} {nT : Nat} {slT : Array (Option Value)} {tt0 tt1 tt2 tt3 tt4 : Tok}
    {od : Addr} {nD : Nat} {d0 d1 d2 d3 d4 d5 d6 d7 : Tok}
    {tr : Addr} {odR : Option Addr} {nR : Nat} {slR : Array (Option Value)} {rr0 rr1 rr2 rr3 : Tok}
    {C_NotAsTold : Addr}
    {C_TooLarge : Addr}
    {C_NoLine : Addr}
    {C_NoSuchCall : Addr}
    {C_Piece : Addr}
    {f_Piece_init : Addr} {od_Piece_init an_Piece_init : Option Addr} {sl_Piece_init : Array (Option Value)} {oc_Piece_init kV_Piece_init dc_Piece_init pm_Piece_init cd_Piece_init ct_Piece_init : Value}
    {C_Machine : Addr}
    {f_Machine_init : Addr} {od_Machine_init an_Machine_init : Option Addr} {sl_Machine_init : Array (Option Value)} {oc_Machine_init kV_Machine_init dc_Machine_init pm_Machine_init cd_Machine_init ct_Machine_init : Value}
    {C_Stop : Addr}
    {f_Stop_init : Addr} {od_Stop_init an_Stop_init : Option Addr} {sl_Stop_init : Array (Option Value)} {oc_Stop_init kV_Stop_init dc_Stop_init pm_Stop_init cd_Stop_init ct_Stop_init : Value}
    {C_Search : Addr}
    {f_Search_init : Addr} {od_Search_init an_Search_init : Option Addr} {sl_Search_init : Array (Option Value)} {oc_Search_init kV_Search_init dc_Search_init pm_Search_init cd_Search_init ct_Search_init : Value}
    {f_Search_view_on : Addr} {od_Search_view_on an_Search_view_on : Option Addr} {sl_Search_view_on : Array (Option Value)} {oc_Search_view_on kV_Search_view_on dc_Search_view_on pm_Search_view_on cd_Search_view_on ct_Search_view_on : Value}
    {f_Search_put_down : Addr} {od_Search_put_down an_Search_put_down : Option Addr} {sl_Search_put_down : Array (Option Value)} {oc_Search_put_down kV_Search_put_down dc_Search_put_down pm_Search_put_down cd_Search_put_down ct_Search_put_down : Value}
    {f_Search_go_on : Addr} {od_Search_go_on an_Search_go_on : Option Addr} {sl_Search_go_on : Array (Option Value)} {oc_Search_go_on kV_Search_go_on dc_Search_go_on pm_Search_go_on cd_Search_go_on ct_Search_go_on : Value}
    {f_Search_shows_it : Addr} {od_Search_shows_it an_Search_shows_it : Option Addr} {sl_Search_shows_it : Array (Option Value)} {oc_Search_shows_it kV_Search_shows_it dc_Search_shows_it pm_Search_shows_it cd_Search_shows_it ct_Search_shows_it : Value}
    {f_Search_line_to : Addr} {od_Search_line_to an_Search_line_to : Option Addr} {sl_Search_line_to : Array (Option Value)} {oc_Search_line_to kV_Search_line_to dc_Search_line_to pm_Search_line_to cd_Search_line_to ct_Search_line_to : Value}
    {C_Questions : Addr}
    {f_Questions_init : Addr} {od_Questions_init an_Questions_init : Option Addr} {sl_Questions_init : Array (Option Value)} {oc_Questions_init kV_Questions_init dc_Questions_init pm_Questions_init cd_Questions_init ct_Questions_init : Value}
    {f_Questions_take_first : Addr} {od_Questions_take_first an_Questions_take_first : Option Addr} {sl_Questions_take_first : Array (Option Value)} {oc_Questions_take_first kV_Questions_take_first dc_Questions_take_first pm_Questions_take_first cd_Questions_take_first ct_Questions_take_first : Value}
    {f_Questions_take_second : Addr} {od_Questions_take_second an_Questions_take_second : Option Addr} {sl_Questions_take_second : Array (Option Value)} {oc_Questions_take_second kV_Questions_take_second dc_Questions_take_second pm_Questions_take_second cd_Questions_take_second ct_Questions_take_second : Value}
    {f_Questions_tell_within : Addr} {od_Questions_tell_within an_Questions_tell_within : Option Addr} {sl_Questions_tell_within : Array (Option Value)} {oc_Questions_tell_within kV_Questions_tell_within dc_Questions_tell_within pm_Questions_tell_within cd_Questions_tell_within ct_Questions_tell_within : Value}
    {f_Questions_refuse_unless_first_could_be_second : Addr} {od_Questions_refuse_unless_first_could_be_second an_Questions_refuse_unless_first_could_be_second : Option Addr} {sl_Questions_refuse_unless_first_could_be_second : Array (Option Value)} {oc_Questions_refuse_unless_first_could_be_second kV_Questions_refuse_unless_first_could_be_second dc_Questions_refuse_unless_first_could_be_second pm_Questions_refuse_unless_first_could_be_second cd_Questions_refuse_unless_first_could_be_second ct_Questions_refuse_unless_first_could_be_second : Value}
    {f_Questions_tell_alike : Addr} {od_Questions_tell_alike an_Questions_tell_alike : Option Addr} {sl_Questions_tell_alike : Array (Option Value)} {oc_Questions_tell_alike kV_Questions_tell_alike dc_Questions_tell_alike pm_Questions_tell_alike cd_Questions_tell_alike ct_Questions_tell_alike : Value}
    {f_Questions_tell_leads : Addr} {od_Questions_tell_leads an_Questions_tell_leads : Option Addr} {sl_Questions_tell_leads : Array (Option Value)} {oc_Questions_tell_leads kV_Questions_tell_leads dc_Questions_tell_leads pm_Questions_tell_leads cd_Questions_tell_leads ct_Questions_tell_leads : Value}
    {f_Questions_tell_straight : Addr} {od_Questions_tell_straight an_Questions_tell_straight : Option Addr} {sl_Questions_tell_straight : Array (Option Value)} {oc_Questions_tell_straight kV_Questions_tell_straight dc_Questions_tell_straight pm_Questions_tell_straight cd_Questions_tell_straight ct_Questions_tell_straight : Value}
    {f_Questions_tell_shortest : Addr} {od_Questions_tell_shortest an_Questions_tell_shortest : Option Addr} {sl_Questions_tell_shortest : Array (Option Value)} {oc_Questions_tell_shortest kV_Questions_tell_shortest dc_Questions_tell_shortest pm_Questions_tell_shortest cd_Questions_tell_shortest ct_Questions_tell_shortest : Value}
    {f_Questions_swap : Addr} {od_Questions_swap an_Questions_swap : Option Addr} {sl_Questions_swap : Array (Option Value)} {oc_Questions_swap kV_Questions_swap dc_Questions_swap pm_Questions_swap cd_Questions_swap ct_Questions_swap : Value}
    {f_is_letter : Addr} {od_is_letter an_is_letter : Option Addr} {sl_is_letter : Array (Option Value)} {oc_is_letter kV_is_letter dc_is_letter pm_is_letter cd_is_letter ct_is_letter : Value}
    {f_read_part : Addr} {od_read_part an_read_part : Option Addr} {sl_read_part : Array (Option Value)} {oc_read_part kV_read_part dc_read_part pm_read_part cd_read_part ct_read_part : Value}
    {f_read_parts : Addr} {od_read_parts an_read_parts : Option Addr} {sl_read_parts : Array (Option Value)} {oc_read_parts kV_read_parts dc_read_parts pm_read_parts cd_read_parts ct_read_parts : Value}
    {f_letters_in : Addr} {od_letters_in an_letters_in : Option Addr} {sl_letters_in : Array (Option Value)} {oc_letters_in kV_letters_in dc_letters_in pm_letters_in cd_letters_in ct_letters_in : Value}
    {f_read_allowed_parts : Addr} {od_read_allowed_parts an_read_allowed_parts : Option Addr} {sl_read_allowed_parts : Array (Option Value)} {oc_read_allowed_parts kV_read_allowed_parts dc_read_allowed_parts pm_read_allowed_parts cd_read_allowed_parts ct_read_allowed_parts : Value}
    {f_has_state : Addr} {od_has_state an_has_state : Option Addr} {sl_has_state : Array (Option Value)} {oc_has_state kV_has_state dc_has_state pm_has_state cd_has_state ct_has_state : Value}
    {f_reached_by : Addr} {od_reached_by an_reached_by : Option Addr} {sl_reached_by : Array (Option Value)} {oc_reached_by kV_reached_by dc_reached_by pm_reached_by cd_reached_by ct_reached_by : Value}
    {f_link : Addr} {od_link an_link : Option Addr} {sl_link : Array (Option Value)} {oc_link kV_link dc_link pm_link cd_link ct_link : Value}
    {f_piece_again : Addr} {od_piece_again an_piece_again : Option Addr} {sl_piece_again : Array (Option Value)} {oc_piece_again kV_piece_again dc_piece_again pm_piece_again cd_piece_again ct_piece_again : Value}
    {f_piece_in_order : Addr} {od_piece_in_order an_piece_in_order : Option Addr} {sl_piece_in_order : Array (Option Value)} {oc_piece_in_order kV_piece_in_order dc_piece_in_order pm_piece_in_order cd_piece_in_order ct_piece_in_order : Value}
    {f_piece_either : Addr} {od_piece_either an_piece_either : Option Addr} {sl_piece_either : Array (Option Value)} {oc_piece_either kV_piece_either dc_piece_either pm_piece_either cd_piece_either ct_piece_either : Value}
    {f_piece_of_two : Addr} {od_piece_of_two an_piece_of_two : Option Addr} {sl_piece_of_two : Array (Option Value)} {oc_piece_of_two kV_piece_of_two dc_piece_of_two pm_piece_of_two cd_piece_of_two ct_piece_of_two : Value}
    {f_whole_piece : Addr} {od_whole_piece an_whole_piece : Option Addr} {sl_whole_piece : Array (Option Value)} {oc_whole_piece kV_whole_piece dc_whole_piece pm_whole_piece cd_whole_piece ct_whole_piece : Value}
    {f_states_of_letter : Addr} {od_states_of_letter an_states_of_letter : Option Addr} {sl_states_of_letter : Array (Option Value)} {oc_states_of_letter kV_states_of_letter dc_states_of_letter pm_states_of_letter cd_states_of_letter ct_states_of_letter : Value}
    {f_moves_of : Addr} {od_moves_of an_moves_of : Option Addr} {sl_moves_of : Array (Option Value)} {oc_moves_of kV_moves_of dc_moves_of pm_moves_of cd_moves_of ct_moves_of : Value}
    {f_machine_of : Addr} {od_machine_of an_machine_of : Option Addr} {sl_machine_of : Array (Option Value)} {oc_machine_of kV_machine_of dc_machine_of pm_machine_of cd_machine_of ct_machine_of : Value}
    {f_view_of_no_letters : Addr} {od_view_of_no_letters an_view_of_no_letters : Option Addr} {sl_view_of_no_letters : Array (Option Value)} {oc_view_of_no_letters kV_view_of_no_letters dc_view_of_no_letters pm_view_of_no_letters cd_view_of_no_letters ct_view_of_no_letters : Value}
    {f_any_number_of_times : Addr} {od_any_number_of_times an_any_number_of_times : Option Addr} {sl_any_number_of_times : Array (Option Value)} {oc_any_number_of_times kV_any_number_of_times dc_any_number_of_times pm_any_number_of_times cd_any_number_of_times ct_any_number_of_times : Value}
    {f_view_one_letter_on : Addr} {od_view_one_letter_on an_view_one_letter_on : Option Addr} {sl_view_one_letter_on : Array (Option Value)} {oc_view_one_letter_on kV_view_one_letter_on dc_view_one_letter_on pm_view_one_letter_on cd_view_one_letter_on ct_view_one_letter_on : Value}
    {f_view_leads_along : Addr} {od_view_leads_along an_view_leads_along : Option Addr} {sl_view_leads_along : Array (Option Value)} {oc_view_leads_along kV_view_leads_along dc_view_leads_along pm_view_leads_along cd_view_leads_along ct_view_leads_along : Value}
    {f_line_that_shows_it : Addr} {od_line_that_shows_it an_line_that_shows_it : Option Addr} {sl_line_that_shows_it : Array (Option Value)} {oc_line_that_shows_it kV_line_that_shows_it dc_line_that_shows_it pm_line_that_shows_it cd_line_that_shows_it ct_line_that_shows_it : Value}
    {f_is_within : Addr} {od_is_within an_is_within : Option Addr} {sl_is_within : Array (Option Value)} {oc_is_within kV_is_within dc_is_within pm_is_within cd_is_within ct_is_within : Value}
    {f_read_line : Addr} {od_read_line an_read_line : Option Addr} {sl_read_line : Array (Option Value)} {oc_read_line kV_read_line dc_read_line pm_read_line cd_read_line ct_read_line : Value}
    {f_machine_that_leads_nowhere : Addr} {od_machine_that_leads_nowhere an_machine_that_leads_nowhere : Option Addr} {sl_machine_that_leads_nowhere : Array (Option Value)} {oc_machine_that_leads_nowhere kV_machine_that_leads_nowhere dc_machine_that_leads_nowhere pm_machine_that_leads_nowhere cd_machine_that_leads_nowhere ct_machine_that_leads_nowhere : Value}
    {f_leads_straight : Addr} {od_leads_straight an_leads_straight : Option Addr} {sl_leads_straight : Array (Option Value)} {oc_leads_straight kV_leads_straight dc_leads_straight pm_leads_straight cd_leads_straight ct_leads_straight : Value}
    {f_leads_along : Addr} {od_leads_along an_leads_along : Option Addr} {sl_leads_along : Array (Option Value)} {oc_leads_along kV_leads_along dc_leads_along pm_leads_along cd_leads_along ct_leads_along : Value}
    {f_shortest_line : Addr} {od_shortest_line an_shortest_line : Option Addr} {sl_shortest_line : Array (Option Value)} {oc_shortest_line kV_shortest_line dc_shortest_line pm_shortest_line cd_shortest_line ct_shortest_line : Value}
    {f_yes_or_no : Addr} {od_yes_or_no an_yes_or_no : Option Addr} {sl_yes_or_no : Array (Option Value)} {oc_yes_or_no kV_yes_or_no dc_yes_or_no pm_yes_or_no cd_yes_or_no ct_yes_or_no : Value}
    {f_answer : Addr} {od_answer an_answer : Option Addr} {sl_answer : Array (Option Value)} {oc_answer kV_answer dc_answer pm_answer cd_answer ct_answer : Value}
    {f_answer_or_refusal : Addr} {od_answer_or_refusal an_answer_or_refusal : Option Addr} {sl_answer_or_refusal : Array (Option Value)} {oc_answer_or_refusal kV_answer_or_refusal dc_answer_or_refusal pm_answer_or_refusal cd_answer_or_refusal ct_answer_or_refusal : Value}
    {f_answers : Addr} {od_answers an_answers : Option Addr} {sl_answers : Array (Option Value)} {oc_answers kV_answers dc_answers pm_answers cd_answers ct_answers : Value}
    (g_STAY : PySem.W.nsIn K mainGlobals "STAY" = some (some (.int (0) t_STAY)))
    (g_LETTER : PySem.W.nsIn K mainGlobals "LETTER" = some (some (.int (1) t_LETTER)))
    (g_IN_ORDER : PySem.W.nsIn K mainGlobals "IN_ORDER" = some (some (.int (2) t_IN_ORDER)))
    (g_AGAIN : PySem.W.nsIn K mainGlobals "AGAIN" = some (some (.int (4) t_AGAIN)))
    (g_LOWEST_LETTER : PySem.W.nsIn K mainGlobals "LOWEST_LETTER" = some (some (.int (2) t_LOWEST_LETTER)))
    (g_HIGHEST_LETTER : PySem.W.nsIn K mainGlobals "HIGHEST_LETTER" = some (some (.int (5) t_HIGHEST_LETTER)))
    (g_MOST_NUMBERS : PySem.W.nsIn K mainGlobals "MOST_NUMBERS" = some (some (.int (60) t_MOST_NUMBERS)))
    (g_MOST_PARTS : PySem.W.nsIn K mainGlobals "MOST_PARTS" = some (some (.int (30) t_MOST_PARTS)))
    (g_BEGINNING : PySem.W.nsIn K mainGlobals "BEGINNING" = some (some (.int (1) t_BEGINNING)))
    (g_MOST_LETTERS_OF_FIRST : PySem.W.nsIn K mainGlobals "MOST_LETTERS_OF_FIRST" = some (some (.int (6) t_MOST_LETTERS_OF_FIRST)))
    (g_MOST_LETTERS_OF_SECOND : PySem.W.nsIn K mainGlobals "MOST_LETTERS_OF_SECOND" = some (some (.int (3) t_MOST_LETTERS_OF_SECOND)))
    (g_REFUSED_FORM : PySem.W.nsIn K mainGlobals "REFUSED_FORM" = some (some (.int (-1) t_REFUSED_FORM)))
    (g_REFUSED_NO_LINE : PySem.W.nsIn K mainGlobals "REFUSED_NO_LINE" = some (some (.int (-3) t_REFUSED_NO_LINE)))
    (g_REFUSED_SIZE : PySem.W.nsIn K mainGlobals "REFUSED_SIZE" = some (some (.int (-5) t_REFUSED_SIZE)))
    (g_MOST_LETTERS_OF_LINE : PySem.W.nsIn K mainGlobals "MOST_LETTERS_OF_LINE" = some (some (.int (20) t_MOST_LETTERS_OF_LINE)))
    (g_ONE : PySem.W.nsIn K mainGlobals "ONE" = some (some (.int (0) t_ONE)))
    (g_TWO : PySem.W.nsIn K mainGlobals "TWO" = some (some (.int (1) t_TWO)))
    (g_WITHIN : PySem.W.nsIn K mainGlobals "WITHIN" = some (some (.int (2) t_WITHIN)))
    (g_ALIKE : PySem.W.nsIn K mainGlobals "ALIKE" = some (some (.int (3) t_ALIKE)))
    (g_LEADS : PySem.W.nsIn K mainGlobals "LEADS" = some (some (.int (4) t_LEADS)))
    (g_STRAIGHT : PySem.W.nsIn K mainGlobals "STRAIGHT" = some (some (.int (5) t_STRAIGHT)))
    (g_SHORTEST : PySem.W.nsIn K mainGlobals "SHORTEST" = some (some (.int (6) t_SHORTEST)))
    (g_SWAP : PySem.W.nsIn K mainGlobals "SWAP" = some (some (.int (7) t_SWAP)))
    (b_len : PySem.W.nsIn K mainGlobals "len" = some none)
    (b_range : PySem.W.nsIn K mainGlobals "range" = some none)
    (b_enumerate : PySem.W.nsIn K mainGlobals "enumerate" = some none)
    (b_reversed : PySem.W.nsIn K mainGlobals "reversed" = some none)
    (b_list : PySem.W.nsIn K mainGlobals "list" = some none)
    (b_tuple : PySem.W.nsIn K mainGlobals "tuple" = some none)
    (g_CB : PySem.W.nsIn K mainGlobals "CODES_BEHIND" = some (some (.ref tc)))
    (l_CB : K.lookup tc = some ⟨.type "tuple", odT, .seq #[.int 0 tt0, .int 0 tt1, .int 2 tt2, .int 2 tt3, .int 1 tt4] nT, slT⟩)
    (g_OD : PySem.W.nsIn K mainGlobals "OTHER_DIRECTION" = some (some (.ref od)))
    (l_OD : K.lookup od = some ⟨.type "dict", none, .dict #[⟨2, .int 2 d0, .int 3 d1⟩, ⟨3, .int 3 d2, .int 2 d3⟩, ⟨4, .int 4 d4, .int 5 d5⟩, ⟨5, .int 5 d6, .int 4 d7⟩] nD, #[]⟩)
    (g_CR : PySem.W.nsIn K mainGlobals "CALLS_WITH_A_ROW" = some (some (.ref tr)))
    (l_CR : K.lookup tr = some ⟨.type "tuple", odR, .seq #[.int 0 rr0, .int 1 rr1, .int 4 rr2, .int 5 rr3] nR, slR⟩)
    (g_NotAsTold : PySem.W.nsIn K mainGlobals "NotAsTold" = some (some (.ref C_NotAsTold)))
    (x_NotAsTold : PySem.W.excIn K C_NotAsTold [.type "Exception", .type "BaseException", .type "object"] "Exception.__new__" = true)
    (k_NotAsTold : PySem.W.keepIn K (.ref C_NotAsTold) = true)
    (b_NotAsTold : PySem.W.subIn K (.ref C_NotAsTold) (.type "BaseException") = some true)
    (t_NotAsTold : PySem.W.typeIn K (.ref C_NotAsTold) = some (.type "type"))
    (i_NotAsTold : PySem.W.isClsIn K C_NotAsTold = true)
    (s_NotAsTold : PySem.W.subIn K (.ref C_NotAsTold) (.ref C_NotAsTold) = some true)
    (g_TooLarge : PySem.W.nsIn K mainGlobals "TooLarge" = some (some (.ref C_TooLarge)))
    (x_TooLarge : PySem.W.excIn K C_TooLarge [.type "Exception", .type "BaseException", .type "object"] "Exception.__new__" = true)
    (k_TooLarge : PySem.W.keepIn K (.ref C_TooLarge) = true)
    (b_TooLarge : PySem.W.subIn K (.ref C_TooLarge) (.type "BaseException") = some true)
    (t_TooLarge : PySem.W.typeIn K (.ref C_TooLarge) = some (.type "type"))
    (i_TooLarge : PySem.W.isClsIn K C_TooLarge = true)
    (s_TooLarge : PySem.W.subIn K (.ref C_TooLarge) (.ref C_TooLarge) = some true)
    (g_NoLine : PySem.W.nsIn K mainGlobals "NoLine" = some (some (.ref C_NoLine)))
    (x_NoLine : PySem.W.excIn K C_NoLine [.type "Exception", .type "BaseException", .type "object"] "Exception.__new__" = true)
    (k_NoLine : PySem.W.keepIn K (.ref C_NoLine) = true)
    (b_NoLine : PySem.W.subIn K (.ref C_NoLine) (.type "BaseException") = some true)
    (t_NoLine : PySem.W.typeIn K (.ref C_NoLine) = some (.type "type"))
    (i_NoLine : PySem.W.isClsIn K C_NoLine = true)
    (s_NoLine : PySem.W.subIn K (.ref C_NoLine) (.ref C_NoLine) = some true)
    (g_NoSuchCall : PySem.W.nsIn K mainGlobals "NoSuchCall" = some (some (.ref C_NoSuchCall)))
    (x_NoSuchCall : PySem.W.excIn K C_NoSuchCall [.type "Exception", .type "BaseException", .type "object"] "Exception.__new__" = true)
    (k_NoSuchCall : PySem.W.keepIn K (.ref C_NoSuchCall) = true)
    (b_NoSuchCall : PySem.W.subIn K (.ref C_NoSuchCall) (.type "BaseException") = some true)
    (t_NoSuchCall : PySem.W.typeIn K (.ref C_NoSuchCall) = some (.type "type"))
    (i_NoSuchCall : PySem.W.isClsIn K C_NoSuchCall = true)
    (s_NoSuchCall : PySem.W.subIn K (.ref C_NoSuchCall) (.ref C_NoSuchCall) = some true)
    (s_TN : PySem.W.subIn K (.ref C_TooLarge) (.ref C_NotAsTold) = some false)
    (s_TL : PySem.W.subIn K (.ref C_TooLarge) (.ref C_NoLine) = some false)
    (g_Piece : PySem.W.nsIn K mainGlobals "Piece" = some (some (.ref C_Piece)))
    (pg_Piece : PySem.W.plainGet K C_Piece Str.empty = true)
    (hd_Piece : PySem.W.hasDictIn K C_Piece = true)
    (po_Piece : PySem.W.plainOver K C_Piece = true)
    (sa_Piece : PySem.W.findIn K (.ref C_Piece) "__setattr__" = some (some (.builtin "object.__setattr__")))
    (mk_Piece : PySem.W.makesIn K C_Piece = true)
    (kc_Piece : PySem.W.keepIn K (.ref C_Piece) = true)
    (n_Piece_may_stay : PySem.W.findIn K (.ref C_Piece) "may_stay" = some none)
    (n_Piece_begins : PySem.W.findIn K (.ref C_Piece) "begins" = some none)
    (n_Piece_ends : PySem.W.findIn K (.ref C_Piece) "ends" = some none)
    (a_Piece_init : PySem.W.findIn K (.ref C_Piece) "__init__" = some (some (.ref f_Piece_init)))
    (i_Piece_init : PySem.W.isFn K (.ref f_Piece_init) = true)
    (l_Piece_init : K.lookup f_Piece_init = some ⟨oc_Piece_init, od_Piece_init, .func (PySem.W.fnOf "__init__" "Piece.__init__" (defArgs s_Piece_init) (defBody s_Piece_init) (defScope s_Piece_init) .none kV_Piece_init dc_Piece_init pm_Piece_init an_Piece_init cd_Piece_init ct_Piece_init), sl_Piece_init⟩)
    (c_Piece_init : PySem.W.codeIn K cd_Piece_init "Piece.__init__" = true)
    (k_Piece_init : PySem.W.keepIn K (.ref f_Piece_init) = true)
    (g_Machine : PySem.W.nsIn K mainGlobals "Machine" = some (some (.ref C_Machine)))
    (pg_Machine : PySem.W.plainGet K C_Machine Str.empty = true)
    (hd_Machine : PySem.W.hasDictIn K C_Machine = true)
    (po_Machine : PySem.W.plainOver K C_Machine = true)
    (sa_Machine : PySem.W.findIn K (.ref C_Machine) "__setattr__" = some (some (.builtin "object.__setattr__")))
    (mk_Machine : PySem.W.makesIn K C_Machine = true)
    (kc_Machine : PySem.W.keepIn K (.ref C_Machine) = true)
    (n_Machine_letter_count : PySem.W.findIn K (.ref C_Machine) "letter_count" = some none)
    (n_Machine_state_count : PySem.W.findIn K (.ref C_Machine) "state_count" = some none)
    (n_Machine_moves : PySem.W.findIn K (.ref C_Machine) "moves" = some none)
    (n_Machine_final : PySem.W.findIn K (.ref C_Machine) "final" = some none)
    (a_Machine_init : PySem.W.findIn K (.ref C_Machine) "__init__" = some (some (.ref f_Machine_init)))
    (i_Machine_init : PySem.W.isFn K (.ref f_Machine_init) = true)
    (l_Machine_init : K.lookup f_Machine_init = some ⟨oc_Machine_init, od_Machine_init, .func (PySem.W.fnOf "__init__" "Machine.__init__" (defArgs s_Machine_init) (defBody s_Machine_init) (defScope s_Machine_init) .none kV_Machine_init dc_Machine_init pm_Machine_init an_Machine_init cd_Machine_init ct_Machine_init), sl_Machine_init⟩)
    (c_Machine_init : PySem.W.codeIn K cd_Machine_init "Machine.__init__" = true)
    (k_Machine_init : PySem.W.keepIn K (.ref f_Machine_init) = true)
    (g_Stop : PySem.W.nsIn K mainGlobals "Stop" = some (some (.ref C_Stop)))
    (pg_Stop : PySem.W.plainGet K C_Stop Str.empty = true)
    (hd_Stop : PySem.W.hasDictIn K C_Stop = true)
    (po_Stop : PySem.W.plainOver K C_Stop = true)
    (sa_Stop : PySem.W.findIn K (.ref C_Stop) "__setattr__" = some (some (.builtin "object.__setattr__")))
    (mk_Stop : PySem.W.makesIn K C_Stop = true)
    (kc_Stop : PySem.W.keepIn K (.ref C_Stop) = true)
    (n_Stop_states : PySem.W.findIn K (.ref C_Stop) "states" = some none)
    (n_Stop_view : PySem.W.findIn K (.ref C_Stop) "view" = some none)
    (n_Stop_letter : PySem.W.findIn K (.ref C_Stop) "letter" = some none)
    (n_Stop_before : PySem.W.findIn K (.ref C_Stop) "before" = some none)
    (a_Stop_init : PySem.W.findIn K (.ref C_Stop) "__init__" = some (some (.ref f_Stop_init)))
    (i_Stop_init : PySem.W.isFn K (.ref f_Stop_init) = true)
    (l_Stop_init : K.lookup f_Stop_init = some ⟨oc_Stop_init, od_Stop_init, .func (PySem.W.fnOf "__init__" "Stop.__init__" (defArgs s_Stop_init) (defBody s_Stop_init) (defScope s_Stop_init) .none kV_Stop_init dc_Stop_init pm_Stop_init an_Stop_init cd_Stop_init ct_Stop_init), sl_Stop_init⟩)
    (c_Stop_init : PySem.W.codeIn K cd_Stop_init "Stop.__init__" = true)
    (k_Stop_init : PySem.W.keepIn K (.ref f_Stop_init) = true)
    (g_Search : PySem.W.nsIn K mainGlobals "Search" = some (some (.ref C_Search)))
    (pg_Search : PySem.W.plainGet K C_Search Str.empty = true)
    (hd_Search : PySem.W.hasDictIn K C_Search = true)
    (po_Search : PySem.W.plainOver K C_Search = true)
    (sa_Search : PySem.W.findIn K (.ref C_Search) "__setattr__" = some (some (.builtin "object.__setattr__")))
    (mk_Search : PySem.W.makesIn K C_Search = true)
    (kc_Search : PySem.W.keepIn K (.ref C_Search) = true)
    (n_Search_first : PySem.W.findIn K (.ref C_Search) "first" = some none)
    (n_Search_second : PySem.W.findIn K (.ref C_Search) "second" = some none)
    (n_Search_stops : PySem.W.findIn K (.ref C_Search) "stops" = some none)
    (n_Search_states_seen : PySem.W.findIn K (.ref C_Search) "states_seen" = some none)
    (n_Search_views_on : PySem.W.findIn K (.ref C_Search) "views_on" = some none)
    (a_Search_init : PySem.W.findIn K (.ref C_Search) "__init__" = some (some (.ref f_Search_init)))
    (i_Search_init : PySem.W.isFn K (.ref f_Search_init) = true)
    (l_Search_init : K.lookup f_Search_init = some ⟨oc_Search_init, od_Search_init, .func (PySem.W.fnOf "__init__" "Search.__init__" (defArgs s_Search_init) (defBody s_Search_init) (defScope s_Search_init) .none kV_Search_init dc_Search_init pm_Search_init an_Search_init cd_Search_init ct_Search_init), sl_Search_init⟩)
    (c_Search_init : PySem.W.codeIn K cd_Search_init "Search.__init__" = true)
    (k_Search_init : PySem.W.keepIn K (.ref f_Search_init) = true)
    (a_Search_view_on : PySem.W.findIn K (.ref C_Search) "view_on" = some (some (.ref f_Search_view_on)))
    (i_Search_view_on : PySem.W.isFn K (.ref f_Search_view_on) = true)
    (l_Search_view_on : K.lookup f_Search_view_on = some ⟨oc_Search_view_on, od_Search_view_on, .func (PySem.W.fnOf "view_on" "Search.view_on" (defArgs s_Search_view_on) (defBody s_Search_view_on) (defScope s_Search_view_on) .none kV_Search_view_on dc_Search_view_on pm_Search_view_on an_Search_view_on cd_Search_view_on ct_Search_view_on), sl_Search_view_on⟩)
    (c_Search_view_on : PySem.W.codeIn K cd_Search_view_on "Search.view_on" = true)
    (k_Search_view_on : PySem.W.keepIn K (.ref f_Search_view_on) = true)
    (a_Search_put_down : PySem.W.findIn K (.ref C_Search) "put_down" = some (some (.ref f_Search_put_down)))
    (i_Search_put_down : PySem.W.isFn K (.ref f_Search_put_down) = true)
    (l_Search_put_down : K.lookup f_Search_put_down = some ⟨oc_Search_put_down, od_Search_put_down, .func (PySem.W.fnOf "put_down" "Search.put_down" (defArgs s_Search_put_down) (defBody s_Search_put_down) (defScope s_Search_put_down) .none kV_Search_put_down dc_Search_put_down pm_Search_put_down an_Search_put_down cd_Search_put_down ct_Search_put_down), sl_Search_put_down⟩)
    (c_Search_put_down : PySem.W.codeIn K cd_Search_put_down "Search.put_down" = true)
    (k_Search_put_down : PySem.W.keepIn K (.ref f_Search_put_down) = true)
    (a_Search_go_on : PySem.W.findIn K (.ref C_Search) "go_on" = some (some (.ref f_Search_go_on)))
    (i_Search_go_on : PySem.W.isFn K (.ref f_Search_go_on) = true)
    (l_Search_go_on : K.lookup f_Search_go_on = some ⟨oc_Search_go_on, od_Search_go_on, .func (PySem.W.fnOf "go_on" "Search.go_on" (defArgs s_Search_go_on) (defBody s_Search_go_on) (defScope s_Search_go_on) .none kV_Search_go_on dc_Search_go_on pm_Search_go_on an_Search_go_on cd_Search_go_on ct_Search_go_on), sl_Search_go_on⟩)
    (c_Search_go_on : PySem.W.codeIn K cd_Search_go_on "Search.go_on" = true)
    (k_Search_go_on : PySem.W.keepIn K (.ref f_Search_go_on) = true)
    (a_Search_shows_it : PySem.W.findIn K (.ref C_Search) "shows_it" = some (some (.ref f_Search_shows_it)))
    (i_Search_shows_it : PySem.W.isFn K (.ref f_Search_shows_it) = true)
    (l_Search_shows_it : K.lookup f_Search_shows_it = some ⟨oc_Search_shows_it, od_Search_shows_it, .func (PySem.W.fnOf "shows_it" "Search.shows_it" (defArgs s_Search_shows_it) (defBody s_Search_shows_it) (defScope s_Search_shows_it) .none kV_Search_shows_it dc_Search_shows_it pm_Search_shows_it an_Search_shows_it cd_Search_shows_it ct_Search_shows_it), sl_Search_shows_it⟩)
    (c_Search_shows_it : PySem.W.codeIn K cd_Search_shows_it "Search.shows_it" = true)
    (k_Search_shows_it : PySem.W.keepIn K (.ref f_Search_shows_it) = true)
    (a_Search_line_to : PySem.W.findIn K (.ref C_Search) "line_to" = some (some (.ref f_Search_line_to)))
    (i_Search_line_to : PySem.W.isFn K (.ref f_Search_line_to) = true)
    (l_Search_line_to : K.lookup f_Search_line_to = some ⟨oc_Search_line_to, od_Search_line_to, .func (PySem.W.fnOf "line_to" "Search.line_to" (defArgs s_Search_line_to) (defBody s_Search_line_to) (defScope s_Search_line_to) .none kV_Search_line_to dc_Search_line_to pm_Search_line_to an_Search_line_to cd_Search_line_to ct_Search_line_to), sl_Search_line_to⟩)
    (c_Search_line_to : PySem.W.codeIn K cd_Search_line_to "Search.line_to" = true)
    (k_Search_line_to : PySem.W.keepIn K (.ref f_Search_line_to) = true)
    (g_Questions : PySem.W.nsIn K mainGlobals "Questions" = some (some (.ref C_Questions)))
    (pg_Questions : PySem.W.plainGet K C_Questions Str.empty = true)
    (hd_Questions : PySem.W.hasDictIn K C_Questions = true)
    (po_Questions : PySem.W.plainOver K C_Questions = true)
    (sa_Questions : PySem.W.findIn K (.ref C_Questions) "__setattr__" = some (some (.builtin "object.__setattr__")))
    (mk_Questions : PySem.W.makesIn K C_Questions = true)
    (kc_Questions : PySem.W.keepIn K (.ref C_Questions) = true)
    (n_Questions_first : PySem.W.findIn K (.ref C_Questions) "first" = some none)
    (n_Questions_second : PySem.W.findIn K (.ref C_Questions) "second" = some none)
    (a_Questions_init : PySem.W.findIn K (.ref C_Questions) "__init__" = some (some (.ref f_Questions_init)))
    (i_Questions_init : PySem.W.isFn K (.ref f_Questions_init) = true)
    (l_Questions_init : K.lookup f_Questions_init = some ⟨oc_Questions_init, od_Questions_init, .func (PySem.W.fnOf "__init__" "Questions.__init__" (defArgs s_Questions_init) (defBody s_Questions_init) (defScope s_Questions_init) .none kV_Questions_init dc_Questions_init pm_Questions_init an_Questions_init cd_Questions_init ct_Questions_init), sl_Questions_init⟩)
    (c_Questions_init : PySem.W.codeIn K cd_Questions_init "Questions.__init__" = true)
    (k_Questions_init : PySem.W.keepIn K (.ref f_Questions_init) = true)
    (a_Questions_take_first : PySem.W.findIn K (.ref C_Questions) "take_first" = some (some (.ref f_Questions_take_first)))
    (i_Questions_take_first : PySem.W.isFn K (.ref f_Questions_take_first) = true)
    (l_Questions_take_first : K.lookup f_Questions_take_first = some ⟨oc_Questions_take_first, od_Questions_take_first, .func (PySem.W.fnOf "take_first" "Questions.take_first" (defArgs s_Questions_take_first) (defBody s_Questions_take_first) (defScope s_Questions_take_first) .none kV_Questions_take_first dc_Questions_take_first pm_Questions_take_first an_Questions_take_first cd_Questions_take_first ct_Questions_take_first), sl_Questions_take_first⟩)
    (c_Questions_take_first : PySem.W.codeIn K cd_Questions_take_first "Questions.take_first" = true)
    (k_Questions_take_first : PySem.W.keepIn K (.ref f_Questions_take_first) = true)
    (a_Questions_take_second : PySem.W.findIn K (.ref C_Questions) "take_second" = some (some (.ref f_Questions_take_second)))
    (i_Questions_take_second : PySem.W.isFn K (.ref f_Questions_take_second) = true)
    (l_Questions_take_second : K.lookup f_Questions_take_second = some ⟨oc_Questions_take_second, od_Questions_take_second, .func (PySem.W.fnOf "take_second" "Questions.take_second" (defArgs s_Questions_take_second) (defBody s_Questions_take_second) (defScope s_Questions_take_second) .none kV_Questions_take_second dc_Questions_take_second pm_Questions_take_second an_Questions_take_second cd_Questions_take_second ct_Questions_take_second), sl_Questions_take_second⟩)
    (c_Questions_take_second : PySem.W.codeIn K cd_Questions_take_second "Questions.take_second" = true)
    (k_Questions_take_second : PySem.W.keepIn K (.ref f_Questions_take_second) = true)
    (a_Questions_tell_within : PySem.W.findIn K (.ref C_Questions) "tell_within" = some (some (.ref f_Questions_tell_within)))
    (i_Questions_tell_within : PySem.W.isFn K (.ref f_Questions_tell_within) = true)
    (l_Questions_tell_within : K.lookup f_Questions_tell_within = some ⟨oc_Questions_tell_within, od_Questions_tell_within, .func (PySem.W.fnOf "tell_within" "Questions.tell_within" (defArgs s_Questions_tell_within) (defBody s_Questions_tell_within) (defScope s_Questions_tell_within) .none kV_Questions_tell_within dc_Questions_tell_within pm_Questions_tell_within an_Questions_tell_within cd_Questions_tell_within ct_Questions_tell_within), sl_Questions_tell_within⟩)
    (c_Questions_tell_within : PySem.W.codeIn K cd_Questions_tell_within "Questions.tell_within" = true)
    (k_Questions_tell_within : PySem.W.keepIn K (.ref f_Questions_tell_within) = true)
    (a_Questions_refuse_unless_first_could_be_second : PySem.W.findIn K (.ref C_Questions) "refuse_unless_first_could_be_second" = some (some (.ref f_Questions_refuse_unless_first_could_be_second)))
    (i_Questions_refuse_unless_first_could_be_second : PySem.W.isFn K (.ref f_Questions_refuse_unless_first_could_be_second) = true)
    (l_Questions_refuse_unless_first_could_be_second : K.lookup f_Questions_refuse_unless_first_could_be_second = some ⟨oc_Questions_refuse_unless_first_could_be_second, od_Questions_refuse_unless_first_could_be_second, .func (PySem.W.fnOf "refuse_unless_first_could_be_second" "Questions.refuse_unless_first_could_be_second" (defArgs s_Questions_refuse_unless_first_could_be_second) (defBody s_Questions_refuse_unless_first_could_be_second) (defScope s_Questions_refuse_unless_first_could_be_second) .none kV_Questions_refuse_unless_first_could_be_second dc_Questions_refuse_unless_first_could_be_second pm_Questions_refuse_unless_first_could_be_second an_Questions_refuse_unless_first_could_be_second cd_Questions_refuse_unless_first_could_be_second ct_Questions_refuse_unless_first_could_be_second), sl_Questions_refuse_unless_first_could_be_second⟩)
    (c_Questions_refuse_unless_first_could_be_second : PySem.W.codeIn K cd_Questions_refuse_unless_first_could_be_second "Questions.refuse_unless_first_could_be_second" = true)
    (k_Questions_refuse_unless_first_could_be_second : PySem.W.keepIn K (.ref f_Questions_refuse_unless_first_could_be_second) = true)
    (a_Questions_tell_alike : PySem.W.findIn K (.ref C_Questions) "tell_alike" = some (some (.ref f_Questions_tell_alike)))
    (i_Questions_tell_alike : PySem.W.isFn K (.ref f_Questions_tell_alike) = true)
    (l_Questions_tell_alike : K.lookup f_Questions_tell_alike = some ⟨oc_Questions_tell_alike, od_Questions_tell_alike, .func (PySem.W.fnOf "tell_alike" "Questions.tell_alike" (defArgs s_Questions_tell_alike) (defBody s_Questions_tell_alike) (defScope s_Questions_tell_alike) .none kV_Questions_tell_alike dc_Questions_tell_alike pm_Questions_tell_alike an_Questions_tell_alike cd_Questions_tell_alike ct_Questions_tell_alike), sl_Questions_tell_alike⟩)
    (c_Questions_tell_alike : PySem.W.codeIn K cd_Questions_tell_alike "Questions.tell_alike" = true)
    (k_Questions_tell_alike : PySem.W.keepIn K (.ref f_Questions_tell_alike) = true)
    (a_Questions_tell_leads : PySem.W.findIn K (.ref C_Questions) "tell_leads" = some (some (.ref f_Questions_tell_leads)))
    (i_Questions_tell_leads : PySem.W.isFn K (.ref f_Questions_tell_leads) = true)
    (l_Questions_tell_leads : K.lookup f_Questions_tell_leads = some ⟨oc_Questions_tell_leads, od_Questions_tell_leads, .func (PySem.W.fnOf "tell_leads" "Questions.tell_leads" (defArgs s_Questions_tell_leads) (defBody s_Questions_tell_leads) (defScope s_Questions_tell_leads) .none kV_Questions_tell_leads dc_Questions_tell_leads pm_Questions_tell_leads an_Questions_tell_leads cd_Questions_tell_leads ct_Questions_tell_leads), sl_Questions_tell_leads⟩)
    (c_Questions_tell_leads : PySem.W.codeIn K cd_Questions_tell_leads "Questions.tell_leads" = true)
    (k_Questions_tell_leads : PySem.W.keepIn K (.ref f_Questions_tell_leads) = true)
    (a_Questions_tell_straight : PySem.W.findIn K (.ref C_Questions) "tell_straight" = some (some (.ref f_Questions_tell_straight)))
    (i_Questions_tell_straight : PySem.W.isFn K (.ref f_Questions_tell_straight) = true)
    (l_Questions_tell_straight : K.lookup f_Questions_tell_straight = some ⟨oc_Questions_tell_straight, od_Questions_tell_straight, .func (PySem.W.fnOf "tell_straight" "Questions.tell_straight" (defArgs s_Questions_tell_straight) (defBody s_Questions_tell_straight) (defScope s_Questions_tell_straight) .none kV_Questions_tell_straight dc_Questions_tell_straight pm_Questions_tell_straight an_Questions_tell_straight cd_Questions_tell_straight ct_Questions_tell_straight), sl_Questions_tell_straight⟩)
    (c_Questions_tell_straight : PySem.W.codeIn K cd_Questions_tell_straight "Questions.tell_straight" = true)
    (k_Questions_tell_straight : PySem.W.keepIn K (.ref f_Questions_tell_straight) = true)
    (a_Questions_tell_shortest : PySem.W.findIn K (.ref C_Questions) "tell_shortest" = some (some (.ref f_Questions_tell_shortest)))
    (i_Questions_tell_shortest : PySem.W.isFn K (.ref f_Questions_tell_shortest) = true)
    (l_Questions_tell_shortest : K.lookup f_Questions_tell_shortest = some ⟨oc_Questions_tell_shortest, od_Questions_tell_shortest, .func (PySem.W.fnOf "tell_shortest" "Questions.tell_shortest" (defArgs s_Questions_tell_shortest) (defBody s_Questions_tell_shortest) (defScope s_Questions_tell_shortest) .none kV_Questions_tell_shortest dc_Questions_tell_shortest pm_Questions_tell_shortest an_Questions_tell_shortest cd_Questions_tell_shortest ct_Questions_tell_shortest), sl_Questions_tell_shortest⟩)
    (c_Questions_tell_shortest : PySem.W.codeIn K cd_Questions_tell_shortest "Questions.tell_shortest" = true)
    (k_Questions_tell_shortest : PySem.W.keepIn K (.ref f_Questions_tell_shortest) = true)
    (a_Questions_swap : PySem.W.findIn K (.ref C_Questions) "swap" = some (some (.ref f_Questions_swap)))
    (i_Questions_swap : PySem.W.isFn K (.ref f_Questions_swap) = true)
    (l_Questions_swap : K.lookup f_Questions_swap = some ⟨oc_Questions_swap, od_Questions_swap, .func (PySem.W.fnOf "swap" "Questions.swap" (defArgs s_Questions_swap) (defBody s_Questions_swap) (defScope s_Questions_swap) .none kV_Questions_swap dc_Questions_swap pm_Questions_swap an_Questions_swap cd_Questions_swap ct_Questions_swap), sl_Questions_swap⟩)
    (c_Questions_swap : PySem.W.codeIn K cd_Questions_swap "Questions.swap" = true)
    (k_Questions_swap : PySem.W.keepIn K (.ref f_Questions_swap) = true)
    (a_is_letter : PySem.W.nsIn K mainGlobals "is_letter" = some (some (.ref f_is_letter)))
    (l_is_letter : K.lookup f_is_letter = some ⟨oc_is_letter, od_is_letter, .func (PySem.W.fnOf "is_letter" "is_letter" (defArgs s_is_letter) (defBody s_is_letter) (defScope s_is_letter) .none kV_is_letter dc_is_letter pm_is_letter an_is_letter cd_is_letter ct_is_letter), sl_is_letter⟩)
    (c_is_letter : PySem.W.codeIn K cd_is_letter "is_letter" = true)
    (k_is_letter : PySem.W.keepIn K (.ref f_is_letter) = true)
    (a_read_part : PySem.W.nsIn K mainGlobals "read_part" = some (some (.ref f_read_part)))
    (l_read_part : K.lookup f_read_part = some ⟨oc_read_part, od_read_part, .func (PySem.W.fnOf "read_part" "read_part" (defArgs s_read_part) (defBody s_read_part) (defScope s_read_part) .none kV_read_part dc_read_part pm_read_part an_read_part cd_read_part ct_read_part), sl_read_part⟩)
    (c_read_part : PySem.W.codeIn K cd_read_part "read_part" = true)
    (k_read_part : PySem.W.keepIn K (.ref f_read_part) = true)
    (a_read_parts : PySem.W.nsIn K mainGlobals "read_parts" = some (some (.ref f_read_parts)))
    (l_read_parts : K.lookup f_read_parts = some ⟨oc_read_parts, od_read_parts, .func (PySem.W.fnOf "read_parts" "read_parts" (defArgs s_read_parts) (defBody s_read_parts) (defScope s_read_parts) .none kV_read_parts dc_read_parts pm_read_parts an_read_parts cd_read_parts ct_read_parts), sl_read_parts⟩)
    (c_read_parts : PySem.W.codeIn K cd_read_parts "read_parts" = true)
    (k_read_parts : PySem.W.keepIn K (.ref f_read_parts) = true)
    (a_letters_in : PySem.W.nsIn K mainGlobals "letters_in" = some (some (.ref f_letters_in)))
    (l_letters_in : K.lookup f_letters_in = some ⟨oc_letters_in, od_letters_in, .func (PySem.W.fnOf "letters_in" "letters_in" (defArgs s_letters_in) (defBody s_letters_in) (defScope s_letters_in) .none kV_letters_in dc_letters_in pm_letters_in an_letters_in cd_letters_in ct_letters_in), sl_letters_in⟩)
    (c_letters_in : PySem.W.codeIn K cd_letters_in "letters_in" = true)
    (k_letters_in : PySem.W.keepIn K (.ref f_letters_in) = true)
    (a_read_allowed_parts : PySem.W.nsIn K mainGlobals "read_allowed_parts" = some (some (.ref f_read_allowed_parts)))
    (l_read_allowed_parts : K.lookup f_read_allowed_parts = some ⟨oc_read_allowed_parts, od_read_allowed_parts, .func (PySem.W.fnOf "read_allowed_parts" "read_allowed_parts" (defArgs s_read_allowed_parts) (defBody s_read_allowed_parts) (defScope s_read_allowed_parts) .none kV_read_allowed_parts dc_read_allowed_parts pm_read_allowed_parts an_read_allowed_parts cd_read_allowed_parts ct_read_allowed_parts), sl_read_allowed_parts⟩)
    (c_read_allowed_parts : PySem.W.codeIn K cd_read_allowed_parts "read_allowed_parts" = true)
    (k_read_allowed_parts : PySem.W.keepIn K (.ref f_read_allowed_parts) = true)
    (a_has_state : PySem.W.nsIn K mainGlobals "has_state" = some (some (.ref f_has_state)))
    (l_has_state : K.lookup f_has_state = some ⟨oc_has_state, od_has_state, .func (PySem.W.fnOf "has_state" "has_state" (defArgs s_has_state) (defBody s_has_state) (defScope s_has_state) .none kV_has_state dc_has_state pm_has_state an_has_state cd_has_state ct_has_state), sl_has_state⟩)
    (c_has_state : PySem.W.codeIn K cd_has_state "has_state" = true)
    (k_has_state : PySem.W.keepIn K (.ref f_has_state) = true)
    (a_reached_by : PySem.W.nsIn K mainGlobals "reached_by" = some (some (.ref f_reached_by)))
    (l_reached_by : K.lookup f_reached_by = some ⟨oc_reached_by, od_reached_by, .func (PySem.W.fnOf "reached_by" "reached_by" (defArgs s_reached_by) (defBody s_reached_by) (defScope s_reached_by) .none kV_reached_by dc_reached_by pm_reached_by an_reached_by cd_reached_by ct_reached_by), sl_reached_by⟩)
    (c_reached_by : PySem.W.codeIn K cd_reached_by "reached_by" = true)
    (k_reached_by : PySem.W.keepIn K (.ref f_reached_by) = true)
    (a_link : PySem.W.nsIn K mainGlobals "link" = some (some (.ref f_link)))
    (l_link : K.lookup f_link = some ⟨oc_link, od_link, .func (PySem.W.fnOf "link" "link" (defArgs s_link) (defBody s_link) (defScope s_link) .none kV_link dc_link pm_link an_link cd_link ct_link), sl_link⟩)
    (c_link : PySem.W.codeIn K cd_link "link" = true)
    (k_link : PySem.W.keepIn K (.ref f_link) = true)
    (a_piece_again : PySem.W.nsIn K mainGlobals "piece_again" = some (some (.ref f_piece_again)))
    (l_piece_again : K.lookup f_piece_again = some ⟨oc_piece_again, od_piece_again, .func (PySem.W.fnOf "piece_again" "piece_again" (defArgs s_piece_again) (defBody s_piece_again) (defScope s_piece_again) .none kV_piece_again dc_piece_again pm_piece_again an_piece_again cd_piece_again ct_piece_again), sl_piece_again⟩)
    (c_piece_again : PySem.W.codeIn K cd_piece_again "piece_again" = true)
    (k_piece_again : PySem.W.keepIn K (.ref f_piece_again) = true)
    (a_piece_in_order : PySem.W.nsIn K mainGlobals "piece_in_order" = some (some (.ref f_piece_in_order)))
    (l_piece_in_order : K.lookup f_piece_in_order = some ⟨oc_piece_in_order, od_piece_in_order, .func (PySem.W.fnOf "piece_in_order" "piece_in_order" (defArgs s_piece_in_order) (defBody s_piece_in_order) (defScope s_piece_in_order) .none kV_piece_in_order dc_piece_in_order pm_piece_in_order an_piece_in_order cd_piece_in_order ct_piece_in_order), sl_piece_in_order⟩)
    (c_piece_in_order : PySem.W.codeIn K cd_piece_in_order "piece_in_order" = true)
    (k_piece_in_order : PySem.W.keepIn K (.ref f_piece_in_order) = true)
    (a_piece_either : PySem.W.nsIn K mainGlobals "piece_either" = some (some (.ref f_piece_either)))
    (l_piece_either : K.lookup f_piece_either = some ⟨oc_piece_either, od_piece_either, .func (PySem.W.fnOf "piece_either" "piece_either" (defArgs s_piece_either) (defBody s_piece_either) (defScope s_piece_either) .none kV_piece_either dc_piece_either pm_piece_either an_piece_either cd_piece_either ct_piece_either), sl_piece_either⟩)
    (c_piece_either : PySem.W.codeIn K cd_piece_either "piece_either" = true)
    (k_piece_either : PySem.W.keepIn K (.ref f_piece_either) = true)
    (a_piece_of_two : PySem.W.nsIn K mainGlobals "piece_of_two" = some (some (.ref f_piece_of_two)))
    (l_piece_of_two : K.lookup f_piece_of_two = some ⟨oc_piece_of_two, od_piece_of_two, .func (PySem.W.fnOf "piece_of_two" "piece_of_two" (defArgs s_piece_of_two) (defBody s_piece_of_two) (defScope s_piece_of_two) .none kV_piece_of_two dc_piece_of_two pm_piece_of_two an_piece_of_two cd_piece_of_two ct_piece_of_two), sl_piece_of_two⟩)
    (c_piece_of_two : PySem.W.codeIn K cd_piece_of_two "piece_of_two" = true)
    (k_piece_of_two : PySem.W.keepIn K (.ref f_piece_of_two) = true)
    (a_whole_piece : PySem.W.nsIn K mainGlobals "whole_piece" = some (some (.ref f_whole_piece)))
    (l_whole_piece : K.lookup f_whole_piece = some ⟨oc_whole_piece, od_whole_piece, .func (PySem.W.fnOf "whole_piece" "whole_piece" (defArgs s_whole_piece) (defBody s_whole_piece) (defScope s_whole_piece) .none kV_whole_piece dc_whole_piece pm_whole_piece an_whole_piece cd_whole_piece ct_whole_piece), sl_whole_piece⟩)
    (c_whole_piece : PySem.W.codeIn K cd_whole_piece "whole_piece" = true)
    (k_whole_piece : PySem.W.keepIn K (.ref f_whole_piece) = true)
    (a_states_of_letter : PySem.W.nsIn K mainGlobals "states_of_letter" = some (some (.ref f_states_of_letter)))
    (l_states_of_letter : K.lookup f_states_of_letter = some ⟨oc_states_of_letter, od_states_of_letter, .func (PySem.W.fnOf "states_of_letter" "states_of_letter" (defArgs s_states_of_letter) (defBody s_states_of_letter) (defScope s_states_of_letter) .none kV_states_of_letter dc_states_of_letter pm_states_of_letter an_states_of_letter cd_states_of_letter ct_states_of_letter), sl_states_of_letter⟩)
    (c_states_of_letter : PySem.W.codeIn K cd_states_of_letter "states_of_letter" = true)
    (k_states_of_letter : PySem.W.keepIn K (.ref f_states_of_letter) = true)
    (a_moves_of : PySem.W.nsIn K mainGlobals "moves_of" = some (some (.ref f_moves_of)))
    (l_moves_of : K.lookup f_moves_of = some ⟨oc_moves_of, od_moves_of, .func (PySem.W.fnOf "moves_of" "moves_of" (defArgs s_moves_of) (defBody s_moves_of) (defScope s_moves_of) .none kV_moves_of dc_moves_of pm_moves_of an_moves_of cd_moves_of ct_moves_of), sl_moves_of⟩)
    (c_moves_of : PySem.W.codeIn K cd_moves_of "moves_of" = true)
    (k_moves_of : PySem.W.keepIn K (.ref f_moves_of) = true)
    (a_machine_of : PySem.W.nsIn K mainGlobals "machine_of" = some (some (.ref f_machine_of)))
    (l_machine_of : K.lookup f_machine_of = some ⟨oc_machine_of, od_machine_of, .func (PySem.W.fnOf "machine_of" "machine_of" (defArgs s_machine_of) (defBody s_machine_of) (defScope s_machine_of) .none kV_machine_of dc_machine_of pm_machine_of an_machine_of cd_machine_of ct_machine_of), sl_machine_of⟩)
    (c_machine_of : PySem.W.codeIn K cd_machine_of "machine_of" = true)
    (k_machine_of : PySem.W.keepIn K (.ref f_machine_of) = true)
    (a_view_of_no_letters : PySem.W.nsIn K mainGlobals "view_of_no_letters" = some (some (.ref f_view_of_no_letters)))
    (l_view_of_no_letters : K.lookup f_view_of_no_letters = some ⟨oc_view_of_no_letters, od_view_of_no_letters, .func (PySem.W.fnOf "view_of_no_letters" "view_of_no_letters" (defArgs s_view_of_no_letters) (defBody s_view_of_no_letters) (defScope s_view_of_no_letters) .none kV_view_of_no_letters dc_view_of_no_letters pm_view_of_no_letters an_view_of_no_letters cd_view_of_no_letters ct_view_of_no_letters), sl_view_of_no_letters⟩)
    (c_view_of_no_letters : PySem.W.codeIn K cd_view_of_no_letters "view_of_no_letters" = true)
    (k_view_of_no_letters : PySem.W.keepIn K (.ref f_view_of_no_letters) = true)
    (a_any_number_of_times : PySem.W.nsIn K mainGlobals "any_number_of_times" = some (some (.ref f_any_number_of_times)))
    (l_any_number_of_times : K.lookup f_any_number_of_times = some ⟨oc_any_number_of_times, od_any_number_of_times, .func (PySem.W.fnOf "any_number_of_times" "any_number_of_times" (defArgs s_any_number_of_times) (defBody s_any_number_of_times) (defScope s_any_number_of_times) .none kV_any_number_of_times dc_any_number_of_times pm_any_number_of_times an_any_number_of_times cd_any_number_of_times ct_any_number_of_times), sl_any_number_of_times⟩)
    (c_any_number_of_times : PySem.W.codeIn K cd_any_number_of_times "any_number_of_times" = true)
    (k_any_number_of_times : PySem.W.keepIn K (.ref f_any_number_of_times) = true)
    (a_view_one_letter_on : PySem.W.nsIn K mainGlobals "view_one_letter_on" = some (some (.ref f_view_one_letter_on)))
    (l_view_one_letter_on : K.lookup f_view_one_letter_on = some ⟨oc_view_one_letter_on, od_view_one_letter_on, .func (PySem.W.fnOf "view_one_letter_on" "view_one_letter_on" (defArgs s_view_one_letter_on) (defBody s_view_one_letter_on) (defScope s_view_one_letter_on) .none kV_view_one_letter_on dc_view_one_letter_on pm_view_one_letter_on an_view_one_letter_on cd_view_one_letter_on ct_view_one_letter_on), sl_view_one_letter_on⟩)
    (c_view_one_letter_on : PySem.W.codeIn K cd_view_one_letter_on "view_one_letter_on" = true)
    (k_view_one_letter_on : PySem.W.keepIn K (.ref f_view_one_letter_on) = true)
    (a_view_leads_along : PySem.W.nsIn K mainGlobals "view_leads_along" = some (some (.ref f_view_leads_along)))
    (l_view_leads_along : K.lookup f_view_leads_along = some ⟨oc_view_leads_along, od_view_leads_along, .func (PySem.W.fnOf "view_leads_along" "view_leads_along" (defArgs s_view_leads_along) (defBody s_view_leads_along) (defScope s_view_leads_along) .none kV_view_leads_along dc_view_leads_along pm_view_leads_along an_view_leads_along cd_view_leads_along ct_view_leads_along), sl_view_leads_along⟩)
    (c_view_leads_along : PySem.W.codeIn K cd_view_leads_along "view_leads_along" = true)
    (k_view_leads_along : PySem.W.keepIn K (.ref f_view_leads_along) = true)
    (a_line_that_shows_it : PySem.W.nsIn K mainGlobals "line_that_shows_it" = some (some (.ref f_line_that_shows_it)))
    (l_line_that_shows_it : K.lookup f_line_that_shows_it = some ⟨oc_line_that_shows_it, od_line_that_shows_it, .func (PySem.W.fnOf "line_that_shows_it" "line_that_shows_it" (defArgs s_line_that_shows_it) (defBody s_line_that_shows_it) (defScope s_line_that_shows_it) .none kV_line_that_shows_it dc_line_that_shows_it pm_line_that_shows_it an_line_that_shows_it cd_line_that_shows_it ct_line_that_shows_it), sl_line_that_shows_it⟩)
    (c_line_that_shows_it : PySem.W.codeIn K cd_line_that_shows_it "line_that_shows_it" = true)
    (k_line_that_shows_it : PySem.W.keepIn K (.ref f_line_that_shows_it) = true)
    (a_is_within : PySem.W.nsIn K mainGlobals "is_within" = some (some (.ref f_is_within)))
    (l_is_within : K.lookup f_is_within = some ⟨oc_is_within, od_is_within, .func (PySem.W.fnOf "is_within" "is_within" (defArgs s_is_within) (defBody s_is_within) (defScope s_is_within) .none kV_is_within dc_is_within pm_is_within an_is_within cd_is_within ct_is_within), sl_is_within⟩)
    (c_is_within : PySem.W.codeIn K cd_is_within "is_within" = true)
    (k_is_within : PySem.W.keepIn K (.ref f_is_within) = true)
    (a_read_line : PySem.W.nsIn K mainGlobals "read_line" = some (some (.ref f_read_line)))
    (l_read_line : K.lookup f_read_line = some ⟨oc_read_line, od_read_line, .func (PySem.W.fnOf "read_line" "read_line" (defArgs s_read_line) (defBody s_read_line) (defScope s_read_line) .none kV_read_line dc_read_line pm_read_line an_read_line cd_read_line ct_read_line), sl_read_line⟩)
    (c_read_line : PySem.W.codeIn K cd_read_line "read_line" = true)
    (k_read_line : PySem.W.keepIn K (.ref f_read_line) = true)
    (a_machine_that_leads_nowhere : PySem.W.nsIn K mainGlobals "machine_that_leads_nowhere" = some (some (.ref f_machine_that_leads_nowhere)))
    (l_machine_that_leads_nowhere : K.lookup f_machine_that_leads_nowhere = some ⟨oc_machine_that_leads_nowhere, od_machine_that_leads_nowhere, .func (PySem.W.fnOf "machine_that_leads_nowhere" "machine_that_leads_nowhere" (defArgs s_machine_that_leads_nowhere) (defBody s_machine_that_leads_nowhere) (defScope s_machine_that_leads_nowhere) .none kV_machine_that_leads_nowhere dc_machine_that_leads_nowhere pm_machine_that_leads_nowhere an_machine_that_leads_nowhere cd_machine_that_leads_nowhere ct_machine_that_leads_nowhere), sl_machine_that_leads_nowhere⟩)
    (c_machine_that_leads_nowhere : PySem.W.codeIn K cd_machine_that_leads_nowhere "machine_that_leads_nowhere" = true)
    (k_machine_that_leads_nowhere : PySem.W.keepIn K (.ref f_machine_that_leads_nowhere) = true)
    (a_leads_straight : PySem.W.nsIn K mainGlobals "leads_straight" = some (some (.ref f_leads_straight)))
    (l_leads_straight : K.lookup f_leads_straight = some ⟨oc_leads_straight, od_leads_straight, .func (PySem.W.fnOf "leads_straight" "leads_straight" (defArgs s_leads_straight) (defBody s_leads_straight) (defScope s_leads_straight) .none kV_leads_straight dc_leads_straight pm_leads_straight an_leads_straight cd_leads_straight ct_leads_straight), sl_leads_straight⟩)
    (c_leads_straight : PySem.W.codeIn K cd_leads_straight "leads_straight" = true)
    (k_leads_straight : PySem.W.keepIn K (.ref f_leads_straight) = true)
    (a_leads_along : PySem.W.nsIn K mainGlobals "leads_along" = some (some (.ref f_leads_along)))
    (l_leads_along : K.lookup f_leads_along = some ⟨oc_leads_along, od_leads_along, .func (PySem.W.fnOf "leads_along" "leads_along" (defArgs s_leads_along) (defBody s_leads_along) (defScope s_leads_along) .none kV_leads_along dc_leads_along pm_leads_along an_leads_along cd_leads_along ct_leads_along), sl_leads_along⟩)
    (c_leads_along : PySem.W.codeIn K cd_leads_along "leads_along" = true)
    (k_leads_along : PySem.W.keepIn K (.ref f_leads_along) = true)
    (a_shortest_line : PySem.W.nsIn K mainGlobals "shortest_line" = some (some (.ref f_shortest_line)))
    (l_shortest_line : K.lookup f_shortest_line = some ⟨oc_shortest_line, od_shortest_line, .func (PySem.W.fnOf "shortest_line" "shortest_line" (defArgs s_shortest_line) (defBody s_shortest_line) (defScope s_shortest_line) .none kV_shortest_line dc_shortest_line pm_shortest_line an_shortest_line cd_shortest_line ct_shortest_line), sl_shortest_line⟩)
    (c_shortest_line : PySem.W.codeIn K cd_shortest_line "shortest_line" = true)
    (k_shortest_line : PySem.W.keepIn K (.ref f_shortest_line) = true)
    (a_yes_or_no : PySem.W.nsIn K mainGlobals "yes_or_no" = some (some (.ref f_yes_or_no)))
    (l_yes_or_no : K.lookup f_yes_or_no = some ⟨oc_yes_or_no, od_yes_or_no, .func (PySem.W.fnOf "yes_or_no" "yes_or_no" (defArgs s_yes_or_no) (defBody s_yes_or_no) (defScope s_yes_or_no) .none kV_yes_or_no dc_yes_or_no pm_yes_or_no an_yes_or_no cd_yes_or_no ct_yes_or_no), sl_yes_or_no⟩)
    (c_yes_or_no : PySem.W.codeIn K cd_yes_or_no "yes_or_no" = true)
    (k_yes_or_no : PySem.W.keepIn K (.ref f_yes_or_no) = true)
    (a_answer : PySem.W.nsIn K mainGlobals "answer" = some (some (.ref f_answer)))
    (l_answer : K.lookup f_answer = some ⟨oc_answer, od_answer, .func (PySem.W.fnOf "answer" "answer" (defArgs s_answer) (defBody s_answer) (defScope s_answer) .none kV_answer dc_answer pm_answer an_answer cd_answer ct_answer), sl_answer⟩)
    (c_answer : PySem.W.codeIn K cd_answer "answer" = true)
    (k_answer : PySem.W.keepIn K (.ref f_answer) = true)
    (a_answer_or_refusal : PySem.W.nsIn K mainGlobals "answer_or_refusal" = some (some (.ref f_answer_or_refusal)))
    (l_answer_or_refusal : K.lookup f_answer_or_refusal = some ⟨oc_answer_or_refusal, od_answer_or_refusal, .func (PySem.W.fnOf "answer_or_refusal" "answer_or_refusal" (defArgs s_answer_or_refusal) (defBody s_answer_or_refusal) (defScope s_answer_or_refusal) .none kV_answer_or_refusal dc_answer_or_refusal pm_answer_or_refusal an_answer_or_refusal cd_answer_or_refusal ct_answer_or_refusal), sl_answer_or_refusal⟩)
    (c_answer_or_refusal : PySem.W.codeIn K cd_answer_or_refusal "answer_or_refusal" = true)
    (k_answer_or_refusal : PySem.W.keepIn K (.ref f_answer_or_refusal) = true)
    (a_answers : PySem.W.nsIn K mainGlobals "answers" = some (some (.ref f_answers)))
    (l_answers : K.lookup f_answers = some ⟨oc_answers, od_answers, .func (PySem.W.fnOf "answers" "answers" (defArgs s_answers) (defBody s_answers) (defScope s_answers) .none kV_answers dc_answers pm_answers an_answers cd_answers ct_answers), sl_answers⟩)
    (c_answers : PySem.W.codeIn K cd_answers "answers" = true)
    (k_answers : PySem.W.keepIn K (.ref f_answers) = true)
    (ne_MQ : C_Machine ≠ C_Questions)
    : ∃ fd : FuncData, (∀ (s : Shared) (us : List Value), us.length = (["calls"] : List Str).length → BindsTo s fd ⟨us, []⟩ ((["calls"] : List Str).zip us)) ∧ ∀ base : Heap, K.In base → base.Ns mainGlobals mg → FnOk P w K mg base CX0 21 fa fd ["calls"] (spAns K) := by
  have h_len := PySem.W.mg_none_of X G b_len
  have h_range := PySem.W.mg_none_of X G b_range
  have h_enumerate := PySem.W.mg_none_of X G b_enumerate
  have h_reversed := PySem.W.mg_none_of X G b_reversed
  have h_list := PySem.W.mg_none_of X G b_list
  have h_tuple := PySem.W.mg_none_of X G b_tuple
  have B : Blt mg := ⟨h_len, h_range, h_enumerate, h_reversed, h_list, h_tuple⟩
  have m_STAY := PySem.W.mg_of X G g_STAY
  have m_LETTER := PySem.W.mg_of X G g_LETTER
  have m_IN_ORDER := PySem.W.mg_of X G g_IN_ORDER
  have m_AGAIN := PySem.W.mg_of X G g_AGAIN
  have m_LOWEST_LETTER := PySem.W.mg_of X G g_LOWEST_LETTER
  have m_HIGHEST_LETTER := PySem.W.mg_of X G g_HIGHEST_LETTER
  have m_MOST_NUMBERS := PySem.W.mg_of X G g_MOST_NUMBERS
  have m_MOST_PARTS := PySem.W.mg_of X G g_MOST_PARTS
  have m_BEGINNING := PySem.W.mg_of X G g_BEGINNING
  have m_MOST_LETTERS_OF_FIRST := PySem.W.mg_of X G g_MOST_LETTERS_OF_FIRST
  have m_MOST_LETTERS_OF_SECOND := PySem.W.mg_of X G g_MOST_LETTERS_OF_SECOND
  have m_REFUSED_FORM := PySem.W.mg_of X G g_REFUSED_FORM
  have m_REFUSED_NO_LINE := PySem.W.mg_of X G g_REFUSED_NO_LINE
  have m_REFUSED_SIZE := PySem.W.mg_of X G g_REFUSED_SIZE
  have m_MOST_LETTERS_OF_LINE := PySem.W.mg_of X G g_MOST_LETTERS_OF_LINE
  have m_ONE := PySem.W.mg_of X G g_ONE
  have m_TWO := PySem.W.mg_of X G g_TWO
  have m_WITHIN := PySem.W.mg_of X G g_WITHIN
  have m_ALIKE := PySem.W.mg_of X G g_ALIKE
  have m_LEADS := PySem.W.mg_of X G g_LEADS
  have m_STRAIGHT := PySem.W.mg_of X G g_STRAIGHT
  have m_SHORTEST := PySem.W.mg_of X G g_SHORTEST
  have m_SWAP := PySem.W.mg_of X G g_SWAP
  have T_NotAsTold : ExcT K mg "NotAsTold" C_NotAsTold := ⟨PySem.W.mg_of X G g_NotAsTold, x_NotAsTold, k_NotAsTold, b_NotAsTold, t_NotAsTold⟩
  have T_TooLarge : ExcT K mg "TooLarge" C_TooLarge := ⟨PySem.W.mg_of X G g_TooLarge, x_TooLarge, k_TooLarge, b_TooLarge, t_TooLarge⟩
  have T_NoLine : ExcT K mg "NoLine" C_NoLine := ⟨PySem.W.mg_of X G g_NoLine, x_NoLine, k_NoLine, b_NoLine, t_NoLine⟩
  have T_NoSuchCall : ExcT K mg "NoSuchCall" C_NoSuchCall := ⟨PySem.W.mg_of X G g_NoSuchCall, x_NoSuchCall, k_NoSuchCall, b_NoSuchCall, t_NoSuchCall⟩
  have EX : ExmT K ⟨C_NotAsTold, C_TooLarge, C_NoLine⟩ := ⟨exm_of b_NotAsTold i_NotAsTold t_NotAsTold s_NotAsTold, exm_of b_NotAsTold i_NotAsTold t_NotAsTold s_TN, exm_of b_NoLine i_NoLine t_NoLine s_TL, exm_of b_TooLarge i_TooLarge t_TooLarge s_TooLarge⟩
  have CB : CbT K mg tc := ⟨PySem.W.mg_of X G g_CB, fun H => .inr ⟨_, _, _, l_CB, rfl, rfl, by show 5 ≤ sizeLine; decide, .cons ⟨_, rfl⟩ (.cons ⟨_, rfl⟩ (.cons ⟨_, rfl⟩ (.cons ⟨_, rfl⟩ (.cons ⟨_, rfl⟩ .nil))))⟩⟩
  have CR : CrT K mg tr := ⟨PySem.W.mg_of X G g_CR, fun H => .inr ⟨_, _, _, l_CR, rfl, rfl, by show 4 ≤ sizeLine; decide, .cons ⟨_, rfl⟩ (.cons ⟨_, rfl⟩ (.cons ⟨_, rfl⟩ (.cons ⟨_, rfl⟩ .nil)))⟩⟩
  have OD : OthT K mg od _ := ⟨PySem.W.mg_of X G g_OD, ⟨⟨_, l_OD⟩, oth_keys⟩, oth_get⟩
  have T_Piece : ClsT K mg "Piece" C_Piece ["may_stay", "begins", "ends"] := ⟨⟨pg_Piece, hd_Piece, po_Piece, sa_Piece⟩, fun f hf => by simp only [List.mem_cons, List.not_mem_nil, or_false] at hf; rcases hf with rfl | rfl | rfl; exact n_Piece_may_stay; exact n_Piece_begins; exact n_Piece_ends, PySem.W.mg_of X G g_Piece⟩
  have F_Piece_init := fun_mk (st := s_Piece_init) l_Piece_init c_Piece_init k_Piece_init
  have B_Piece_init := F_Piece_init.binds (ps := ["self", "may_stay", "begins", "ends"]) fun _ _ _ _ _ _ us hl => match us, hl with | [_, _, _, _], _ => rfl
  have T_Machine : ClsT K mg "Machine" C_Machine ["letter_count", "state_count", "moves", "final"] := ⟨⟨pg_Machine, hd_Machine, po_Machine, sa_Machine⟩, fun f hf => by simp only [List.mem_cons, List.not_mem_nil, or_false] at hf; rcases hf with rfl | rfl | rfl | rfl; exact n_Machine_letter_count; exact n_Machine_state_count; exact n_Machine_moves; exact n_Machine_final, PySem.W.mg_of X G g_Machine⟩
  have F_Machine_init := fun_mk (st := s_Machine_init) l_Machine_init c_Machine_init k_Machine_init
  have B_Machine_init := F_Machine_init.binds (ps := ["self", "letter_count", "moves", "final"]) fun _ _ _ _ _ _ us hl => match us, hl with | [_, _, _, _], _ => rfl
  have T_Stop : ClsT K mg "Stop" C_Stop ["states", "view", "letter", "before"] := ⟨⟨pg_Stop, hd_Stop, po_Stop, sa_Stop⟩, fun f hf => by simp only [List.mem_cons, List.not_mem_nil, or_false] at hf; rcases hf with rfl | rfl | rfl | rfl; exact n_Stop_states; exact n_Stop_view; exact n_Stop_letter; exact n_Stop_before, PySem.W.mg_of X G g_Stop⟩
  have F_Stop_init := fun_mk (st := s_Stop_init) l_Stop_init c_Stop_init k_Stop_init
  have B_Stop_init := F_Stop_init.binds (ps := ["self", "states", "view", "letter", "before"]) fun _ _ _ _ _ _ us hl => match us, hl with | [_, _, _, _, _], _ => rfl
  have T_Search : ClsT K mg "Search" C_Search ["first", "second", "stops", "states_seen", "views_on"] := ⟨⟨pg_Search, hd_Search, po_Search, sa_Search⟩, fun f hf => by simp only [List.mem_cons, List.not_mem_nil, or_false] at hf; rcases hf with rfl | rfl | rfl | rfl | rfl; exact n_Search_first; exact n_Search_second; exact n_Search_stops; exact n_Search_states_seen; exact n_Search_views_on, PySem.W.mg_of X G g_Search⟩
  have F_Search_init := fun_mk (st := s_Search_init) l_Search_init c_Search_init k_Search_init
  have B_Search_init := F_Search_init.binds (ps := ["self", "first", "second"]) fun _ _ _ _ _ _ us hl => match us, hl with | [_, _, _], _ => rfl
  have F_Search_view_on := fun_mk (st := s_Search_view_on) l_Search_view_on c_Search_view_on k_Search_view_on
  have B_Search_view_on := F_Search_view_on.binds (ps := ["self", "view", "letter"]) fun _ _ _ _ _ _ us hl => match us, hl with | [_, _, _], _ => rfl
  have F_Search_put_down := fun_mk (st := s_Search_put_down) l_Search_put_down c_Search_put_down k_Search_put_down
  have B_Search_put_down := F_Search_put_down.binds (ps := ["self", "states", "view", "letter", "before"]) fun _ _ _ _ _ _ us hl => match us, hl with | [_, _, _, _, _], _ => rfl
  have F_Search_go_on := fun_mk (st := s_Search_go_on) l_Search_go_on c_Search_go_on k_Search_go_on
  have B_Search_go_on := F_Search_go_on.binds (ps := ["self", "number"]) fun _ _ _ _ _ _ us hl => match us, hl with | [_, _], _ => rfl
  have F_Search_shows_it := fun_mk (st := s_Search_shows_it) l_Search_shows_it c_Search_shows_it k_Search_shows_it
  have B_Search_shows_it := F_Search_shows_it.binds (ps := ["self", "number"]) fun _ _ _ _ _ _ us hl => match us, hl with | [_, _], _ => rfl
  have F_Search_line_to := fun_mk (st := s_Search_line_to) l_Search_line_to c_Search_line_to k_Search_line_to
  have B_Search_line_to := F_Search_line_to.binds (ps := ["self", "number"]) fun _ _ _ _ _ _ us hl => match us, hl with | [_, _], _ => rfl
  have T_Questions : ClsT K mg "Questions" C_Questions ["first", "second"] := ⟨⟨pg_Questions, hd_Questions, po_Questions, sa_Questions⟩, fun f hf => by simp only [List.mem_cons, List.not_mem_nil, or_false] at hf; rcases hf with rfl | rfl; exact n_Questions_first; exact n_Questions_second, PySem.W.mg_of X G g_Questions⟩
  have F_Questions_init := fun_mk (st := s_Questions_init) l_Questions_init c_Questions_init k_Questions_init
  have B_Questions_init := F_Questions_init.binds (ps := ["self"]) fun _ _ _ _ _ _ us hl => match us, hl with | [_], _ => rfl
  have F_Questions_take_first := fun_mk (st := s_Questions_take_first) l_Questions_take_first c_Questions_take_first k_Questions_take_first
  have B_Questions_take_first := F_Questions_take_first.binds (ps := ["self", "code"]) fun _ _ _ _ _ _ us hl => match us, hl with | [_, _], _ => rfl
  have F_Questions_take_second := fun_mk (st := s_Questions_take_second) l_Questions_take_second c_Questions_take_second k_Questions_take_second
  have B_Questions_take_second := F_Questions_take_second.binds (ps := ["self", "code"]) fun _ _ _ _ _ _ us hl => match us, hl with | [_, _], _ => rfl
  have F_Questions_tell_within := fun_mk (st := s_Questions_tell_within) l_Questions_tell_within c_Questions_tell_within k_Questions_tell_within
  have B_Questions_tell_within := F_Questions_tell_within.binds (ps := ["self"]) fun _ _ _ _ _ _ us hl => match us, hl with | [_], _ => rfl
  have F_Questions_refuse_unless_first_could_be_second := fun_mk (st := s_Questions_refuse_unless_first_could_be_second) l_Questions_refuse_unless_first_could_be_second c_Questions_refuse_unless_first_could_be_second k_Questions_refuse_unless_first_could_be_second
  have B_Questions_refuse_unless_first_could_be_second := F_Questions_refuse_unless_first_could_be_second.binds (ps := ["self"]) fun _ _ _ _ _ _ us hl => match us, hl with | [_], _ => rfl
  have F_Questions_tell_alike := fun_mk (st := s_Questions_tell_alike) l_Questions_tell_alike c_Questions_tell_alike k_Questions_tell_alike
  have B_Questions_tell_alike := F_Questions_tell_alike.binds (ps := ["self"]) fun _ _ _ _ _ _ us hl => match us, hl with | [_], _ => rfl
  have F_Questions_tell_leads := fun_mk (st := s_Questions_tell_leads) l_Questions_tell_leads c_Questions_tell_leads k_Questions_tell_leads
  have B_Questions_tell_leads := F_Questions_tell_leads.binds (ps := ["self", "letters"]) fun _ _ _ _ _ _ us hl => match us, hl with | [_, _], _ => rfl
  have F_Questions_tell_straight := fun_mk (st := s_Questions_tell_straight) l_Questions_tell_straight c_Questions_tell_straight k_Questions_tell_straight
  have B_Questions_tell_straight := F_Questions_tell_straight.binds (ps := ["self", "letters"]) fun _ _ _ _ _ _ us hl => match us, hl with | [_, _], _ => rfl
  have F_Questions_tell_shortest := fun_mk (st := s_Questions_tell_shortest) l_Questions_tell_shortest c_Questions_tell_shortest k_Questions_tell_shortest
  have B_Questions_tell_shortest := F_Questions_tell_shortest.binds (ps := ["self"]) fun _ _ _ _ _ _ us hl => match us, hl with | [_], _ => rfl
  have F_Questions_swap := fun_mk (st := s_Questions_swap) l_Questions_swap c_Questions_swap k_Questions_swap
  have B_Questions_swap := F_Questions_swap.binds (ps := ["self"]) fun _ _ _ _ _ _ us hl => match us, hl with | [_], _ => rfl
  have F_is_letter := fun_mk (st := s_is_letter) l_is_letter c_is_letter k_is_letter
  have B_is_letter := F_is_letter.binds (ps := ["number"]) fun _ _ _ _ _ _ us hl => match us, hl with | [_], _ => rfl
  have g_is_letter := PySem.W.mg_of X G a_is_letter
  have F_read_part := fun_mk (st := s_read_part) l_read_part c_read_part k_read_part
  have B_read_part := F_read_part.binds (ps := ["code", "place"]) fun _ _ _ _ _ _ us hl => match us, hl with | [_, _], _ => rfl
  have g_read_part := PySem.W.mg_of X G a_read_part
  have F_read_parts := fun_mk (st := s_read_parts) l_read_parts c_read_parts k_read_parts
  have B_read_parts := F_read_parts.binds (ps := ["code"]) fun _ _ _ _ _ _ us hl => match us, hl with | [_], _ => rfl
  have g_read_parts := PySem.W.mg_of X G a_read_parts
  have F_letters_in := fun_mk (st := s_letters_in) l_letters_in c_letters_in k_letters_in
  have B_letters_in := F_letters_in.binds (ps := ["parts"]) fun _ _ _ _ _ _ us hl => match us, hl with | [_], _ => rfl
  have g_letters_in := PySem.W.mg_of X G a_letters_in
  have F_read_allowed_parts := fun_mk (st := s_read_allowed_parts) l_read_allowed_parts c_read_allowed_parts k_read_allowed_parts
  have B_read_allowed_parts := F_read_allowed_parts.binds (ps := ["code", "most_letters"]) fun _ _ _ _ _ _ us hl => match us, hl with | [_, _], _ => rfl
  have g_read_allowed_parts := PySem.W.mg_of X G a_read_allowed_parts
  have F_has_state := fun_mk (st := s_has_state) l_has_state c_has_state k_has_state
  have B_has_state := F_has_state.binds (ps := ["states", "state"]) fun _ _ _ _ _ _ us hl => match us, hl with | [_, _], _ => rfl
  have g_has_state := PySem.W.mg_of X G a_has_state
  have F_reached_by := fun_mk (st := s_reached_by) l_reached_by c_reached_by k_reached_by
  have B_reached_by := F_reached_by.binds (ps := ["rows", "states"]) fun _ _ _ _ _ _ us hl => match us, hl with | [_, _], _ => rfl
  have g_reached_by := PySem.W.mg_of X G a_reached_by
  have F_link := fun_mk (st := s_link) l_link c_link k_link
  have B_link := F_link.binds (ps := ["followers", "ends", "begins"]) fun _ _ _ _ _ _ us hl => match us, hl with | [_, _, _], _ => rfl
  have g_link := PySem.W.mg_of X G a_link
  have F_piece_again := fun_mk (st := s_piece_again) l_piece_again c_piece_again k_piece_again
  have B_piece_again := F_piece_again.binds (ps := ["piece", "followers"]) fun _ _ _ _ _ _ us hl => match us, hl with | [_, _], _ => rfl
  have g_piece_again := PySem.W.mg_of X G a_piece_again
  have F_piece_in_order := fun_mk (st := s_piece_in_order) l_piece_in_order c_piece_in_order k_piece_in_order
  have B_piece_in_order := F_piece_in_order.binds (ps := ["left", "right", "followers"]) fun _ _ _ _ _ _ us hl => match us, hl with | [_, _, _], _ => rfl
  have g_piece_in_order := PySem.W.mg_of X G a_piece_in_order
  have F_piece_either := fun_mk (st := s_piece_either) l_piece_either c_piece_either k_piece_either
  have B_piece_either := F_piece_either.binds (ps := ["left", "right"]) fun _ _ _ _ _ _ us hl => match us, hl with | [_, _], _ => rfl
  have g_piece_either := PySem.W.mg_of X G a_piece_either
  have F_piece_of_two := fun_mk (st := s_piece_of_two) l_piece_of_two c_piece_of_two k_piece_of_two
  have B_piece_of_two := F_piece_of_two.binds (ps := ["kind", "left", "right", "followers"]) fun _ _ _ _ _ _ us hl => match us, hl with | [_, _, _, _], _ => rfl
  have g_piece_of_two := PySem.W.mg_of X G a_piece_of_two
  have F_whole_piece := fun_mk (st := s_whole_piece) l_whole_piece c_whole_piece k_whole_piece
  have B_whole_piece := F_whole_piece.binds (ps := ["parts", "followers"]) fun _ _ _ _ _ _ us hl => match us, hl with | [_, _], _ => rfl
  have g_whole_piece := PySem.W.mg_of X G a_whole_piece
  have F_states_of_letter := fun_mk (st := s_states_of_letter) l_states_of_letter c_states_of_letter k_states_of_letter
  have B_states_of_letter := F_states_of_letter.binds (ps := ["letters", "letter"]) fun _ _ _ _ _ _ us hl => match us, hl with | [_, _], _ => rfl
  have g_states_of_letter := PySem.W.mg_of X G a_states_of_letter
  have F_moves_of := fun_mk (st := s_moves_of) l_moves_of c_moves_of k_moves_of
  have B_moves_of := F_moves_of.binds (ps := ["letters", "followers"]) fun _ _ _ _ _ _ us hl => match us, hl with | [_, _], _ => rfl
  have g_moves_of := PySem.W.mg_of X G a_moves_of
  have F_machine_of := fun_mk (st := s_machine_of) l_machine_of c_machine_of k_machine_of
  have B_machine_of := F_machine_of.binds (ps := ["parts"]) fun _ _ _ _ _ _ us hl => match us, hl with | [_], _ => rfl
  have g_machine_of := PySem.W.mg_of X G a_machine_of
  have F_view_of_no_letters := fun_mk (st := s_view_of_no_letters) l_view_of_no_letters c_view_of_no_letters k_view_of_no_letters
  have B_view_of_no_letters := F_view_of_no_letters.binds (ps := ["machine"]) fun _ _ _ _ _ _ us hl => match us, hl with | [_], _ => rfl
  have g_view_of_no_letters := PySem.W.mg_of X G a_view_of_no_letters
  have F_any_number_of_times := fun_mk (st := s_any_number_of_times) l_any_number_of_times c_any_number_of_times k_any_number_of_times
  have B_any_number_of_times := F_any_number_of_times.binds (ps := ["rows"]) fun _ _ _ _ _ _ us hl => match us, hl with | [_], _ => rfl
  have g_any_number_of_times := PySem.W.mg_of X G a_any_number_of_times
  have F_view_one_letter_on := fun_mk (st := s_view_one_letter_on) l_view_one_letter_on c_view_one_letter_on k_view_one_letter_on
  have B_view_one_letter_on := F_view_one_letter_on.binds (ps := ["machine", "view", "letter"]) fun _ _ _ _ _ _ us hl => match us, hl with | [_, _, _], _ => rfl
  have g_view_one_letter_on := PySem.W.mg_of X G a_view_one_letter_on
  have F_view_leads_along := fun_mk (st := s_view_leads_along) l_view_leads_along c_view_leads_along k_view_leads_along
  have B_view_leads_along := F_view_leads_along.binds (ps := ["machine", "view"]) fun _ _ _ _ _ _ us hl => match us, hl with | [_, _], _ => rfl
  have g_view_leads_along := PySem.W.mg_of X G a_view_leads_along
  have F_line_that_shows_it := fun_mk (st := s_line_that_shows_it) l_line_that_shows_it c_line_that_shows_it k_line_that_shows_it
  have B_line_that_shows_it := F_line_that_shows_it.binds (ps := ["first", "second"]) fun _ _ _ _ _ _ us hl => match us, hl with | [_, _], _ => rfl
  have g_line_that_shows_it := PySem.W.mg_of X G a_line_that_shows_it
  have F_is_within := fun_mk (st := s_is_within) l_is_within c_is_within k_is_within
  have B_is_within := F_is_within.binds (ps := ["first", "second"]) fun _ _ _ _ _ _ us hl => match us, hl with | [_, _], _ => rfl
  have g_is_within := PySem.W.mg_of X G a_is_within
  have F_read_line := fun_mk (st := s_read_line) l_read_line c_read_line k_read_line
  have B_read_line := F_read_line.binds (ps := ["letters"]) fun _ _ _ _ _ _ us hl => match us, hl with | [_], _ => rfl
  have g_read_line := PySem.W.mg_of X G a_read_line
  have F_machine_that_leads_nowhere := fun_mk (st := s_machine_that_leads_nowhere) l_machine_that_leads_nowhere c_machine_that_leads_nowhere k_machine_that_leads_nowhere
  have B_machine_that_leads_nowhere := F_machine_that_leads_nowhere.binds (ps := []) fun _ _ _ _ _ _ us hl => match us, hl with | [], _ => rfl
  have g_machine_that_leads_nowhere := PySem.W.mg_of X G a_machine_that_leads_nowhere
  have F_leads_straight := fun_mk (st := s_leads_straight) l_leads_straight c_leads_straight k_leads_straight
  have B_leads_straight := F_leads_straight.binds (ps := ["machine", "letters"]) fun _ _ _ _ _ _ us hl => match us, hl with | [_, _], _ => rfl
  have g_leads_straight := PySem.W.mg_of X G a_leads_straight
  have F_leads_along := fun_mk (st := s_leads_along) l_leads_along c_leads_along k_leads_along
  have B_leads_along := F_leads_along.binds (ps := ["machine", "letters"]) fun _ _ _ _ _ _ us hl => match us, hl with | [_, _], _ => rfl
  have g_leads_along := PySem.W.mg_of X G a_leads_along
  have F_shortest_line := fun_mk (st := s_shortest_line) l_shortest_line c_shortest_line k_shortest_line
  have B_shortest_line := F_shortest_line.binds (ps := ["machine"]) fun _ _ _ _ _ _ us hl => match us, hl with | [_], _ => rfl
  have g_shortest_line := PySem.W.mg_of X G a_shortest_line
  have F_yes_or_no := fun_mk (st := s_yes_or_no) l_yes_or_no c_yes_or_no k_yes_or_no
  have B_yes_or_no := F_yes_or_no.binds (ps := ["holds"]) fun _ _ _ _ _ _ us hl => match us, hl with | [_], _ => rfl
  have g_yes_or_no := PySem.W.mg_of X G a_yes_or_no
  have F_answer := fun_mk (st := s_answer) l_answer c_answer k_answer
  have B_answer := F_answer.binds (ps := ["questions", "number", "row"]) fun _ _ _ _ _ _ us hl => match us, hl with | [_, _, _], _ => rfl
  have g_answer := PySem.W.mg_of X G a_answer
  have F_answer_or_refusal := fun_mk (st := s_answer_or_refusal) l_answer_or_refusal c_answer_or_refusal k_answer_or_refusal
  have B_answer_or_refusal := F_answer_or_refusal.binds (ps := ["questions", "number", "row"]) fun _ _ _ _ _ _ us hl => match us, hl with | [_, _, _], _ => rfl
  have g_answer_or_refusal := PySem.W.mg_of X G a_answer_or_refusal
  have F_answers := fun_mk (st := s_answers) l_answers c_answers k_answers
  have B_answers := F_answers.binds (ps := ["calls"]) fun _ _ _ _ _ _ us hl => match us, hl with | [_], _ => rfl
  have g_answers := PySem.W.mg_of X G a_answers
  have e := hfa.symm.trans g_answers
  cases e
  refine ⟨PySem.W.fnOf "answers" "answers" (defArgs s_answers) (defBody s_answers) (defScope s_answers) .none kV_answers dc_answers pm_answers an_answers cd_answers ct_answers, fun s us hu => match us, hu with | [_], _ => .of_eq rfl, fun base _ _ => ?_⟩
  have D_has_state : HasM P w K mg base _ _ := ⟨ok_has F_has_state, g_has_state, k_has_state, B_has_state⟩
  have D_reached_by : ReachM P w K mg base _ _ := ⟨ok_reach F_reached_by B F_has_state g_has_state B_has_state, g_reached_by, k_reached_by, B_reached_by⟩
  have D_link : LinkM P w K mg base _ _ := ⟨ok_link F_link B F_has_state g_has_state B_has_state, g_link, k_link, B_link⟩
  have M_Piece : PieceM P w K mg base C_Piece _ _ := ⟨T_Piece, ⟨mk_Piece, a_Piece_init, i_Piece_init, kc_Piece⟩, ok_pieceInit F_Piece_init T_Piece, B_Piece_init⟩
  have D_piece_again : AgainM P w K mg base C_Piece _ _ := ⟨ok_again F_piece_again D_link M_Piece, g_piece_again, k_piece_again, B_piece_again⟩
  have D_piece_in_order : OrderM P w K mg base C_Piece _ _ := ⟨ok_order F_piece_in_order D_link M_Piece, g_piece_in_order, k_piece_in_order, B_piece_in_order⟩
  have D_piece_either : EitherM P w K mg base C_Piece _ _ := ⟨ok_either F_piece_either M_Piece, g_piece_either, k_piece_either, B_piece_either⟩
  have D_piece_of_two : TwoM P w K mg base C_Piece _ _ := ⟨ok_two F_piece_of_two D_piece_in_order D_piece_either m_IN_ORDER, g_piece_of_two, k_piece_of_two, B_piece_of_two⟩
  have D_whole_piece : WholeM P w K mg base C_Piece _ _ := ⟨ok_whole F_whole_piece B D_piece_again D_piece_of_two M_Piece m_STAY m_LETTER m_AGAIN, g_whole_piece, k_whole_piece, B_whole_piece⟩
  have D_letters_in : LettersM P w K mg base _ _ := ⟨ok_letters F_letters_in m_LETTER, g_letters_in, k_letters_in, B_letters_in⟩
  have D_states_of_letter : StatesM P w K mg base _ _ := ⟨ok_states F_states_of_letter B, g_states_of_letter, k_states_of_letter, B_states_of_letter⟩
  have D_moves_of : MovesM P w K mg base _ _ := ⟨ok_moves F_moves_of B D_states_of_letter m_LOWEST_LETTER m_HIGHEST_LETTER, g_moves_of, k_moves_of, B_moves_of⟩
  have M_Machine : MachM P w K mg base C_Machine _ _ := ⟨T_Machine, ⟨mk_Machine, a_Machine_init, i_Machine_init, kc_Machine⟩, ok_machInit F_Machine_init T_Machine, B_Machine_init⟩
  have D_machine_of : MachineM P w K mg base C_Machine _ _ := ⟨ok_machine F_machine_of B D_letters_in D_whole_piece D_moves_of M_Machine T_Piece m_BEGINNING, g_machine_of, k_machine_of, B_machine_of⟩
  have D_view_of_no_letters : View0M P w K mg base C_Machine _ _ := ⟨ok_view0 F_view_of_no_letters B T_Machine m_BEGINNING, g_view_of_no_letters, k_view_of_no_letters, B_view_of_no_letters⟩
  have D_any_number_of_times : AnyM P w K mg base _ _ := ⟨ok_any F_any_number_of_times B D_has_state, g_any_number_of_times, k_any_number_of_times, B_any_number_of_times⟩
  have D_view_one_letter_on : ViewOnM P w K mg base C_Machine _ _ := ⟨ok_viewOn F_view_one_letter_on B T_Machine OD D_reached_by D_any_number_of_times, g_view_one_letter_on, k_view_one_letter_on, B_view_one_letter_on⟩
  have D_view_leads_along : AlongM P w K mg base C_Machine _ _ := ⟨ok_along F_view_leads_along T_Machine, g_view_leads_along, k_view_leads_along, B_view_leads_along⟩
  have D_is_letter : IsLetterM P w K mg base _ _ := ⟨ok_isLetter F_is_letter m_LOWEST_LETTER m_HIGHEST_LETTER, g_is_letter, k_is_letter, B_is_letter⟩
  have D_read_part : ReadPartM P w K mg base C_NotAsTold _ _ := ⟨ok_readPart F_read_part B T_NotAsTold CB D_is_letter m_LETTER, g_read_part, k_read_part, B_read_part⟩
  have D_read_parts : ReadPartsM P w K mg base C_NotAsTold _ _ := ⟨ok_readParts F_read_parts B T_NotAsTold CB D_read_part m_LETTER m_MOST_NUMBERS, g_read_parts, k_read_parts, B_read_parts⟩
  have D_read_allowed_parts : AllowedM P w K mg base C_NotAsTold C_TooLarge _ _ := ⟨ok_allowed F_read_allowed_parts B T_TooLarge D_read_parts D_letters_in m_MOST_PARTS, g_read_allowed_parts, k_read_allowed_parts, B_read_allowed_parts⟩
  have M_Stop : StopM P w K mg base C_Stop _ _ := ⟨T_Stop, ⟨mk_Stop, a_Stop_init, i_Stop_init, kc_Stop⟩, ok_stopInit F_Stop_init T_Stop, B_Stop_init⟩
  have M_Search : SearchM P w K mg base C_Search _ _ := ⟨T_Search, ⟨mk_Search, a_Search_init, i_Search_init, kc_Search⟩, ok_searchInit F_Search_init T_Search, B_Search_init⟩
  generalize hcl : (⟨C_Machine, C_Stop, C_Search⟩ : Cl3) = Cl
  have e1 : Cl.CM = C_Machine := by rw [← hcl]
  have e2 : Cl.CS = C_Stop := by rw [← hcl]
  have e3 : Cl.CE = C_Search := by rw [← hcl]
  clear hcl
  subst e1 e2 e3
  have X_view_on : SViewM P w K mg base Cl _ _ := ⟨⟨a_Search_view_on, i_Search_view_on, k_Search_view_on⟩, ok_sview F_Search_view_on T_Search D_view_one_letter_on, B_Search_view_on⟩
  have X_put_down : PutM P w K mg base Cl _ _ := ⟨⟨a_Search_put_down, i_Search_put_down, k_Search_put_down⟩, ok_put F_Search_put_down T_Search M_Stop, B_Search_put_down⟩
  have X_go_on : GoM P w K mg base Cl _ _ := ⟨⟨a_Search_go_on, i_Search_go_on, k_Search_go_on⟩, ok_go F_Search_go_on B T_Search T_Stop T_Machine D_reached_by X_put_down X_view_on m_LOWEST_LETTER m_HIGHEST_LETTER, B_Search_go_on⟩
  have X_shows_it : ShowM P w K mg base Cl _ _ := ⟨⟨a_Search_shows_it, i_Search_shows_it, k_Search_shows_it⟩, ok_show F_Search_shows_it T_Search T_Stop T_Machine D_view_leads_along, B_Search_shows_it⟩
  have X_line_to : LineToM P w K mg base Cl _ _ := ⟨⟨a_Search_line_to, i_Search_line_to, k_Search_line_to⟩, ok_lineTo F_Search_line_to B T_Search T_Stop, B_Search_line_to⟩
  have D_line_that_shows_it : LineM P w K mg base Cl.CM _ _ := ⟨ok_line F_line_that_shows_it B M_Search X_put_down D_view_of_no_letters X_shows_it X_line_to X_go_on m_BEGINNING, g_line_that_shows_it, k_line_that_shows_it, B_line_that_shows_it⟩
  have D_is_within : WithinM P w K mg base Cl.CM _ _ := ⟨ok_within F_is_within D_line_that_shows_it, g_is_within, k_is_within, B_is_within⟩
  have M_Questions : QuM P w K mg base C_Questions Cl.CM _ _ := ⟨T_Questions, ⟨mk_Questions, a_Questions_init, i_Questions_init, kc_Questions⟩, ok_quInit F_Questions_init T_Questions ne_MQ D_machine_of m_STAY, B_Questions_init⟩
  have D_read_line : ReadLineM P w K mg base C_NotAsTold _ _ := ⟨ok_readLine F_read_line B T_NotAsTold D_is_letter m_MOST_LETTERS_OF_LINE, g_read_line, k_read_line, B_read_line⟩
  have D_machine_that_leads_nowhere : NowhereM P w K mg base Cl.CM _ _ := ⟨ok_nowhere F_machine_that_leads_nowhere D_moves_of M_Machine, g_machine_that_leads_nowhere, k_machine_that_leads_nowhere, B_machine_that_leads_nowhere⟩
  have D_leads_straight : StrM P w K mg base Cl.CM _ _ := ⟨ok_str F_leads_straight T_Machine D_reached_by m_BEGINNING, g_leads_straight, k_leads_straight, B_leads_straight⟩
  have D_leads_along : LaM P w K mg base Cl.CM _ _ := ⟨ok_la F_leads_along D_view_of_no_letters D_view_one_letter_on D_view_leads_along, g_leads_along, k_leads_along, B_leads_along⟩
  have D_shortest_line : ShortestM P w K mg base Cl.CM _ _ := ⟨ok_shortest F_shortest_line D_line_that_shows_it D_machine_that_leads_nowhere, g_shortest_line, k_shortest_line, B_shortest_line⟩
  have D_yes_or_no : YesM P w K mg base _ _ := ⟨ok_yes F_yes_or_no, g_yes_or_no, k_yes_or_no, B_yes_or_no⟩
  generalize hx : (⟨C_NotAsTold, C_TooLarge, C_NoLine⟩ : ECls) = X3 at EX
  have x1 : X3.CN = C_NotAsTold := by rw [← hx]
  have x2 : X3.CT = C_TooLarge := by rw [← hx]
  have x3 : X3.CL = C_NoLine := by rw [← hx]
  clear hx
  subst x1 x2 x3
  have X_refuse_unless_first_could_be_second : RefuseM P w K mg base C_Questions Cl.CM X3 _ _ := ⟨⟨a_Questions_refuse_unless_first_could_be_second, i_Questions_refuse_unless_first_could_be_second, k_Questions_refuse_unless_first_could_be_second⟩, ok_refuse F_Questions_refuse_unless_first_could_be_second T_Questions T_Machine T_TooLarge m_MOST_LETTERS_OF_SECOND, B_Questions_refuse_unless_first_could_be_second⟩
  have X_take_first : RowM P w K mg base C_Questions Cl.CM X3 7 "take_first" "code" .one _ _ := ⟨⟨a_Questions_take_first, i_Questions_take_first, k_Questions_take_first⟩, ok_take1 F_Questions_take_first T_Questions ne_MQ D_machine_of D_read_allowed_parts m_MOST_LETTERS_OF_FIRST, B_Questions_take_first⟩
  have X_take_second : RowM P w K mg base C_Questions Cl.CM X3 7 "take_second" "code" .two _ _ := ⟨⟨a_Questions_take_second, i_Questions_take_second, k_Questions_take_second⟩, ok_take2 F_Questions_take_second T_Questions ne_MQ D_machine_of D_read_allowed_parts m_MOST_LETTERS_OF_SECOND, B_Questions_take_second⟩
  have X_tell_within : BareM P w K mg base C_Questions Cl.CM X3 7 "tell_within" .within _ _ := ⟨⟨a_Questions_tell_within, i_Questions_tell_within, k_Questions_tell_within⟩, ok_tellW F_Questions_tell_within B T_Questions D_line_that_shows_it, B_Questions_tell_within⟩
  have X_tell_alike : BareM P w K mg base C_Questions Cl.CM X3 8 "tell_alike" .alike _ _ := ⟨⟨a_Questions_tell_alike, i_Questions_tell_alike, k_Questions_tell_alike⟩, ok_tellA F_Questions_tell_alike T_Questions X_refuse_unless_first_could_be_second D_is_within D_yes_or_no, B_Questions_tell_alike⟩
  have X_tell_leads : RowM P w K mg base C_Questions Cl.CM X3 5 "tell_leads" "letters" .leads _ _ := ⟨⟨a_Questions_tell_leads, i_Questions_tell_leads, k_Questions_tell_leads⟩, ok_tellL F_Questions_tell_leads T_Questions D_read_line D_leads_along D_yes_or_no, B_Questions_tell_leads⟩
  have X_tell_straight : RowM P w K mg base C_Questions Cl.CM X3 5 "tell_straight" "letters" .straight _ _ := ⟨⟨a_Questions_tell_straight, i_Questions_tell_straight, k_Questions_tell_straight⟩, ok_tellS F_Questions_tell_straight T_Questions D_read_line D_leads_straight D_yes_or_no, B_Questions_tell_straight⟩
  have X_tell_shortest : BareM P w K mg base C_Questions Cl.CM X3 8 "tell_shortest" .shortest _ _ := ⟨⟨a_Questions_tell_shortest, i_Questions_tell_shortest, k_Questions_tell_shortest⟩, ok_tellM F_Questions_tell_shortest B T_Questions T_NoLine D_shortest_line, B_Questions_tell_shortest⟩
  have X_swap : BareM P w K mg base C_Questions Cl.CM X3 2 "swap" .swap _ _ := ⟨⟨a_Questions_swap, i_Questions_swap, k_Questions_swap⟩, ok_swap F_Questions_swap T_Questions ne_MQ X_refuse_unless_first_could_be_second, B_Questions_swap⟩
  have NU : NumT mg := ⟨⟨_, m_ONE⟩, ⟨_, m_TWO⟩, ⟨_, m_WITHIN⟩, ⟨_, m_ALIKE⟩, ⟨_, m_LEADS⟩, ⟨_, m_STRAIGHT⟩, ⟨_, m_SHORTEST⟩, ⟨_, m_SWAP⟩⟩
  have D_answer : AnswerM P w K mg base C_Questions Cl.CM X3 9 _ _ := ⟨ok_answer F_answer T_Questions T_NoSuchCall NU X_take_first X_take_second X_tell_within X_tell_alike X_tell_leads X_tell_straight X_tell_shortest X_swap, g_answer, k_answer, B_answer⟩
  have D_ansor : AnsOrM P w K mg base C_Questions Cl.CM _ _ 10 := ⟨ok_ansOr F_answer_or_refusal T_NotAsTold T_NoLine T_TooLarge EX D_answer m_REFUSED_FORM m_REFUSED_NO_LINE m_REFUSED_SIZE, g_answer_or_refusal, k_answer_or_refusal, B_answer_or_refusal⟩
  exact ok_ans (by decide) F_answers B CR M_Questions D_ansor
end Wp

open PySem PySem.W PyProof.Rows
set_option maxRecDepth 100000 in
set_option maxHeartbeats 16000000 in
theorem PySem.Challenge.cw_withinany_s01_answers_holds : PySem.Challenge.rw_withinany_s01_answers.Holds := by
  w_on; k_headS; (case hw => exact ⟨[.list [.int 2]], by decide +kernel, by decide +kernel⟩)
  k_fillS
  refine L2.walk_specK (r := PySem.Challenge.rw_withinany_s01_answers) (k := 21) (CX := L2.CX0) (ps := ["calls"]) (sp := Wp.spAns) (by decide +kernel) rfl rfl ⟨rfl, by decide, by decide⟩ (fun w h Y => PySem.W.kIn_of Y) ?F ?S (fun _ _ _ _ z => z)
  case F =>
    intro w mg fa h Y KX G hmg
    refine' Wp.all_mk KX G hmg ?g_STAY ?g_LETTER ?g_IN_ORDER ?g_AGAIN ?g_LOWEST_LETTER ?g_HIGHEST_LETTER ?g_MOST_NUMBERS ?g_MOST_PARTS ?g_BEGINNING ?g_MOST_LETTERS_OF_FIRST ?g_MOST_LETTERS_OF_SECOND ?g_REFUSED_FORM ?g_REFUSED_NO_LINE ?g_REFUSED_SIZE ?g_MOST_LETTERS_OF_LINE ?g_ONE ?g_TWO ?g_WITHIN ?g_ALIKE ?g_LEADS ?g_STRAIGHT ?g_SHORTEST ?g_SWAP ?b_len ?b_range ?b_enumerate ?b_reversed ?b_list ?b_tuple ?g_CB ?l_CB ?g_OD ?l_OD ?g_CR ?l_CR ?g_NotAsTold ?x_NotAsTold ?k_NotAsTold ?b_NotAsTold ?t_NotAsTold ?i_NotAsTold ?s_NotAsTold ?g_TooLarge ?x_TooLarge ?k_TooLarge ?b_TooLarge ?t_TooLarge ?i_TooLarge ?s_TooLarge ?g_NoLine ?x_NoLine ?k_NoLine ?b_NoLine ?t_NoLine ?i_NoLine ?s_NoLine ?g_NoSuchCall ?x_NoSuchCall ?k_NoSuchCall ?b_NoSuchCall ?t_NoSuchCall ?i_NoSuchCall ?s_NoSuchCall ?s_TN ?s_TL ?g_Piece ?pg_Piece ?hd_Piece ?po_Piece ?sa_Piece ?mk_Piece ?kc_Piece ?n_Piece_may_stay ?n_Piece_begins ?n_Piece_ends ?a_Piece_init ?i_Piece_init ?l_Piece_init ?c_Piece_init ?k_Piece_init ?g_Machine ?pg_Machine ?hd_Machine ?po_Machine ?sa_Machine ?mk_Machine ?kc_Machine ?n_Machine_letter_count ?n_Machine_state_count ?n_Machine_moves ?n_Machine_final ?a_Machine_init ?i_Machine_init ?l_Machine_init ?c_Machine_init ?k_Machine_init ?g_Stop ?pg_Stop ?hd_Stop ?po_Stop ?sa_Stop ?mk_Stop ?kc_Stop ?n_Stop_states ?n_Stop_view ?n_Stop_letter ?n_Stop_before ?a_Stop_init ?i_Stop_init ?l_Stop_init ?c_Stop_init ?k_Stop_init ?g_Search ?pg_Search ?hd_Search ?po_Search ?sa_Search ?mk_Search ?kc_Search ?n_Search_first ?n_Search_second ?n_Search_stops ?n_Search_states_seen ?n_Search_views_on ?a_Search_init ?i_Search_init ?l_Search_init ?c_Search_init ?k_Search_init ?a_Search_view_on ?i_Search_view_on ?l_Search_view_on ?c_Search_view_on ?k_Search_view_on ?a_Search_put_down ?i_Search_put_down ?l_Search_put_down ?c_Search_put_down ?k_Search_put_down ?a_Search_go_on ?i_Search_go_on ?l_Search_go_on ?c_Search_go_on ?k_Search_go_on ?a_Search_shows_it ?i_Search_shows_it ?l_Search_shows_it ?c_Search_shows_it ?k_Search_shows_it ?a_Search_line_to ?i_Search_line_to ?l_Search_line_to ?c_Search_line_to ?k_Search_line_to ?g_Questions ?pg_Questions ?hd_Questions ?po_Questions ?sa_Questions ?mk_Questions ?kc_Questions ?n_Questions_first ?n_Questions_second ?a_Questions_init ?i_Questions_init ?l_Questions_init ?c_Questions_init ?k_Questions_init ?a_Questions_take_first ?i_Questions_take_first ?l_Questions_take_first ?c_Questions_take_first ?k_Questions_take_first ?a_Questions_take_second ?i_Questions_take_second ?l_Questions_take_second ?c_Questions_take_second ?k_Questions_take_second ?a_Questions_tell_within ?i_Questions_tell_within ?l_Questions_tell_within ?c_Questions_tell_within ?k_Questions_tell_within ?a_Questions_refuse_unless_first_could_be_second ?i_Questions_refuse_unless_first_could_be_second ?l_Questions_refuse_unless_first_could_be_second ?c_Questions_refuse_unless_first_could_be_second ?k_Questions_refuse_unless_first_could_be_second ?a_Questions_tell_alike ?i_Questions_tell_alike ?l_Questions_tell_alike ?c_Questions_tell_alike ?k_Questions_tell_alike ?a_Questions_tell_leads ?i_Questions_tell_leads ?l_Questions_tell_leads ?c_Questions_tell_leads ?k_Questions_tell_leads ?a_Questions_tell_straight ?i_Questions_tell_straight ?l_Questions_tell_straight ?c_Questions_tell_straight ?k_Questions_tell_straight ?a_Questions_tell_shortest ?i_Questions_tell_shortest ?l_Questions_tell_shortest ?c_Questions_tell_shortest ?k_Questions_tell_shortest ?a_Questions_swap ?i_Questions_swap ?l_Questions_swap ?c_Questions_swap ?k_Questions_swap ?a_is_letter ?l_is_letter ?c_is_letter ?k_is_letter ?a_read_part ?l_read_part ?c_read_part ?k_read_part ?a_read_parts ?l_read_parts ?c_read_parts ?k_read_parts ?a_letters_in ?l_letters_in ?c_letters_in ?k_letters_in ?a_read_allowed_parts ?l_read_allowed_parts ?c_read_allowed_parts ?k_read_allowed_parts ?a_has_state ?l_has_state ?c_has_state ?k_has_state ?a_reached_by ?l_reached_by ?c_reached_by ?k_reached_by ?a_link ?l_link ?c_link ?k_link ?a_piece_again ?l_piece_again ?c_piece_again ?k_piece_again ?a_piece_in_order ?l_piece_in_order ?c_piece_in_order ?k_piece_in_order ?a_piece_either ?l_piece_either ?c_piece_either ?k_piece_either ?a_piece_of_two ?l_piece_of_two ?c_piece_of_two ?k_piece_of_two ?a_whole_piece ?l_whole_piece ?c_whole_piece ?k_whole_piece ?a_states_of_letter ?l_states_of_letter ?c_states_of_letter ?k_states_of_letter ?a_moves_of ?l_moves_of ?c_moves_of ?k_moves_of ?a_machine_of ?l_machine_of ?c_machine_of ?k_machine_of ?a_view_of_no_letters ?l_view_of_no_letters ?c_view_of_no_letters ?k_view_of_no_letters ?a_any_number_of_times ?l_any_number_of_times ?c_any_number_of_times ?k_any_number_of_times ?a_view_one_letter_on ?l_view_one_letter_on ?c_view_one_letter_on ?k_view_one_letter_on ?a_view_leads_along ?l_view_leads_along ?c_view_leads_along ?k_view_leads_along ?a_line_that_shows_it ?l_line_that_shows_it ?c_line_that_shows_it ?k_line_that_shows_it ?a_is_within ?l_is_within ?c_is_within ?k_is_within ?a_read_line ?l_read_line ?c_read_line ?k_read_line ?a_machine_that_leads_nowhere ?l_machine_that_leads_nowhere ?c_machine_that_leads_nowhere ?k_machine_that_leads_nowhere ?a_leads_straight ?l_leads_straight ?c_leads_straight ?k_leads_straight ?a_leads_along ?l_leads_along ?c_leads_along ?k_leads_along ?a_shortest_line ?l_shortest_line ?c_shortest_line ?k_shortest_line ?a_yes_or_no ?l_yes_or_no ?c_yes_or_no ?k_yes_or_no ?a_answer ?l_answer ?c_answer ?k_answer ?a_answer_or_refusal ?l_answer_or_refusal ?c_answer_or_refusal ?k_answer_or_refusal ?a_answers ?l_answers ?c_answers ?k_answers ?ne_MQ
    (case g_STAY => (k_is))
    (case g_LETTER => (k_is))
    (case g_IN_ORDER => (k_is))
    (case g_AGAIN => (k_is))
    (case g_LOWEST_LETTER => (k_is))
    (case g_HIGHEST_LETTER => (k_is))
    (case g_MOST_NUMBERS => (k_is))
    (case g_MOST_PARTS => (k_is))
    (case g_BEGINNING => (k_is))
    (case g_MOST_LETTERS_OF_FIRST => (k_is))
    (case g_MOST_LETTERS_OF_SECOND => (k_is))
    (case g_REFUSED_FORM => (k_is))
    (case g_REFUSED_NO_LINE => (k_is))
    (case g_REFUSED_SIZE => (k_is))
    (case g_MOST_LETTERS_OF_LINE => (k_is))
    (case g_ONE => (k_is))
    (case g_TWO => (k_is))
    (case g_WITHIN => (k_is))
    (case g_ALIKE => (k_is))
    (case g_LEADS => (k_is))
    (case g_STRAIGHT => (k_is))
    (case g_SHORTEST => (k_is))
    (case g_SWAP => (k_is))
    (case b_len => (k_is))
    (case b_range => (k_is))
    (case b_enumerate => (k_is))
    (case b_reversed => (k_is))
    (case b_list => (k_is))
    (case b_tuple => (k_is))
    (case g_CB => (k_is))
    (case l_CB => (k_is))
    (case g_OD => (k_is))
    (case l_OD => (k_is))
    (case g_CR => (k_is))
    (case l_CR => (k_is))
    (case g_NotAsTold => (k_is))
    (case x_NotAsTold => (k_exc))
    (case k_NotAsTold => (k_is))
    (case b_NotAsTold => (k_is))
    (case t_NotAsTold => (k_is))
    (case i_NotAsTold => (k_is))
    (case s_NotAsTold => (first | rfl | k_is))
    (case g_TooLarge => (k_is))
    (case x_TooLarge => (k_exc))
    (case k_TooLarge => (k_is))
    (case b_TooLarge => (k_is))
    (case t_TooLarge => (k_is))
    (case i_TooLarge => (k_is))
    (case s_TooLarge => (first | rfl | k_is))
    (case g_NoLine => (k_is))
    (case x_NoLine => (k_exc))
    (case k_NoLine => (k_is))
    (case b_NoLine => (k_is))
    (case t_NoLine => (k_is))
    (case i_NoLine => (k_is))
    (case s_NoLine => (first | rfl | k_is))
    (case g_NoSuchCall => (k_is))
    (case x_NoSuchCall => (k_exc))
    (case k_NoSuchCall => (k_is))
    (case b_NoSuchCall => (k_is))
    (case t_NoSuchCall => (k_is))
    (case i_NoSuchCall => (k_is))
    (case s_NoSuchCall => (first | rfl | k_is))
    (case s_TN => (first | rfl | k_is))
    (case s_TL => (first | rfl | k_is))
    (case g_Piece => (k_is))
    (case pg_Piece => (k_is))
    (case hd_Piece => (k_is))
    (case po_Piece => (k_is))
    (case sa_Piece => (k_is))
    (case mk_Piece => (k_is))
    (case kc_Piece => (k_is))
    (case n_Piece_may_stay => (k_is))
    (case n_Piece_begins => (k_is))
    (case n_Piece_ends => (k_is))
    (case a_Piece_init => (k_is))
    (case i_Piece_init => (k_is))
    (case l_Piece_init => (k_is))
    (case c_Piece_init => (k_is))
    (case k_Piece_init => (k_is))
    (case g_Machine => (k_is))
    (case pg_Machine => (k_is))
    (case hd_Machine => (k_is))
    (case po_Machine => (k_is))
    (case sa_Machine => (k_is))
    (case mk_Machine => (k_is))
    (case kc_Machine => (k_is))
    (case n_Machine_letter_count => (k_is))
    (case n_Machine_state_count => (k_is))
    (case n_Machine_moves => (k_is))
    (case n_Machine_final => (k_is))
    (case a_Machine_init => (k_is))
    (case i_Machine_init => (k_is))
    (case l_Machine_init => (k_is))
    (case c_Machine_init => (k_is))
    (case k_Machine_init => (k_is))
    (case g_Stop => (k_is))
    (case pg_Stop => (k_is))
    (case hd_Stop => (k_is))
    (case po_Stop => (k_is))
    (case sa_Stop => (k_is))
    (case mk_Stop => (k_is))
    (case kc_Stop => (k_is))
    (case n_Stop_states => (k_is))
    (case n_Stop_view => (k_is))
    (case n_Stop_letter => (k_is))
    (case n_Stop_before => (k_is))
    (case a_Stop_init => (k_is))
    (case i_Stop_init => (k_is))
    (case l_Stop_init => (k_is))
    (case c_Stop_init => (k_is))
    (case k_Stop_init => (k_is))
    (case g_Search => (k_is))
    (case pg_Search => (k_is))
    (case hd_Search => (k_is))
    (case po_Search => (k_is))
    (case sa_Search => (k_is))
    (case mk_Search => (k_is))
    (case kc_Search => (k_is))
    (case n_Search_first => (k_is))
    (case n_Search_second => (k_is))
    (case n_Search_stops => (k_is))
    (case n_Search_states_seen => (k_is))
    (case n_Search_views_on => (k_is))
    (case a_Search_init => (k_is))
    (case i_Search_init => (k_is))
    (case l_Search_init => (k_is))
    (case c_Search_init => (k_is))
    (case k_Search_init => (k_is))
    (case a_Search_view_on => (k_is))
    (case i_Search_view_on => (k_is))
    (case l_Search_view_on => (k_is))
    (case c_Search_view_on => (k_is))
    (case k_Search_view_on => (k_is))
    (case a_Search_put_down => (k_is))
    (case i_Search_put_down => (k_is))
    (case l_Search_put_down => (k_is))
    (case c_Search_put_down => (k_is))
    (case k_Search_put_down => (k_is))
    (case a_Search_go_on => (k_is))
    (case i_Search_go_on => (k_is))
    (case l_Search_go_on => (k_is))
    (case c_Search_go_on => (k_is))
    (case k_Search_go_on => (k_is))
    (case a_Search_shows_it => (k_is))
    (case i_Search_shows_it => (k_is))
    (case l_Search_shows_it => (k_is))
    (case c_Search_shows_it => (k_is))
    (case k_Search_shows_it => (k_is))
    (case a_Search_line_to => (k_is))
    (case i_Search_line_to => (k_is))
    (case l_Search_line_to => (k_is))
    (case c_Search_line_to => (k_is))
    (case k_Search_line_to => (k_is))
    (case g_Questions => (k_is))
    (case pg_Questions => (k_is))
    (case hd_Questions => (k_is))
    (case po_Questions => (k_is))
    (case sa_Questions => (k_is))
    (case mk_Questions => (k_is))
    (case kc_Questions => (k_is))
    (case n_Questions_first => (k_is))
    (case n_Questions_second => (k_is))
    (case a_Questions_init => (k_is))
    (case i_Questions_init => (k_is))
    (case l_Questions_init => (k_is))
    (case c_Questions_init => (k_is))
    (case k_Questions_init => (k_is))
    (case a_Questions_take_first => (k_is))
    (case i_Questions_take_first => (k_is))
    (case l_Questions_take_first => (k_is))
    (case c_Questions_take_first => (k_is))
    (case k_Questions_take_first => (k_is))
    (case a_Questions_take_second => (k_is))
    (case i_Questions_take_second => (k_is))
    (case l_Questions_take_second => (k_is))
    (case c_Questions_take_second => (k_is))
    (case k_Questions_take_second => (k_is))
    (case a_Questions_tell_within => (k_is))
    (case i_Questions_tell_within => (k_is))
    (case l_Questions_tell_within => (k_is))
    (case c_Questions_tell_within => (k_is))
    (case k_Questions_tell_within => (k_is))
    (case a_Questions_refuse_unless_first_could_be_second => (k_is))
    (case i_Questions_refuse_unless_first_could_be_second => (k_is))
    (case l_Questions_refuse_unless_first_could_be_second => (k_is))
    (case c_Questions_refuse_unless_first_could_be_second => (k_is))
    (case k_Questions_refuse_unless_first_could_be_second => (k_is))
    (case a_Questions_tell_alike => (k_is))
    (case i_Questions_tell_alike => (k_is))
    (case l_Questions_tell_alike => (k_is))
    (case c_Questions_tell_alike => (k_is))
    (case k_Questions_tell_alike => (k_is))
    (case a_Questions_tell_leads => (k_is))
    (case i_Questions_tell_leads => (k_is))
    (case l_Questions_tell_leads => (k_is))
    (case c_Questions_tell_leads => (k_is))
    (case k_Questions_tell_leads => (k_is))
    (case a_Questions_tell_straight => (k_is))
    (case i_Questions_tell_straight => (k_is))
    (case l_Questions_tell_straight => (k_is))
    (case c_Questions_tell_straight => (k_is))
    (case k_Questions_tell_straight => (k_is))
    (case a_Questions_tell_shortest => (k_is))
    (case i_Questions_tell_shortest => (k_is))
    (case l_Questions_tell_shortest => (k_is))
    (case c_Questions_tell_shortest => (k_is))
    (case k_Questions_tell_shortest => (k_is))
    (case a_Questions_swap => (k_is))
    (case i_Questions_swap => (k_is))
    (case l_Questions_swap => (k_is))
    (case c_Questions_swap => (k_is))
    (case k_Questions_swap => (k_is))
    (case a_is_letter => (k_is))
    (case l_is_letter => (k_is))
    (case c_is_letter => (k_is))
    (case k_is_letter => (k_is))
    (case a_read_part => (k_is))
    (case l_read_part => (k_is))
    (case c_read_part => (k_is))
    (case k_read_part => (k_is))
    (case a_read_parts => (k_is))
    (case l_read_parts => (k_is))
    (case c_read_parts => (k_is))
    (case k_read_parts => (k_is))
    (case a_letters_in => (k_is))
    (case l_letters_in => (k_is))
    (case c_letters_in => (k_is))
    (case k_letters_in => (k_is))
    (case a_read_allowed_parts => (k_is))
    (case l_read_allowed_parts => (k_is))
    (case c_read_allowed_parts => (k_is))
    (case k_read_allowed_parts => (k_is))
    (case a_has_state => (k_is))
    (case l_has_state => (k_is))
    (case c_has_state => (k_is))
    (case k_has_state => (k_is))
    (case a_reached_by => (k_is))
    (case l_reached_by => (k_is))
    (case c_reached_by => (k_is))
    (case k_reached_by => (k_is))
    (case a_link => (k_is))
    (case l_link => (k_is))
    (case c_link => (k_is))
    (case k_link => (k_is))
    (case a_piece_again => (k_is))
    (case l_piece_again => (k_is))
    (case c_piece_again => (k_is))
    (case k_piece_again => (k_is))
    (case a_piece_in_order => (k_is))
    (case l_piece_in_order => (k_is))
    (case c_piece_in_order => (k_is))
    (case k_piece_in_order => (k_is))
    (case a_piece_either => (k_is))
    (case l_piece_either => (k_is))
    (case c_piece_either => (k_is))
    (case k_piece_either => (k_is))
    (case a_piece_of_two => (k_is))
    (case l_piece_of_two => (k_is))
    (case c_piece_of_two => (k_is))
    (case k_piece_of_two => (k_is))
    (case a_whole_piece => (k_is))
    (case l_whole_piece => (k_is))
    (case c_whole_piece => (k_is))
    (case k_whole_piece => (k_is))
    (case a_states_of_letter => (k_is))
    (case l_states_of_letter => (k_is))
    (case c_states_of_letter => (k_is))
    (case k_states_of_letter => (k_is))
    (case a_moves_of => (k_is))
    (case l_moves_of => (k_is))
    (case c_moves_of => (k_is))
    (case k_moves_of => (k_is))
    (case a_machine_of => (k_is))
    (case l_machine_of => (k_is))
    (case c_machine_of => (k_is))
    (case k_machine_of => (k_is))
    (case a_view_of_no_letters => (k_is))
    (case l_view_of_no_letters => (k_is))
    (case c_view_of_no_letters => (k_is))
    (case k_view_of_no_letters => (k_is))
    (case a_any_number_of_times => (k_is))
    (case l_any_number_of_times => (k_is))
    (case c_any_number_of_times => (k_is))
    (case k_any_number_of_times => (k_is))
    (case a_view_one_letter_on => (k_is))
    (case l_view_one_letter_on => (k_is))
    (case c_view_one_letter_on => (k_is))
    (case k_view_one_letter_on => (k_is))
    (case a_view_leads_along => (k_is))
    (case l_view_leads_along => (k_is))
    (case c_view_leads_along => (k_is))
    (case k_view_leads_along => (k_is))
    (case a_line_that_shows_it => (k_is))
    (case l_line_that_shows_it => (k_is))
    (case c_line_that_shows_it => (k_is))
    (case k_line_that_shows_it => (k_is))
    (case a_is_within => (k_is))
    (case l_is_within => (k_is))
    (case c_is_within => (k_is))
    (case k_is_within => (k_is))
    (case a_read_line => (k_is))
    (case l_read_line => (k_is))
    (case c_read_line => (k_is))
    (case k_read_line => (k_is))
    (case a_machine_that_leads_nowhere => (k_is))
    (case l_machine_that_leads_nowhere => (k_is))
    (case c_machine_that_leads_nowhere => (k_is))
    (case k_machine_that_leads_nowhere => (k_is))
    (case a_leads_straight => (k_is))
    (case l_leads_straight => (k_is))
    (case c_leads_straight => (k_is))
    (case k_leads_straight => (k_is))
    (case a_leads_along => (k_is))
    (case l_leads_along => (k_is))
    (case c_leads_along => (k_is))
    (case k_leads_along => (k_is))
    (case a_shortest_line => (k_is))
    (case l_shortest_line => (k_is))
    (case c_shortest_line => (k_is))
    (case k_shortest_line => (k_is))
    (case a_yes_or_no => (k_is))
    (case l_yes_or_no => (k_is))
    (case c_yes_or_no => (k_is))
    (case k_yes_or_no => (k_is))
    (case a_answer => (k_is))
    (case l_answer => (k_is))
    (case c_answer => (k_is))
    (case k_answer => (k_is))
    (case a_answer_or_refusal => (k_is))
    (case l_answer_or_refusal => (k_is))
    (case c_answer_or_refusal => (k_is))
    (case k_answer_or_refusal => (k_is))
    (case a_answers => (k_is))
    (case l_answers => (k_is))
    (case c_answers => (k_is))
    (case k_answers => (k_is))
    (case ne_MQ => (decide))
  case S =>
    intro K H xs a hO hwi hask hx
    cases hx with
    | cons h1 h2 =>
      cases h2
      cases h1 with
      | lst hs ha =>
        have e := L2.ints_dw a.1 _ ha
        subst e
        have q : ((Codec.inLen 0 5000 a.1 && a.1.all (Codec.inInt 0 4294967295)) && true) = true := hwi
        rw [Bool.and_eq_true, Bool.and_eq_true] at q
        obtain ⟨raw, hraw⟩ := Wa.asked_of hask
        exact ⟨_, a.1, raw, rfl, hs, hraw, (Codec.inNat_iff.mp q.1.1).2, fun H' p hp => .lst (L2.SqL.of hp) (L2.dw_ints _)⟩

