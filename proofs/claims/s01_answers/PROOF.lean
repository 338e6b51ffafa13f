import PyProof.Rows.All
import Wide.All
import OpenK.AllK
import Wide.FinOn
import Open.SpecLaws
import KE.OsGo
import PyWideLaws
import HandS.ForSpec
import HandS.Comp
import HandS.Iter
import HandS.Conv
import HandS.Deep
import HandS.TupAny
import HandS.Evl
import HandS.Flow
import HandS.Walk
import HandS.Rev
import HandS.Text
import HandS.Nested
import HandS.EndTab
import HandS.SetFor
import PyProof.AutoSeq1
import HandS.Spec
import KE.KNestM
import PySem.Challenge.RW_believedkinds_s01_answers
set_option Elab.async false
set_option linter.all false
set_option maxRecDepth 100000
set_option maxHeartbeats 8000000
namespace Bk
open Oc (C)
/-! ### concepts as rows of numbers -/
def enc : C → List Nat
  | .top => [0]
  | .bot => [1]
  | .name a => [2, a]
  | .and c d => 3 :: (enc c ++ enc d)
  | .or c d => 4 :: (enc c ++ enc d)
  | .not c => 5 :: enc c
  | .some r c => 6 :: r :: enc c
  | .all r c => 7 :: r :: enc c
def Ok : C → Prop
  | .top => True
  | .bot => True
  | .name a => a < 4
  | .and c d => Ok c ∧ Ok d
  | .or c d => Ok c ∧ Ok d
  | .not c => Ok c
  | .some r c => r < 2 ∧ Ok c
  | .all r c => r < 2 ∧ Ok c
def parts (h : Nat) : Nat := if h = 3 ∨ h = 4 then 2 else if h = 5 ∨ h = 6 ∨ h = 7 then 1 else 0
def choices (h : Nat) : Nat := if h = 2 then 4 else if h = 6 ∨ h = 7 then 2 else 0
/-- how many numbers ahead of the parts; 0: no concept begins so -/
def hw : List Nat → Nat
  | [] => 0
  | h :: r => if 8 ≤ h then 0 else if choices h = 0 then 1 else match r with
    | [] => 0
    | x :: _ => if x < choices h then 2 else 0
theorem hw_le (l : List Nat) : hw l ≤ l.length := by
  match l with
  | [] => exact Nat.le_refl 0
  | [h] =>
    show (if 8 ≤ h then 0 else if choices h = 0 then 1 else 0) ≤ 1
    split
    · omega
    · split <;> omega
  | h :: x :: r =>
    show (if 8 ≤ h then 0 else if choices h = 0 then 1 else if x < choices h then 2 else 0) ≤ r.length + 1 + 1
    split
    · omega
    · split
      · omega
      · split <;> omega
theorem enc_pos (c : C) : 0 < (enc c).length := by cases c <;> simp [enc]
/-- behind so many concepts -/
def go : Nat → List Nat → Option (List Nat)
  | 0, l => some l
  | k + 1, l => if h : hw l = 0 then none else go (k + parts (l.headD 0)) (l.drop (hw l))
termination_by _ l => l.length
decreasing_by
  have := hw_le l
  rw [List.length_drop]
  omega
theorem go_zero (l : List Nat) : go 0 l = some l := by rw [go]
theorem go_no {k : Nat} {l : List Nat} (h : hw l = 0) : go (k + 1) l = none := by rw [go, dif_pos h]
theorem go_yes {k : Nat} {l : List Nat} (h : hw l ≠ 0) : go (k + 1) l = go (k + parts (l.headD 0)) (l.drop (hw l)) := by rw [go, dif_neg h]
theorem go_enc : ∀ (c : C), Ok c → ∀ (k : Nat) (r : List Nat), go (k + 1) (enc c ++ r) = go k r
  | .top, _, k, r => by
    rw [go_yes (by simp [enc, hw, choices])]
    simp [enc, hw, choices, parts]
  | .bot, _, k, r => by
    rw [go_yes (by simp [enc, hw, choices])]
    simp [enc, hw, choices, parts]
  | .name a, h, k, r => by
    have h' : a < 4 := h
    rw [go_yes (by simp [enc, hw, choices, h'])]
    simp [enc, hw, choices, parts, h']
  | .and c d, h, k, r => by
    rw [go_yes (by simp [enc, hw, choices])]
    have e1 := go_enc c h.1 (k + 1) (enc d ++ r)
    have e2 := go_enc d h.2 k r
    simp [enc, hw, choices, parts]
    rw [e1, e2]
  | .or c d, h, k, r => by
    rw [go_yes (by simp [enc, hw, choices])]
    have e1 := go_enc c h.1 (k + 1) (enc d ++ r)
    have e2 := go_enc d h.2 k r
    simp [enc, hw, choices, parts]
    rw [e1, e2]
  | .not c, h, k, r => by
    rw [go_yes (by simp [enc, hw, choices])]
    have e1 := go_enc c h k r
    simp [enc, hw, choices, parts]
    rw [e1]
  | .some s c, h, k, r => by
    have h' : s < 2 := h.1
    rw [go_yes (by simp [enc, hw, choices, h'])]
    have e1 := go_enc c h.2 k r
    simp [enc, hw, choices, parts, h']
    rw [e1]
  | .all s c, h, k, r => by
    have h' : s < 2 := h.1
    rw [go_yes (by simp [enc, hw, choices, h'])]
    have e1 := go_enc c h.2 k r
    simp [enc, hw, choices, parts, h']
    rw [e1]
/-- what is gone behind is concepts -/
theorem of_go : ∀ (n : Nat) (l : List Nat), l.length ≤ n → ∀ (k : Nat) (r : List Nat), go (k + 1) l = some r → ∃ c r', Ok c ∧ l = enc c ++ r' ∧ go k r' = some r := by
  intro n
  induction n with
  | zero =>
    intro l hl k r h
    have e : l = [] := List.length_eq_zero_iff.mp (by omega)
    subst e
    rw [go_no (by simp [hw])] at h
    cases h
  | succ n ih =>
    intro l hl k r h
    by_cases hz : hw l = 0
    · rw [go_no hz] at h
      cases h
    rw [go_yes hz] at h
    match l, hz, h, hl with
    | [], hz, _, _ => exact absurd rfl hz
    | a :: t, hz, h, hl =>
      have ht : t.length ≤ n := by simpa using hl
      have ha : a < 8 := by
        by_cases q : 8 ≤ a
        · exact absurd (by simp [hw, q]) hz
        · omega
      have hdt : ∀ m, (t.drop m).length ≤ n := fun m => by rw [List.length_drop]; omega
      match a, ha with
      | 0, _ =>
        simp [hw, choices, parts] at h
        exact ⟨.top, t, trivial, rfl, h⟩
      | 1, _ =>
        simp [hw, choices, parts] at h
        exact ⟨.bot, t, trivial, rfl, h⟩
      | 2, _ =>
        match t, hz, h with
        | [], hz, _ => exact absurd (by simp [hw, choices]) hz
        | x :: u, hz, h =>
          by_cases q : x < 4
          · simp [hw, choices, parts, q] at h
            exact ⟨.name x, u, q, rfl, h⟩
          · exact absurd (by simp [hw, choices, q]) hz
      | 3, _ =>
        simp [hw, choices, parts] at h
        obtain ⟨c, r1, oc, e1, h1⟩ := ih t ht (k + 1) r h
        obtain ⟨d, r2, od, e2, h2⟩ := ih r1 (by rw [e1, List.length_append] at ht; omega) k r h1
        exact ⟨.and c d, r2, ⟨oc, od⟩, by simp [enc, e1, e2], h2⟩
      | 4, _ =>
        simp [hw, choices, parts] at h
        obtain ⟨c, r1, oc, e1, h1⟩ := ih t ht (k + 1) r h
        obtain ⟨d, r2, od, e2, h2⟩ := ih r1 (by rw [e1, List.length_append] at ht; omega) k r h1
        exact ⟨.or c d, r2, ⟨oc, od⟩, by simp [enc, e1, e2], h2⟩
      | 5, _ =>
        simp [hw, choices, parts] at h
        obtain ⟨c, r1, oc, e1, h1⟩ := ih t ht k r h
        exact ⟨.not c, r1, oc, by simp [enc, e1], h1⟩
      | 6, _ =>
        match t, hz, h, ht with
        | [], hz, _, _ => exact absurd (by simp [hw, choices]) hz
        | x :: u, hz, h, ht =>
          by_cases q : x < 2
          · simp [hw, choices, parts, q] at h
            obtain ⟨c, r1, oc, e1, h1⟩ := ih u (by simp at ht; omega) k r h
            exact ⟨.some x c, r1, ⟨q, oc⟩, by simp [enc, e1], h1⟩
          · exact absurd (by simp [hw, choices, q]) hz
      | 7, _ =>
        match t, hz, h, ht with
        | [], hz, _, _ => exact absurd (by simp [hw, choices]) hz
        | x :: u, hz, h, ht =>
          by_cases q : x < 2
          · simp [hw, choices, parts, q] at h
            obtain ⟨c, r1, oc, e1, h1⟩ := ih u (by simp at ht; omega) k r h
            exact ⟨.all x c, r1, ⟨q, oc⟩, by simp [enc, e1], h1⟩
          · exact absurd (by simp [hw, choices, q]) hz
/-! ### the specification's reading -/
theorem read_enc : ∀ (c : C), Ok c → ∀ (n : Nat) (r : List Nat), (enc c).length ≤ n → Oc.read n (enc c ++ r) = some (c, r)
  | c, _, 0, r, h => absurd h (by have := enc_pos c; omega)
  | .top, _, n + 1, r, _ => rfl
  | .bot, _, n + 1, r, _ => rfl
  | .name a, h, n + 1, r, _ => by
    have h' : a < Oc.NAMES := h
    show (if a < Oc.NAMES then some (C.name a, r) else none) = _
    rw [if_pos h']
  | .and c d, h, n + 1, r, hl => by
    have hl' : (enc c).length + (enc d).length ≤ n := by simp [enc] at hl; omega
    have e1 := read_enc c h.1 n (enc d ++ r) (by omega)
    have e2 := read_enc d h.2 n r (by omega)
    simp only [enc, List.cons_append, List.append_assoc, Oc.read, e1, e2, Option.map_some]
  | .or c d, h, n + 1, r, hl => by
    have hl' : (enc c).length + (enc d).length ≤ n := by simp [enc] at hl; omega
    have e1 := read_enc c h.1 n (enc d ++ r) (by omega)
    have e2 := read_enc d h.2 n r (by omega)
    simp only [enc, List.cons_append, List.append_assoc, Oc.read, e1, e2, Option.map_some]
  | .not c, h, n + 1, r, hl => by
    have hl' : (enc c).length ≤ n := by simp [enc] at hl; omega
    have e1 := read_enc c h n r (by omega)
    simp only [enc, List.cons_append, Oc.read, e1, Option.map_some]
  | .some s c, h, n + 1, r, hl => by
    have hl' : (enc c).length ≤ n := by simp [enc] at hl; omega
    have e1 := read_enc c h.2 n r (by omega)
    have h' : s < Oc.ROLES := h.1
    simp only [enc, List.cons_append, Oc.read, e1, Option.map_some, if_pos h']
  | .all s c, h, n + 1, r, hl => by
    have hl' : (enc c).length ≤ n := by simp [enc] at hl; omega
    have e1 := read_enc c h.2 n r (by omega)
    have h' : s < Oc.ROLES := h.1
    simp only [enc, List.cons_append, Oc.read, e1, Option.map_some, if_pos h']
theorem of_read : ∀ (n : Nat) (l : List Nat) (c : C) (r : List Nat), Oc.read n l = some (c, r) → Ok c ∧ l = enc c ++ r
  | 0, _, _, _, h => by simp [Oc.read] at h
  | n + 1, l, c, r, h => by
    unfold Oc.read at h
    split at h
    · cases h; exact ⟨trivial, rfl⟩
    · cases h; exact ⟨trivial, rfl⟩
    · split at h
      · rename_i q
        cases h; exact ⟨q, rfl⟩
      · cases h
    · split at h
      · cases h
      · rename_i x e
        obtain ⟨y, e2, e3⟩ := Option.map_eq_some_iff.mp h
        cases e3
        obtain ⟨o1, l1⟩ := of_read n _ _ _ e
        obtain ⟨o2, l2⟩ := of_read n _ _ _ e2
        exact ⟨⟨o1, o2⟩, by simp [enc, l1, l2]⟩
    · split at h
      · cases h
      · rename_i x e
        obtain ⟨y, e2, e3⟩ := Option.map_eq_some_iff.mp h
        cases e3
        obtain ⟨o1, l1⟩ := of_read n _ _ _ e
        obtain ⟨o2, l2⟩ := of_read n _ _ _ e2
        exact ⟨⟨o1, o2⟩, by simp [enc, l1, l2]⟩
    · obtain ⟨y, e2, e3⟩ := Option.map_eq_some_iff.mp h
      cases e3
      obtain ⟨o2, l2⟩ := of_read n _ _ _ e2
      exact ⟨o2, by simp [enc, l2]⟩
    · split at h
      · rename_i q
        obtain ⟨y, e2, e3⟩ := Option.map_eq_some_iff.mp h
        cases e3
        obtain ⟨o2, l2⟩ := of_read n _ _ _ e2
        exact ⟨⟨q, o2⟩, by simp [enc, l2]⟩
      · cases h
    · split at h
      · rename_i q
        obtain ⟨y, e2, e3⟩ := Option.map_eq_some_iff.mp h
        cases e3
        obtain ⟨o2, l2⟩ := of_read n _ _ _ e2
        exact ⟨⟨q, o2⟩, by simp [enc, l2]⟩
      · cases h
    · cases h
theorem enc_cancel {c d : C} (hc : Ok c) (hd : Ok d) {r s : List Nat} (h : enc c ++ r = enc d ++ s) : c = d ∧ r = s := by
  have e1 := read_enc c hc ((enc c).length + (enc d).length) r (by omega)
  have e2 := read_enc d hd ((enc c).length + (enc d).length) s (by omega)
  rw [h, e2] at e1
  cases e1
  exact ⟨rfl, rfl⟩
theorem enc_inj {c d : C} (hc : Ok c) (hd : Ok d) (h : enc c = enc d) : c = d := (enc_cancel hc hd (r := []) (s := []) (by rw [List.append_nil, List.append_nil, h])).1
theorem concept_enc {c : C} (h : Ok c) : Oc.concept (enc c) = some c := by
  have e := read_enc c h ((enc c).length + 1) [] (by omega)
  rw [List.append_nil] at e
  unfold Oc.concept
  rw [e]
theorem of_concept {l : List Nat} {c : C} (h : Oc.concept l = some c) : Ok c ∧ l = enc c := by
  unfold Oc.concept at h
  split at h
  · rename_i c' e
    cases h
    have q := of_read _ _ _ _ e
    rw [List.append_nil] at q
    exact q
  · cases h
theorem two_enc {c d : C} (h : Ok c) (h' : Ok d) : Oc.two (enc c ++ enc d) = some (c, d) := by
  have e := read_enc c h ((enc c ++ enc d).length + 1) (enc d) (by rw [List.length_append]; omega)
  unfold Oc.two
  rw [e]
  show (Oc.concept (enc d)).map _ = _
  rw [concept_enc h']
  rfl
theorem of_two {l : List Nat} {a : C × C} (h : Oc.two l = some a) : Ok a.1 ∧ Ok a.2 ∧ l = enc a.1 ++ enc a.2 := by
  unfold Oc.two at h
  split at h
  · rename_i c r e
    obtain ⟨d, e2, e3⟩ := Option.map_eq_some_iff.mp h
    cases e3
    obtain ⟨o1, l1⟩ := of_read _ _ _ _ e
    obtain ⟨o2, l2⟩ := of_concept e2
    exact ⟨o1, o2, by rw [l1, l2]⟩
  · cases h
/-- so many concepts, just these -/
def just : Nat → List Nat → Option (List C)
  | 0, l => if l = [] then some [] else none
  | k + 1, l => match Oc.read (l.length + 1) l with
    | none => none
    | some (c, r) => (just k r).map fun cs => c :: cs
theorem just_one (l : List Nat) : just 1 l = (Oc.concept l).map fun c => [c] := by
  unfold just Oc.concept
  cases h : Oc.read (l.length + 1) l with
  | none => rfl
  | some x =>
    obtain ⟨c, r⟩ := x
    cases r with
    | nil => rfl
    | cons a t => rfl
theorem just_two (l : List Nat) : just 2 l = (Oc.two l).map fun a => [a.1, a.2] := by
  unfold just Oc.two
  cases h : Oc.read (l.length + 1) l with
  | none => rfl
  | some x =>
    obtain ⟨c, r⟩ := x
    show (just 1 r).map _ = ((Oc.concept r).map _).map _
    rw [just_one]
    cases Oc.concept r <;> rfl
end Bk

namespace Bk
open Oc (C Axiom)
/-! ### the concepts within one, itself first -/
def subs : C → List C
  | .top => [.top]
  | .bot => [.bot]
  | .name a => [.name a]
  | .and c d => .and c d :: (subs c ++ subs d)
  | .or c d => .or c d :: (subs c ++ subs d)
  | .not c => .not c :: subs c
  | .some r c => .some r c :: subs c
  | .all r c => .all r c :: subs c
def subsAt : Nat → C → List (Nat × C)
  | p, .top => [(p, .top)]
  | p, .bot => [(p, .bot)]
  | p, .name a => [(p, .name a)]
  | p, .and c d => (p, .and c d) :: (subsAt (p + 1) c ++ subsAt (p + 1 + (enc c).length) d)
  | p, .or c d => (p, .or c d) :: (subsAt (p + 1) c ++ subsAt (p + 1 + (enc c).length) d)
  | p, .not c => (p, .not c) :: subsAt (p + 1) c
  | p, .some r c => (p, .some r c) :: subsAt (p + 2) c
  | p, .all r c => (p, .all r c) :: subsAt (p + 2) c
theorem subsAt_snd : ∀ (c : C) (p : Nat), (subsAt p c).map (·.2) = subs c
  | .top, _ => rfl
  | .bot, _ => rfl
  | .name a, _ => rfl
  | .and c d, p => by simp [subsAt, subs, subsAt_snd c, subsAt_snd d]
  | .or c d, p => by simp [subsAt, subs, subsAt_snd c, subsAt_snd d]
  | .not c, p => by simp [subsAt, subs, subsAt_snd c]
  | .some r c, p => by simp [subsAt, subs, subsAt_snd c]
  | .all r c, p => by simp [subsAt, subs, subsAt_snd c]
theorem subsAt_place : ∀ (c : C) (p : Nat) (l post : List Nat), Ok c → l.drop p = enc c ++ post → ∀ q d, (q, d) ∈ subsAt p c → Ok d ∧ (∃ post', l.drop q = enc d ++ post') ∧ p ≤ q ∧ q + (enc d).length ≤ p + (enc c).length
  | .top, p, l, post, o, h, q, d, hm => by
    simp [subsAt] at hm
    obtain ⟨rfl, rfl⟩ := hm
    exact ⟨o, ⟨_, h⟩, Nat.le_refl _, Nat.le_refl _⟩
  | .bot, p, l, post, o, h, q, d, hm => by
    simp [subsAt] at hm
    obtain ⟨rfl, rfl⟩ := hm
    exact ⟨o, ⟨_, h⟩, Nat.le_refl _, Nat.le_refl _⟩
  | .name a, p, l, post, o, h, q, d, hm => by
    simp [subsAt] at hm
    obtain ⟨rfl, rfl⟩ := hm
    exact ⟨o, ⟨_, h⟩, Nat.le_refl _, Nat.le_refl _⟩
  | .and c e, p, l, post, o, h, q, d, hm => by
    have h1 : l.drop (p + 1) = enc c ++ (enc e ++ post) := by
      rw [← List.drop_drop, h]; simp [enc]
    have h2 : l.drop (p + 1 + (enc c).length) = enc e ++ post := by
      rw [← List.drop_drop, h1]; simp
    have hn : (enc (.and c e)).length = 1 + (enc c).length + (enc e).length := by simp [enc]; omega
    rcases List.mem_cons.mp hm with hm | hm
    · cases hm
      exact ⟨o, ⟨_, h⟩, Nat.le_refl _, Nat.le_refl _⟩
    · rcases List.mem_append.mp hm with hm | hm
      · obtain ⟨a, b, x, y⟩ := subsAt_place c (p + 1) l _ o.1 h1 q d hm
        exact ⟨a, b, by omega, by omega⟩
      · obtain ⟨a, b, x, y⟩ := subsAt_place e _ l _ o.2 h2 q d hm
        exact ⟨a, b, by omega, by omega⟩
  | .or c e, p, l, post, o, h, q, d, hm => by
    have h1 : l.drop (p + 1) = enc c ++ (enc e ++ post) := by
      rw [← List.drop_drop, h]; simp [enc]
    have h2 : l.drop (p + 1 + (enc c).length) = enc e ++ post := by
      rw [← List.drop_drop, h1]; simp
    have hn : (enc (.or c e)).length = 1 + (enc c).length + (enc e).length := by simp [enc]; omega
    rcases List.mem_cons.mp hm with hm | hm
    · cases hm
      exact ⟨o, ⟨_, h⟩, Nat.le_refl _, Nat.le_refl _⟩
    · rcases List.mem_append.mp hm with hm | hm
      · obtain ⟨a, b, x, y⟩ := subsAt_place c (p + 1) l _ o.1 h1 q d hm
        exact ⟨a, b, by omega, by omega⟩
      · obtain ⟨a, b, x, y⟩ := subsAt_place e _ l _ o.2 h2 q d hm
        exact ⟨a, b, by omega, by omega⟩
  | .not c, p, l, post, o, h, q, d, hm => by
    have h1 : l.drop (p + 1) = enc c ++ post := by
      rw [← List.drop_drop, h]; simp [enc]
    have hn : (enc (.not c)).length = 1 + (enc c).length := by simp [enc]; omega
    rcases List.mem_cons.mp hm with hm | hm
    · cases hm
      exact ⟨o, ⟨_, h⟩, Nat.le_refl _, Nat.le_refl _⟩
    · obtain ⟨a, b, x, y⟩ := subsAt_place c (p + 1) l _ o h1 q d hm
      exact ⟨a, b, by omega, by omega⟩
  | .some r c, p, l, post, o, h, q, d, hm => by
    have h1 : l.drop (p + 2) = enc c ++ post := by
      rw [← List.drop_drop, h]; simp [enc]
    have hn : (enc (.some r c)).length = 2 + (enc c).length := by simp [enc]; omega
    rcases List.mem_cons.mp hm with hm | hm
    · cases hm
      exact ⟨o, ⟨_, h⟩, Nat.le_refl _, Nat.le_refl _⟩
    · obtain ⟨a, b, x, y⟩ := subsAt_place c (p + 2) l _ o.2 h1 q d hm
      exact ⟨a, b, by omega, by omega⟩
  | .all r c, p, l, post, o, h, q, d, hm => by
    have h1 : l.drop (p + 2) = enc c ++ post := by
      rw [← List.drop_drop, h]; simp [enc]
    have hn : (enc (.all r c)).length = 2 + (enc c).length := by simp [enc]; omega
    rcases List.mem_cons.mp hm with hm | hm
    · cases hm
      exact ⟨o, ⟨_, h⟩, Nat.le_refl _, Nat.le_refl _⟩
    · obtain ⟨a, b, x, y⟩ := subsAt_place c (p + 2) l _ o.2 h1 q d hm
      exact ⟨a, b, by omega, by omega⟩
/-- where each concept begins, to the row's end -/
def heads : Nat → List Nat → List Nat
  | p, l => if h : hw l = 0 then [] else p :: heads (p + hw l) (l.drop (hw l))
termination_by _ l => l.length
decreasing_by
  have := hw_le l
  rw [List.length_drop]
  omega
theorem heads_yes {p : Nat} {l : List Nat} (h : hw l ≠ 0) : heads p l = p :: heads (p + hw l) (l.drop (hw l)) := by
  rw [heads, dif_neg h]
theorem heads_nil {p : Nat} : heads p [] = [] := by
  rw [heads, dif_pos (show hw [] = 0 from rfl)]
theorem heads_enc : ∀ (c : C), Ok c → ∀ (p : Nat) (r : List Nat), heads p (enc c ++ r) = (subsAt p c).map (·.1) ++ heads (p + (enc c).length) r
  | .top, _, p, r => by
    rw [heads_yes (by simp [enc, hw, choices])]
    simp [enc, hw, choices, subsAt]
  | .bot, _, p, r => by
    rw [heads_yes (by simp [enc, hw, choices])]
    simp [enc, hw, choices, subsAt]
  | .name a, h, p, r => by
    have h' : a < 4 := h
    rw [heads_yes (by simp [enc, hw, choices, h'])]
    simp [enc, hw, choices, subsAt, h']
  | .and c d, h, p, r => by
    rw [heads_yes (by simp [enc, hw, choices])]
    have e1 := heads_enc c h.1 (p + 1) (enc d ++ r)
    have e2 := heads_enc d h.2 (p + 1 + (enc c).length) r
    simp [enc, hw, choices, subsAt]
    rw [e1, e2, show p + 1 + (enc c).length + (enc d).length = p + ((enc c).length + (enc d).length + 1) by omega]
  | .or c d, h, p, r => by
    rw [heads_yes (by simp [enc, hw, choices])]
    have e1 := heads_enc c h.1 (p + 1) (enc d ++ r)
    have e2 := heads_enc d h.2 (p + 1 + (enc c).length) r
    simp [enc, hw, choices, subsAt]
    rw [e1, e2, show p + 1 + (enc c).length + (enc d).length = p + ((enc c).length + (enc d).length + 1) by omega]
  | .not c, h, p, r => by
    rw [heads_yes (by simp [enc, hw, choices])]
    have e1 := heads_enc c h (p + 1) r
    simp [enc, hw, choices, subsAt]
    rw [e1, show p + 1 + (enc c).length = p + ((enc c).length + 1) by omega]
  | .some s c, h, p, r => by
    have h' : s < 2 := h.1
    rw [heads_yes (by simp [enc, hw, choices, h'])]
    have e1 := heads_enc c h.2 (p + 2) r
    simp [enc, hw, choices, subsAt, h']
    rw [e1, show p + 2 + (enc c).length = p + ((enc c).length + 1 + 1) by omega]
  | .all s c, h, p, r => by
    have h' : s < 2 := h.1
    rw [heads_yes (by simp [enc, hw, choices, h'])]
    have e1 := heads_enc c h.2 (p + 2) r
    simp [enc, hw, choices, subsAt, h']
    rw [e1, show p + 2 + (enc c).length = p + ((enc c).length + 1 + 1) by omega]
theorem heads_all {c : C} (h : Ok c) : heads 0 (enc c) = (subsAt 0 c).map (·.1) := by
  have e := heads_enc c h 0 []
  rw [List.append_nil, heads_nil, List.append_nil] at e
  exact e
/-! ### atoms -/
def isAt : C → Bool
  | .name _ => true
  | .some _ _ => true
  | .all _ _ => true
  | _ => false
theorem atoms_subs : ∀ c : C, c.atoms = (subs c).filter isAt
  | .top => rfl
  | .bot => rfl
  | .name a => rfl
  | .and c d => by simp [C.atoms, subs, isAt, atoms_subs c, atoms_subs d]
  | .or c d => by simp [C.atoms, subs, isAt, atoms_subs c, atoms_subs d]
  | .not c => by simp [C.atoms, subs, isAt, atoms_subs c]
  | .some r c => by
    show C.some r c :: c.atoms = (C.some r c :: subs c).filter isAt
    rw [List.filter_cons_of_pos rfl, atoms_subs c]
  | .all r c => by
    show C.all r c :: c.atoms = (C.all r c :: subs c).filter isAt
    rw [List.filter_cons_of_pos rfl, atoms_subs c]
theorem head_isAt (c : C) : isAt c = decide ((enc c).headD 0 = 2 ∨ (enc c).headD 0 = 6 ∨ (enc c).headD 0 = 7) := by cases c <;> simp [isAt, enc]
def add (m : List C) (c : C) : List C := if m.contains c = true then m else m ++ [c]
theorem distinct_eq (l : List C) : Oc.distinct l = l.foldl add [] := rfl
theorem mem_foldl_add : ∀ (l m : List C) (x : C), x ∈ l.foldl add m ↔ x ∈ m ∨ x ∈ l
  | [], m, x => by simp
  | c :: l, m, x => by
    rw [List.foldl_cons, mem_foldl_add l]
    unfold add
    by_cases h : m.contains c = true
    · rw [if_pos h]
      have hc : c ∈ m := by simpa using h
      constructor
      · rintro (a | a)
        · exact .inl a
        · exact .inr (List.mem_cons_of_mem _ a)
      · rintro (a | a)
        · exact .inl a
        · rcases List.mem_cons.mp a with rfl | a
          · exact .inl hc
          · exact .inr a
    · rw [if_neg h]
      simp [or_assoc]
theorem nodup_foldl_add : ∀ (l m : List C), m.Nodup → (l.foldl add m).Nodup
  | [], m, h => h
  | c :: l, m, h => by
    rw [List.foldl_cons]
    apply nodup_foldl_add l
    unfold add
    by_cases hc : m.contains c = true
    · rw [if_pos hc]; exact h
    · rw [if_neg hc]
      have hn : c ∉ m := by simpa using hc
      rw [List.nodup_append]
      refine ⟨h, by simp, ?_⟩
      intro a ha b hb
      have : b = c := by simpa using hb
      subst this
      intro e
      subst e
      exact hn ha
theorem mem_atomsOf {l : List C} {x : C} : x ∈ Oc.atomsOf l ↔ ∃ c ∈ l, x ∈ c.atoms := by
  show x ∈ (l.flatMap C.atoms).foldl add [] ↔ _
  rw [mem_foldl_add]
  simp
theorem nodup_atomsOf (l : List C) : (Oc.atomsOf l).Nodup := nodup_foldl_add _ _ List.nodup_nil
/-- what an atom's inside is -/
def inner : C → C
  | .some _ c => c
  | .all _ c => c
  | c => c
theorem subs_self (c : C) : c ∈ subs c := by cases c <;> simp [subs]
theorem subs_trans : ∀ (c d e : C), d ∈ subs c → e ∈ subs d → e ∈ subs c
  | .top, d, e, h1, h2 => by simp [subs] at h1; subst h1; exact h2
  | .bot, d, e, h1, h2 => by simp [subs] at h1; subst h1; exact h2
  | .name a, d, e, h1, h2 => by simp [subs] at h1; subst h1; exact h2
  | .and a b, d, e, h1, h2 => by
    simp [subs] at h1 ⊢
    rcases h1 with rfl | h1 | h1
    · simpa [subs] using h2
    · exact .inr (.inl (subs_trans a d e h1 h2))
    · exact .inr (.inr (subs_trans b d e h1 h2))
  | .or a b, d, e, h1, h2 => by
    simp [subs] at h1 ⊢
    rcases h1 with rfl | h1 | h1
    · simpa [subs] using h2
    · exact .inr (.inl (subs_trans a d e h1 h2))
    · exact .inr (.inr (subs_trans b d e h1 h2))
  | .not a, d, e, h1, h2 => by
    simp [subs] at h1 ⊢
    rcases h1 with rfl | h1
    · simpa [subs] using h2
    · exact .inr (subs_trans a d e h1 h2)
  | .some r a, d, e, h1, h2 => by
    simp [subs] at h1 ⊢
    rcases h1 with rfl | h1
    · simpa [subs] using h2
    · exact .inr (subs_trans a d e h1 h2)
  | .all r a, d, e, h1, h2 => by
    simp [subs] at h1 ⊢
    rcases h1 with rfl | h1
    · simpa [subs] using h2
    · exact .inr (subs_trans a d e h1 h2)
theorem inner_subs (c : C) : inner c ∈ subs c := by
  cases c with
  | some r d => simp [inner, subs, subs_self]
  | all r d => simp [inner, subs, subs_self]
  | top => simp [inner, subs]
  | bot => simp [inner, subs]
  | name a => simp [inner, subs]
  | and a b => simp [inner, subs]
  | or a b => simp [inner, subs]
  | not a => simp [inner, subs]
theorem Ok_subs : ∀ (c d : C), Ok c → d ∈ subs c → Ok d
  | .top, d, o, h => by simp [subs] at h; subst h; exact o
  | .bot, d, o, h => by simp [subs] at h; subst h; exact o
  | .name a, d, o, h => by simp [subs] at h; subst h; exact o
  | .and a b, d, o, h => by
    simp [subs] at h
    rcases h with rfl | h | h
    · exact o
    · exact Ok_subs a d o.1 h
    · exact Ok_subs b d o.2 h
  | .or a b, d, o, h => by
    simp [subs] at h
    rcases h with rfl | h | h
    · exact o
    · exact Ok_subs a d o.1 h
    · exact Ok_subs b d o.2 h
  | .not a, d, o, h => by
    simp [subs] at h
    rcases h with rfl | h
    · exact o
    · exact Ok_subs a d o h
  | .some r a, d, o, h => by
    simp [subs] at h
    rcases h with rfl | h
    · exact o
    · exact Ok_subs a d o.2 h
  | .all r a, d, o, h => by
    simp [subs] at h
    rcases h with rfl | h
    · exact o
    · exact Ok_subs a d o.2 h
/-- all atoms of a concept are among these -/
def Within (at_ : List C) (c : C) : Prop := ∀ d ∈ subs c, isAt d = true → d ∈ at_
theorem Within.sub {at_ : List C} {c d : C} (h : Within at_ c) (hd : d ∈ subs c) : Within at_ d := fun e he => h e (subs_trans c d e hd he)
/-- a good row of atoms: each is one and a concept, each once, with all that are in it -/
structure Good (at_ : List C) : Prop where
  ok : ∀ x ∈ at_, Ok x
  isa : ∀ x ∈ at_, isAt x = true
  nd : at_.Nodup
  cl : ∀ x ∈ at_, Within at_ x
theorem good_atomsOf {l : List C} (h : ∀ c ∈ l, Ok c) : Good (Oc.atomsOf l) where
  ok := fun x hx => by
    obtain ⟨c, hc, hx⟩ := mem_atomsOf.mp hx
    rw [atoms_subs] at hx
    exact Ok_subs c x (h c hc) (List.mem_filter.mp hx).1
  isa := fun x hx => by
    obtain ⟨c, hc, hx⟩ := mem_atomsOf.mp hx
    rw [atoms_subs] at hx
    exact (List.mem_filter.mp hx).2
  nd := nodup_atomsOf l
  cl := fun x hx d hd hi => by
    obtain ⟨c, hc, hx⟩ := mem_atomsOf.mp hx
    rw [atoms_subs] at hx
    refine mem_atomsOf.mpr ⟨c, hc, ?_⟩
    rw [atoms_subs]
    exact List.mem_filter.mpr ⟨subs_trans c x d (List.mem_filter.mp hx).1 hd, hi⟩
theorem within_atomsOf {l : List C} {c : C} (h : c ∈ l) : Within (Oc.atomsOf l) c := fun d hd hi =>
  mem_atomsOf.mpr ⟨c, h, by rw [atoms_subs]; exact List.mem_filter.mpr ⟨hd, hi⟩⟩
/-! ### concepts by a pile, from right to left -/
def partsOf : C → List C
  | .and c d => [c, d]
  | .or c d => [c, d]
  | .not c => [c]
  | .some _ c => [c]
  | .all _ c => [c]
  | _ => []
theorem partsOf_len (c : C) : (partsOf c).length = parts ((enc c).headD 0) := by cases c <;> simp [partsOf, enc, parts]
def pile (d : C) (st : List C) : List C := d :: st.drop (partsOf d).length
theorem pile_subs : ∀ (c : C) (st : List C), (subs c).foldr pile st = c :: st
  | .top, st => by simp [subs, pile, partsOf]
  | .bot, st => by simp [subs, pile, partsOf]
  | .name a, st => by simp [subs, pile, partsOf]
  | .and c d, st => by simp [subs, List.foldr_append, pile_subs c, pile_subs d, pile, partsOf]
  | .or c d, st => by simp [subs, List.foldr_append, pile_subs c, pile_subs d, pile, partsOf]
  | .not c, st => by simp [subs, pile_subs c, pile, partsOf]
  | .some r c, st => by simp [subs, pile_subs c, pile, partsOf]
  | .all r c, st => by simp [subs, pile_subs c, pile, partsOf]
theorem pile_one {e : C} {suf : List C} {p : List C} (hp : subs e = e :: p) (hq : ∀ st, ∃ r, p.foldr pile st = partsOf e ++ r)
    (ih : ∀ (pre : List C) (d : C) (suf st : List C), p = pre ++ d :: suf → ∃ r, suf.foldr pile st = partsOf d ++ r) :
    ∀ (pre : List C) (d : C) (suf st : List C), subs e = pre ++ d :: suf → ∃ r, suf.foldr pile st = partsOf d ++ r := by
  intro pre d suf st h
  rw [hp] at h
  cases pre with
  | nil =>
    cases h
    exact hq st
  | cons a pre =>
    cases h
    exact ih pre d suf st rfl
theorem pile_parts : ∀ (c : C) (pre : List C) (d : C) (suf st : List C), subs c = pre ++ d :: suf → ∃ r, suf.foldr pile st = partsOf d ++ r
  | .top => pile_one (e := .top) (p := []) (suf := []) rfl (fun st => ⟨st, rfl⟩) (fun pre d suf st h => by simp at h)
  | .bot => pile_one (e := .bot) (p := []) (suf := []) rfl (fun st => ⟨st, rfl⟩) (fun pre d suf st h => by simp at h)
  | .name a => pile_one (e := .name a) (p := []) (suf := []) rfl (fun st => ⟨st, rfl⟩) (fun pre d suf st h => by simp at h)
  | .and a b => pile_one (e := .and a b) (p := subs a ++ subs b) (suf := []) rfl (fun st => ⟨st, by rw [List.foldr_append, pile_subs b, pile_subs a]; rfl⟩) (fun pre d suf st h => by
      rcases List.append_eq_append_iff.mp h with ⟨u, e1, e2⟩ | ⟨u, e1, e2⟩
      · exact pile_parts b u d suf st e2
      · cases u with
        | nil =>
          simp at e2
          exact pile_parts b [] d suf st (by simp [e2])
        | cons x u =>
          cases e2
          show ∃ r, (u ++ subs b).foldr pile st = partsOf d ++ r
          rw [List.foldr_append]
          exact pile_parts a pre d u _ e1)
  | .or a b => pile_one (e := .or a b) (p := subs a ++ subs b) (suf := []) rfl (fun st => ⟨st, by rw [List.foldr_append, pile_subs b, pile_subs a]; rfl⟩) (fun pre d suf st h => by
      rcases List.append_eq_append_iff.mp h with ⟨u, e1, e2⟩ | ⟨u, e1, e2⟩
      · exact pile_parts b u d suf st e2
      · cases u with
        | nil =>
          simp at e2
          exact pile_parts b [] d suf st (by simp [e2])
        | cons x u =>
          cases e2
          show ∃ r, (u ++ subs b).foldr pile st = partsOf d ++ r
          rw [List.foldr_append]
          exact pile_parts a pre d u _ e1)
  | .not a => pile_one (e := .not a) (p := subs a) (suf := []) rfl (fun st => ⟨st, by rw [pile_subs a]; rfl⟩) (fun pre d suf st h => pile_parts a pre d suf st h)
  | .some r a => pile_one (e := .some r a) (p := subs a) (suf := []) rfl (fun st => ⟨st, by rw [pile_subs a]; rfl⟩) (fun pre d suf st h => pile_parts a pre d suf st h)
  | .all r a => pile_one (e := .all r a) (p := subs a) (suf := []) rfl (fun st => ⟨st, by rw [pile_subs a]; rfl⟩) (fun pre d suf st h => pile_parts a pre d suf st h)
/-- of each type, rising, whether the concept holds in it -/
def col (at_ : List C) (c : C) : List Bool := (List.range (2 ^ at_.length)).map fun t => Oc.holds at_ t c
theorem col_len (at_ : List C) (c : C) : (col at_ c).length = 2 ^ at_.length := by simp [col]
theorem col_get {at_ : List C} {c : C} {t : Nat} (h : t < 2 ^ at_.length) : (col at_ c)[t]? = some (Oc.holds at_ t c) := by simp [col, h]
/-! ### the house's own proof -/
open Oc12 (Step)
/-- the lowest axiom that is broken in a type -/
def lowAx (at_ : List C) (ax : List Axiom) (t : Nat) : Option Nat := (List.range ax.length).find? fun i => match ax[i]? with
  | some a => Oc.holds at_ t a.1 && !Oc.holds at_ t a.2
  | none => false
theorem broken_eq (at_ : List C) (ax : List Axiom) : Oc12.broken at_ ax = (List.range (2 ^ at_.length)).filterMap fun t => (lowAx at_ ax t).map fun i => ⟨t, false, i⟩ := rfl
/-- the lowest atom that isn't borne out -/
def lowAt (at_ : List C) (l : List Nat) (t : Nat) : Option Nat := (List.range at_.length).find? fun k => match at_[k]? with
  | some x => !Oc12.borne at_ l t x
  | none => false
def round (at_ : List C) (l : List Nat) : List Step := l.filterMap fun t => (lowAt at_ l t).map fun k => (⟨t, true, k⟩ : Step)
/-- those that are there yet -/
def left (l : List Nat) (s : List Step) : List Nat := l.filter fun t => !s.any fun x => x.type == t
theorem rounds_succ (at_ : List C) (n : Nat) (l : List Nat) : Oc12.rounds at_ (n + 1) l = if round at_ l = [] then [] else round at_ l ++ Oc12.rounds at_ n (left l (round at_ l)) := rfl
def ownSteps (at_ : List C) (ax : List Axiom) : List Step := Oc12.broken at_ ax ++ Oc12.rounds at_ (2 ^ at_.length + 1) (left (List.range (2 ^ at_.length)) (Oc12.broken at_ ax))
theorem left_append (l : List Nat) (s u : List Step) : left l (s ++ u) = left (left l s) u := by
  unfold left
  rw [List.filter_filter]
  apply List.filter_congr
  intro t _
  rw [List.any_append, Bool.not_or, Bool.and_comm]
theorem left_nil (l : List Nat) : left l [] = l := by
  unfold left
  rw [List.filter_eq_self]
  intro a _
  rfl
theorem any_filterMap_type {l : List Nat} {f : Nat → Option Nat} {b : Bool} {t : Nat} (ht : t ∈ l) : ((l.filterMap fun t => (f t).map fun i => (⟨t, b, i⟩ : Step)).any fun x => x.type == t) = (f t).isSome := by
  rw [Bool.eq_iff_iff, List.any_eq_true]
  constructor
  · rintro ⟨x, hx, e⟩
    obtain ⟨u, hu, hx⟩ := List.mem_filterMap.mp hx
    obtain ⟨i, hi, rfl⟩ := Option.map_eq_some_iff.mp hx
    have e' : u = t := by simpa using e
    subst e'
    rw [hi]; rfl
  · intro h
    obtain ⟨i, hi⟩ := Option.isSome_iff_exists.mp h
    exact ⟨⟨t, b, i⟩, List.mem_filterMap.mpr ⟨t, ht, by rw [hi]; rfl⟩, by simp⟩
theorem left_broken (at_ : List C) (ax : List Axiom) : left (List.range (2 ^ at_.length)) (Oc12.broken at_ ax) = (List.range (2 ^ at_.length)).filter (Oc.keeps at_ ax) := by
  unfold left
  apply List.filter_congr
  intro t ht
  rw [broken_eq, any_filterMap_type ht]
  unfold lowAx Oc.keeps
  rw [Bool.eq_iff_iff]
  simp only [Bool.not_eq_true', Option.isSome_eq_false_iff, Option.isNone_iff_eq_none, List.find?_eq_none, List.mem_range, List.all_eq_true]
  constructor
  · intro h a ha
    obtain ⟨i, hi, e⟩ := List.mem_iff_getElem.mp ha
    have := h i hi
    rw [List.getElem?_eq_getElem hi, e] at this
    cases q1 : Oc.holds at_ t a.1 <;> cases q2 : Oc.holds at_ t a.2 <;> simp_all
  · intro h i hi
    have := h _ (List.getElem_mem hi)
    rw [List.getElem?_eq_getElem hi]
    cases q1 : Oc.holds at_ t ax[i].1 <;> cases q2 : Oc.holds at_ t ax[i].2 <;> simp_all
theorem borne_all (at_ : List C) (l : List Nat) (t : Nat) : Oc.borne at_ l t = at_.all fun x => Oc12.borne at_ l t x := by
  unfold Oc.borne
  congr 1
theorem lowAt_none {at_ : List C} {l : List Nat} {t : Nat} : (lowAt at_ l t).isSome = !Oc.borne at_ l t := by
  rw [borne_all]
  unfold lowAt
  rw [Bool.eq_iff_iff]
  simp only [Bool.not_eq_true', Option.isSome_iff_exists]
  constructor
  · rintro ⟨k, h⟩
    have hk := List.mem_range.mp (List.mem_of_find?_eq_some h)
    have hp := List.find?_some h
    rw [List.all_eq_false]
    refine ⟨at_[k], List.getElem_mem hk, ?_⟩
    rw [List.getElem?_eq_getElem hk] at hp
    simpa using hp
  · intro h
    obtain ⟨x, hx, e⟩ := List.all_eq_false.mp h
    obtain ⟨k, hk, rfl⟩ := List.mem_iff_getElem.mp hx
    cases q : (List.range at_.length).find? (fun k => match at_[k]? with | some x => !Oc12.borne at_ l t x | none => false) with
    | some i => exact ⟨i, rfl⟩
    | none =>
      have := List.find?_eq_none.mp q k (List.mem_range.mpr hk)
      rw [List.getElem?_eq_getElem hk] at this
      simp_all
theorem left_round (at_ : List C) (l : List Nat) : left l (round at_ l) = l.filter (Oc.borne at_ l) := by
  unfold left
  apply List.filter_congr
  intro t ht
  unfold round
  rw [any_filterMap_type ht, lowAt_none, Bool.not_not]
theorem round_nil (at_ : List C) (l : List Nat) : round at_ l = [] ↔ (l.filter (Oc.borne at_ l)).length = l.length := by
  rw [← List.countP_eq_length_filter, List.countP_eq_length]
  unfold round
  rw [List.filterMap_eq_nil_iff]
  constructor
  · intro h t ht
    have := h t ht
    rw [Option.map_eq_none_iff] at this
    have q := lowAt_none (at_ := at_) (l := l) (t := t)
    rw [this] at q
    simpa using q
  · intro h t ht
    have q := lowAt_none (at_ := at_) (l := l) (t := t)
    rw [h t ht] at q
    rw [Option.map_eq_none_iff]
    simpa using q
theorem left_rounds (at_ : List C) : ∀ (n : Nat) (l : List Nat), left l (Oc12.rounds at_ n l) = Oc.settle at_ n l
  | 0, l => left_nil l
  | n + 1, l => by
    rw [rounds_succ]
    show _ = if (l.filter (Oc.borne at_ l)).length = l.length then l else Oc.settle at_ n (l.filter (Oc.borne at_ l))
    by_cases h : round at_ l = []
    · rw [if_pos h, if_pos ((round_nil at_ l).mp h), left_nil]
    · rw [if_neg h, if_neg fun q => h ((round_nil at_ l).mpr q), left_append, left_rounds at_ n, left_round]
theorem left_own (at_ : List C) (ax : List Axiom) : left (List.range (2 ^ at_.length)) (ownSteps at_ ax) = Oc.types at_ ax := by
  unfold ownSteps Oc.types
  rw [left_append, left_rounds, left_broken]
theorem round_less {at_ : List C} {l : List Nat} (h : round at_ l ≠ []) : (left l (round at_ l)).length < l.length := by
  rw [left_round]
  have := List.length_filter_le (Oc.borne at_ l) l
  have q : ¬ (l.filter (Oc.borne at_ l)).length = l.length := fun q => h ((round_nil at_ l).mpr q)
  omega
theorem own_none (ax : List Axiom) (c : C) : Oc12.ownNone ax c = if (Oc.types (Oc.atomsFor ax [c]) ax).any (fun t => Oc.holds (Oc.atomsFor ax [c]) t c) = true then none else some (ownSteps (Oc.atomsFor ax [c]) ax) := rfl
end Bk

namespace Bk
/-! ### the calls of a list, by numbers that are not below 0 -/
structure NCall where
  place : Nat
  nums : List Nat
  rows : List (List Nat)
def toI (l : List Nat) : List Int := l.map fun (n : Nat) => (n : Int)
def nats (l : List Int) : List Nat := l.map Int.toNat
theorem nats_ints (l : List Nat) : nats (toI l) = l := by
  unfold nats toI
  rw [List.map_map]
  conv => rhs; rw [← List.map_id l]
  apply List.map_congr_left
  intro n _
  exact Int.toNat_natCast n
theorem ints_nats {l : List Int} (h : ∀ x ∈ l, 0 ≤ x) : toI (nats l) = l := by
  unfold nats toI
  rw [List.map_map]
  conv => rhs; rw [← List.map_id l]
  apply List.map_congr_left
  intro x hx
  exact Int.toNat_of_nonneg (h x hx)
def NCall.asI (c : NCall) : List (List Int) := ((c.place : Int) :: toI c.nums) :: c.rows.map toI
def putRowN (row : List Nat) : List Nat := row.length :: row
def NCall.put (c : NCall) : List Nat := c.place :: (putRowN c.nums ++ (c.rows.length :: c.rows.flatMap putRowN))
def toN (c : List (List Int)) : NCall := match c with
  | (p :: ns) :: xs => ⟨p.toNat, nats ns, xs.map nats⟩
  | _ => ⟨0, [], []⟩
theorem putRow_nat (r : List Int) : nats (PyFlat.putRow r) = putRowN (nats r) := by
  show nats ((r.length : Int) :: r) = _
  unfold nats putRowN
  rw [List.map_cons, Int.toNat_natCast, List.length_map]
theorem nats_append (a b : List Int) : nats (a ++ b) = nats a ++ nats b := List.map_append
theorem putRows_nat : ∀ xs : List (List Int), nats (PyFlat.putRows xs) = (xs.map nats).flatMap putRowN
  | [] => rfl
  | x :: xs => by
    show nats (PyFlat.putRow x ++ PyFlat.putRows xs) = _
    rw [nats_append, putRow_nat, putRows_nat xs]
    rfl
theorem put1_nat {c : List (List Int)} (h : PyWide.okCall c) : nats (PyWide.put1 c) = (toN c).put := by
  obtain ⟨p, ns, xs, rfl⟩ := h
  show nats (p :: (PyFlat.putRow ns ++ ((xs.length : Int) :: PyFlat.putRows xs))) = _
  show p.toNat :: nats (PyFlat.putRow ns ++ ((xs.length : Int) :: PyFlat.putRows xs)) = _
  rw [nats_append, putRow_nat]
  show p.toNat :: (putRowN (nats ns) ++ ((xs.length : Int).toNat :: nats (PyFlat.putRows xs))) = p.toNat :: (putRowN (nats ns) ++ ((xs.map nats).length :: (xs.map nats).flatMap putRowN))
  rw [putRows_nat, Int.toNat_natCast, List.length_map]
theorem put_nat : ∀ cs : List (List (List Int)), (∀ c ∈ cs, PyWide.okCall c) → nats (PyWide.put cs) = (cs.map toN).flatMap NCall.put
  | [], _ => rfl
  | c :: cs, h => by
    show nats (PyWide.put1 c ++ PyWide.put cs) = _
    rw [nats_append, put1_nat (h c List.mem_cons_self), put_nat cs fun d hd => h d (List.mem_cons_of_mem _ hd)]
    rfl
theorem mem_putRow {r : List Int} {x : Int} (h : x ∈ r) : x ∈ PyFlat.putRow r := List.mem_cons_of_mem _ h
theorem mem_putRows : ∀ {xs : List (List Int)} {r : List Int} {x : Int}, r ∈ xs → x ∈ r → x ∈ PyFlat.putRows xs
  | [], _, _, h, _ => by cases h
  | y :: xs, r, x, h, hx => by
    show x ∈ PyFlat.putRow y ++ PyFlat.putRows xs
    rcases List.mem_cons.mp h with rfl | h
    · exact List.mem_append_left _ (mem_putRow hx)
    · exact List.mem_append_right _ (mem_putRows h hx)
theorem toN_ints {c : List (List Int)} (h : PyWide.okCall c) (hp : ∀ x ∈ PyWide.put1 c, 0 ≤ x) : (toN c).asI = c := by
  obtain ⟨p, ns, xs, rfl⟩ := h
  have hp' : ∀ x ∈ p :: (PyFlat.putRow ns ++ ((xs.length : Int) :: PyFlat.putRows xs)), 0 ≤ x := hp
  show ((p.toNat : Int) :: toI (nats ns)) :: (xs.map nats).map toI = (p :: ns) :: xs
  rw [Int.toNat_of_nonneg (hp' p List.mem_cons_self), ints_nats fun x hx => hp' x (List.mem_cons_of_mem _ (List.mem_append_left _ (mem_putRow hx))), List.map_map]
  congr 1
  conv => rhs; rw [← List.map_id xs]
  apply List.map_congr_left
  intro r hr
  exact ints_nats fun x hx => hp' x (List.mem_cons_of_mem _ (List.mem_append_right _ (List.mem_cons_of_mem _ (mem_putRows hr hx))))
theorem mem_put : ∀ {cs : List (List (List Int))} {c : List (List Int)} {x : Int}, c ∈ cs → x ∈ PyWide.put1 c → x ∈ PyWide.put cs
  | [], _, _, h, _ => by cases h
  | d :: cs, c, x, h, hx => by
    show x ∈ PyWide.put1 d ++ PyWide.put cs
    rcases List.mem_cons.mp h with rfl | h
    · exact List.mem_append_left _ hx
    · exact List.mem_append_right _ (mem_put h hx)
/-- a list that is asked: its calls -/
theorem asked_calls {l : List Int} (hn : ∀ x ∈ l, 0 ≤ x) (h : PyOc12.answers_asked l = true) :
    ∃ ncs : List NCall, nats l = ncs.flatMap NCall.put ∧ (∀ c ∈ ncs, Oc12Neutral.asked1 c.asI = true) ∧ ncs.length ≤ 60 ∧ PyOc12.answers l = PyFlat.told (PyFlat.played Oc12Neutral.step Oc12Neutral.start (ncs.map NCall.asI)) ∧ (PyOc12.answers l).length ≤ 10000000 := by
  unfold PyOc12.answers_asked at h
  cases q : PyOc12.calls l with
  | none =>
    rw [q] at h
    cases h
  | some cs =>
    rw [q] at h
    simp only [Bool.and_eq_true] at h
    obtain ⟨⟨⟨⟨h1, h2⟩, h3⟩, h4⟩, h5⟩ := h
    obtain ⟨e, hok⟩ := PyWide.put_calls l.length l cs q
    have hpos : ∀ c ∈ cs, ∀ x ∈ PyWide.put1 c, 0 ≤ x := fun c hc x hx => hn x (by rw [e]; exact mem_put hc hx)
    have hmap : (cs.map toN).map NCall.asI = cs := by
      rw [List.map_map]
      conv => rhs; rw [← List.map_id cs]
      apply List.map_congr_left
      intro c hc
      exact toN_ints (hok c hc) (hpos c hc)
    refine ⟨cs.map toN, ?_, fun c hc => ?_, ?_, ?_, of_decide_eq_true h5⟩
    · rw [← put_nat cs hok, ← e]
    · obtain ⟨d, hd, rfl⟩ := List.mem_map.mp hc
      rw [toN_ints (hok d hd) (hpos d hd)]
      unfold Oc12Neutral.asked at h4
      rw [Bool.and_eq_true] at h4
      exact List.all_eq_true.mp h4.1 d hd
    · rw [List.length_map]
      exact of_decide_eq_true h3
    · rw [hmap]
      unfold PyOc12.answers
      rw [q]
end Bk

namespace Bk
open Oc (C Axiom)
open Oc01 (Thing)
open Oc12 (Step)
/-! ### steps and things from their numbers -/
def trip : List Nat → List (Nat × Nat × Nat)
  | t :: k :: i :: l => (t, k, i) :: trip l
  | _ => []
def mkS (x : Nat × Nat × Nat) : Step := ⟨x.1, x.2.1 == 1, x.2.2⟩
theorem trip_len : ∀ ns : List Nat, (trip ns).length = ns.length / 3
  | [] => rfl
  | [_] => by simp [trip]
  | [_, _] => by simp [trip]
  | t :: k :: i :: l => by
    show (trip l).length + 1 = (l.length + 1 + 1 + 1) / 3
    rw [trip_len l]
    omega
theorem trip_at : ∀ (ns : List Nat) (j : Nat) (x : Nat × Nat × Nat), (trip ns)[j]? = some x → (ns.drop (3 * j)).take 3 = [x.1, x.2.1, x.2.2]
  | [], j, x, h => by simp [trip] at h
  | [_], j, x, h => by simp [trip] at h
  | [_, _], j, x, h => by simp [trip] at h
  | t :: k :: i :: l, 0, x, h => by
    have e : (t, k, i) = x := Option.some.inj h
    subst e
    rfl
  | t :: k :: i :: l, j + 1, x, h => by
    have h' : (trip l)[j]? = some x := h
    have := trip_at l j x h'
    rw [show 3 * (j + 1) = 3 * j + 3 by omega]
    exact this
theorem steps_bad : ∀ ns : List Nat, ns.length % 3 ≠ 0 → Oc12.steps? ns = none
  | [], h => absurd rfl h
  | [_], _ => rfl
  | [_, _], _ => rfl
  | t :: k :: i :: l, h => by
    have h' : l.length % 3 ≠ 0 := by
      have : (l.length + 1 + 1 + 1) % 3 ≠ 0 := h
      omega
    show (if k ≤ 1 then (Oc12.steps? l).map fun r => (⟨t, k == 1, i⟩ : Step) :: r else none) = none
    rw [steps_bad l h']
    split <;> rfl
theorem steps_good : ∀ ns : List Nat, ns.length % 3 = 0 → Oc12.steps? ns = if ((trip ns).all fun x => decide (x.2.1 ≤ 1)) = true then some ((trip ns).map mkS) else none
  | [], _ => rfl
  | [_], h => by simp at h
  | [_, _], h => by simp at h
  | t :: k :: i :: l, h => by
    have h' : l.length % 3 = 0 := by
      have : (l.length + 1 + 1 + 1) % 3 = 0 := h
      omega
    show (if k ≤ 1 then (Oc12.steps? l).map fun r => (⟨t, k == 1, i⟩ : Step) :: r else none) = if (((t, k, i) :: trip l).all fun x => decide (x.2.1 ≤ 1)) = true then some (((t, k, i) :: trip l).map mkS) else none
    rw [steps_good l h', List.all_cons]
    by_cases hk : k ≤ 1
    · rw [if_pos hk, decide_eq_true (show ((t, k, i) : Nat × Nat × Nat).2.1 ≤ 1 from hk), Bool.true_and]
      split <;> rfl
    · rw [if_neg hk, decide_eq_false (show ¬ ((t, k, i) : Nat × Nat × Nat).2.1 ≤ 1 from hk), Bool.false_and]
      rfl
def duo : List Nat → List (Nat × Nat)
  | a :: b :: l => (a, b) :: duo l
  | _ => []
theorem duo_len : ∀ ns : List Nat, (duo ns).length = ns.length / 2
  | [] => rfl
  | [_] => by simp [duo]
  | a :: b :: l => by
    show (duo l).length + 1 = (l.length + 1 + 1) / 2
    rw [duo_len l]
    omega
theorem duo_at : ∀ (ns : List Nat) (j : Nat) (x : Nat × Nat), (duo ns)[j]? = some x → ns[2 * j]? = some x.1 ∧ ns[2 * j + 1]? = some x.2
  | [], j, x, h => by simp [duo] at h
  | [_], j, x, h => by simp [duo] at h
  | a :: b :: l, 0, x, h => by
    have e : (a, b) = x := Option.some.inj h
    subst e
    exact ⟨rfl, rfl⟩
  | a :: b :: l, j + 1, x, h => by
    have h' : (duo l)[j]? = some x := h
    have := duo_at l j x h'
    rw [show 2 * (j + 1) = 2 * j + 2 by omega]
    exact this
theorem pairs_bad : ∀ ns : List Nat, ns.length % 2 ≠ 0 → Oc12.pairs ns = none
  | [], h => absurd rfl h
  | [_], _ => rfl
  | a :: b :: l, h => by
    have h' : l.length % 2 ≠ 0 := by
      have : (l.length + 1 + 1) % 2 ≠ 0 := h
      omega
    show (Oc12.pairs l).map _ = none
    rw [pairs_bad l h']
    rfl
theorem pairs_good : ∀ ns : List Nat, ns.length % 2 = 0 → Oc12.pairs ns = some (duo ns)
  | [], _ => rfl
  | [_], h => by simp at h
  | a :: b :: l, h => by
    have h' : l.length % 2 = 0 := by
      have : (l.length + 1 + 1) % 2 = 0 := h
      omega
    show (Oc12.pairs l).map _ = _
    rw [pairs_good l h']
    rfl
theorem thing_bad {ns : List Nat} (h : ns.length % 2 = 0) : Oc12.thing? ns = none := by
  cases ns with
  | nil => rfl
  | cons n l =>
    show (Oc12.pairs l).map _ = none
    rw [pairs_bad l (by rw [List.length_cons] at h; omega)]
    rfl
theorem thing_good {n : Nat} {l : List Nat} (h : (n :: l).length % 2 ≠ 0) : Oc12.thing? (n :: l) = some ⟨n, duo l⟩ := by
  show (Oc12.pairs l).map _ = _
  rw [pairs_good l (by rw [List.length_cons] at h; omega)]
  rfl
theorem things_eq : ∀ ls : List (List Nat), Oc12.things? ls = if ((ls.map Oc12.thing?).any fun o => o.isNone) = true then none else some (ls.filterMap Oc12.thing?)
  | [] => rfl
  | r :: l => by
    show (match Oc12.thing? r, Oc12.things? l with | some x, some y => some (x :: y) | _, _ => none) = _
    rw [things_eq l, List.map_cons, List.any_cons, List.filterMap_cons]
    cases h : Oc12.thing? r with
    | none => rfl
    | some x =>
      show _ = if ((false || (l.map Oc12.thing?).any fun o => o.isNone)) = true then none else some (x :: l.filterMap Oc12.thing?)
      rw [Bool.false_or]
      by_cases q : ((l.map Oc12.thing?).any fun o => o.isNone) = true
      · rw [if_pos q, if_pos q]
      · rw [if_neg q, if_neg q]
theorem all_some : ∀ {ls : List (List Nat)}, ((ls.map Oc12.thing?).any fun o => o.isNone) = false → ls.map Oc12.thing? = (ls.filterMap Oc12.thing?).map some
  | [], _ => rfl
  | r :: l, h => by
    rw [List.map_cons, List.any_cons, Bool.or_eq_false_iff] at h
    cases q : Oc12.thing? r with
    | none =>
      rw [q] at h
      cases h.1
    | some x =>
      rw [List.map_cons, List.filterMap_cons, q, all_some h.2]
      rfl
/-! ### the checker of a proof that there's none -/
theorem er_filter : ∀ (l : List Nat) (j t : Nat), l.Nodup → l[j]? = some t → l.eraseIdx j = l.filter fun u => u != t
  | [], j, t, _, h => by simp at h
  | a :: l, 0, t, hn, h => by
    have e : a = t := Option.some.inj h
    subst e
    show l = (a :: l).filter fun u => u != a
    rw [List.filter_cons_of_neg (by simp)]
    have hm := (List.nodup_cons.mp hn).1
    rw [List.filter_eq_self.mpr]
    intro u hu
    exact bne_iff_ne.mpr fun z => hm (by rw [← z]; exact hu)
  | a :: l, j + 1, t, hn, h => by
    have h' : l[j]? = some t := h
    have hm := (List.nodup_cons.mp hn).1
    have hne : a ≠ t := fun z => hm (by rw [z]; exact List.mem_of_getElem? h')
    show a :: l.eraseIdx j = (a :: l).filter fun u => u != t
    rw [List.filter_cons_of_pos (by simpa using hne), er_filter l j t (List.nodup_cons.mp hn).2 h']
/-- what is wrong, or 0 -/
def ck : Oc12.Fault → List Nat
  | none => [0]
  | some f => f
theorem first_at {l : List Nat} {t : Nat} (h : l.contains t = true) : ∃ j : Nat, l[j]? = some t ∧ ∀ m : Nat, m < j → l[m]? ≠ some t := by
  have hm : t ∈ l := by simpa using h
  obtain ⟨j, hj, e⟩ : ∃ j, l.findIdx? (· == t) = some j ∧ True := by
    cases q : l.findIdx? (· == t) with
    | none =>
      rw [List.findIdx?_eq_none_iff] at q
      have := q t hm
      simp at this
    | some j => exact ⟨j, rfl, trivial⟩
  obtain ⟨hlt, h1, h2⟩ := List.findIdx?_eq_some_iff_getElem.mp hj
  refine ⟨j, ?_, fun m hm z => ?_⟩
  · rw [List.getElem?_eq_getElem hlt]
    have : l[j] = t := by simpa using h1
    rw [this]
  · obtain ⟨hm', e'⟩ := List.getElem?_eq_some_iff.mp z
    have := h2 m hm
    rw [e'] at this
    simp at this
theorem fault_pos {ax : List Axiom} {at_ : List C} : ∀ (ss : List Step) (j : Nat) (l : List Nat) (f : List Nat), Oc12.goes at_ ax j l ss = .inr f → ∃ n r, f = n :: r
  | [], j, l, f, h => by cases h
  | s :: ss, j, l, f, h => by
    unfold Oc12.goes at h
    split at h
    · cases h
      exact ⟨_, _, rfl⟩
    · split at h
      · cases h
        exact ⟨_, _, rfl⟩
      · exact fault_pos ss _ _ f h
end Bk

namespace Bk
open Oc (C Axiom)
open Oc01 (Thing)
/-! ### the types that can be there bear each other out -/
theorem settle_fix (at_ : List C) : ∀ (n : Nat) (l : List Nat), l.length < n → ∀ t ∈ Oc.settle at_ n l, Oc.borne at_ (Oc.settle at_ n l) t = true
  | 0, l, h => absurd h (by omega)
  | n + 1, l, h => by
    have e : Oc.settle at_ (n + 1) l = if (l.filter (Oc.borne at_ l)).length = l.length then l else Oc.settle at_ n (l.filter (Oc.borne at_ l)) := rfl
    by_cases q : (l.filter (Oc.borne at_ l)).length = l.length
    · rw [e, if_pos q]
      rw [← List.countP_eq_length_filter, List.countP_eq_length] at q
      exact q
    · rw [e, if_neg q]
      have := List.length_filter_le (Oc.borne at_ l) l
      exact settle_fix at_ n _ (by omega)
theorem settle_sub (at_ : List C) : ∀ (n : Nat) (l : List Nat), ∀ t ∈ Oc.settle at_ n l, t ∈ l
  | 0, l, t, h => h
  | n + 1, l, t, h => by
    have e : Oc.settle at_ (n + 1) l = if (l.filter (Oc.borne at_ l)).length = l.length then l else Oc.settle at_ n (l.filter (Oc.borne at_ l)) := rfl
    rw [e] at h
    split at h
    · exact h
    · exact (List.mem_filter.mp (settle_sub at_ n _ t h)).1
theorem settle_len (at_ : List C) : ∀ (n : Nat) (l : List Nat), (Oc.settle at_ n l).length ≤ l.length
  | 0, l => Nat.le_refl _
  | n + 1, l => by
    have e : Oc.settle at_ (n + 1) l = if (l.filter (Oc.borne at_ l)).length = l.length then l else Oc.settle at_ n (l.filter (Oc.borne at_ l)) := rfl
    rw [e]
    split
    · exact Nat.le_refl _
    · exact Nat.le_trans (settle_len at_ n _) (List.length_filter_le _ _)
theorem types_fix (at_ : List C) (ax : List Axiom) : ∀ t ∈ Oc.types at_ ax, Oc.borne at_ (Oc.types at_ ax) t = true := by
  refine settle_fix at_ _ _ ?_
  have := List.length_filter_le (Oc.keeps at_ ax) (List.range (2 ^ at_.length))
  rw [List.length_range] at this
  omega
theorem types_lt {at_ : List C} {ax : List Axiom} {t : Nat} (h : t ∈ Oc.types at_ ax) : t < 2 ^ at_.length := List.mem_range.mp (List.mem_filter.mp (settle_sub at_ _ _ t h)).1
theorem types_len (at_ : List C) (ax : List Axiom) : (Oc.types at_ ax).length ≤ 2 ^ at_.length := by
  refine Nat.le_trans (settle_len at_ _ _) ?_
  have := List.length_filter_le (Oc.keeps at_ ax) (List.range (2 ^ at_.length))
  rw [List.length_range] at this
  exact this
/-! ### what a type needs -/
def due (at_ : List C) (t : Nat) (x : C) : Bool := match x with
  | .some _ _ => Oc.holds at_ t x
  | .all _ _ => !Oc.holds at_ t x
  | _ => false
def bo (at_ : List C) (t : Nat) (x : C) (u : Nat) : Bool := match x with
  | .some r c => Oc.fits at_ r t u && Oc.holds at_ u c
  | .all r c => Oc.fits at_ r t u && !Oc.holds at_ u c
  | _ => false
def roleOf : C → Nat
  | .some r _ => r
  | .all r _ => r
  | _ => 0
def need (at_ : List C) (l : List Nat) (t : Nat) (x : C) : Option (Nat × Nat) := if due at_ t x = true then (l.find? (bo at_ t x)).map fun u => (roleOf x, u) else none
theorem needs_eq (at_ : List C) (l : List Nat) (t : Nat) : Oc01.needs at_ l t = at_.filterMap (need at_ l t) := by
  unfold Oc01.needs
  congr 1
  funext x
  cases x with
  | some r c => rfl
  | all r c =>
    show (if Oc.holds at_ t (.all r c) = false then _ else none) = if (!Oc.holds at_ t (.all r c)) = true then _ else none
    cases Oc.holds at_ t (.all r c) <;> rfl
  | _ => rfl
theorem borne_due' (at_ : List C) (l : List Nat) (t : Nat) (x : C) : Oc12.borne at_ l t x = (!due at_ t x || l.any (bo at_ t x)) := by
  cases x with
  | some r c => rfl
  | all r c =>
    show (Oc.holds at_ t (.all r c) || l.any fun u => Oc.fits at_ r t u && !Oc.holds at_ u c) = (!(!Oc.holds at_ t (.all r c)) || l.any fun u => Oc.fits at_ r t u && !Oc.holds at_ u c)
    rw [Bool.not_not]
  | _ => rfl
/-- each due atom has a type that bears it out -/
theorem need_some {at_ : List C} {l : List Nat} {t : Nat} (h : Oc.borne at_ l t = true) {x : C} (hx : x ∈ at_) (hd : due at_ t x = true) : ∃ u, l.find? (bo at_ t x) = some u := by
  rw [borne_all] at h
  have h1 := List.all_eq_true.mp h x hx
  rw [borne_due', hd] at h1
  have h2 : l.any (bo at_ t x) = true := h1
  obtain ⟨u, hu, hb⟩ := List.any_eq_true.mp h2
  cases q : l.find? (bo at_ t x) with
  | some v => exact ⟨v, rfl⟩
  | none => exact absurd hb (List.find?_eq_none.mp q u hu)
theorem needs_in {at_ : List C} {l : List Nat} {t : Nat} {e : Nat × Nat} (h : e ∈ Oc01.needs at_ l t) : e.2 ∈ l := by
  rw [needs_eq] at h
  obtain ⟨x, _, hx⟩ := List.mem_filterMap.mp h
  unfold need at hx
  split at hx
  · obtain ⟨u, hu, rfl⟩ := Option.map_eq_some_iff.mp hx
    exact List.mem_of_find?_eq_some hu
  · cases hx
/-! ### each once -/
def addP (m : List (Nat × Nat)) (x : Nat × Nat) : List (Nat × Nat) := if m.contains x = true then m else m ++ [x]
theorem once_eq (l : List (Nat × Nat)) : Oc01.once l = l.foldl addP [] := rfl
def addK (m : List Nat) (x : Nat × Nat) : List Nat := if m.contains x.2 = true then m else m ++ [x.2]
theorem mem_addP {m : List (Nat × Nat)} {x y : Nat × Nat} : y ∈ addP m x ↔ y ∈ m ∨ y = x := by
  unfold addP
  by_cases h : m.contains x = true
  · rw [if_pos h]
    have hx : x ∈ m := by simpa using h
    constructor
    · exact .inl
    · rintro (a | rfl)
      · exact a
      · exact hx
  · rw [if_neg h]
    simp
theorem mem_addK {m : List Nat} {x : Nat × Nat} {y : Nat} : y ∈ addK m x ↔ y ∈ m ∨ y = x.2 := by
  unfold addK
  by_cases h : m.contains x.2 = true
  · rw [if_pos h]
    have hx : x.2 ∈ m := by simpa using h
    constructor
    · exact .inl
    · rintro (a | rfl)
      · exact a
      · exact hx
  · rw [if_neg h]
    simp
theorem nodup_addK {m : List Nat} {x : Nat × Nat} (h : m.Nodup) : (addK m x).Nodup := by
  unfold addK
  by_cases q : m.contains x.2 = true
  · rw [if_pos q]; exact h
  · rw [if_neg q]
    have hn : x.2 ∉ m := by simpa using q
    rw [List.nodup_append]
    refine ⟨h, by simp, ?_⟩
    intro a ha b hb
    have : b = x.2 := by simpa using hb
    subst this
    intro e
    subst e
    exact hn ha
theorem mem_foldP : ∀ (l m : List (Nat × Nat)) (y : Nat × Nat), y ∈ l.foldl addP m ↔ y ∈ m ∨ y ∈ l
  | [], m, y => by simp
  | x :: l, m, y => by
    rw [List.foldl_cons, mem_foldP l, mem_addP]
    simp [or_assoc]
theorem mem_foldK : ∀ (l : List (Nat × Nat)) (m : List Nat) (y : Nat), y ∈ l.foldl addK m ↔ y ∈ m ∨ ∃ x ∈ l, y = x.2
  | [], m, y => by simp
  | x :: l, m, y => by
    rw [List.foldl_cons, mem_foldK l, mem_addK]
    simp [or_assoc]
theorem nodup_foldK : ∀ (l : List (Nat × Nat)) (m : List Nat), m.Nodup → (l.foldl addK m).Nodup
  | [], m, h => h
  | x :: l, m, h => by
    rw [List.foldl_cons]
    exact nodup_foldK l _ (nodup_addK h)
/-- a list grown by the told ones is grown by all -/
theorem foldK_once : ∀ (l m : List (Nat × Nat)) (w : List Nat), (l.foldl addP m).foldl addK w = l.foldl addK (m.foldl addK w)
  | [], m, w => rfl
  | x :: l, m, w => by
    rw [List.foldl_cons, foldK_once l (addP m x) w, List.foldl_cons]
    congr 1
    unfold addP
    by_cases h : m.contains x = true
    · rw [if_pos h]
      have hx : x ∈ m := by simpa using h
      have hm : x.2 ∈ m.foldl addK w := (mem_foldK m w x.2).mpr (.inr ⟨x, hx, rfl⟩)
      exact (if_pos (List.contains_iff_mem.mpr hm)).symm
    · rw [if_neg h, List.foldl_append]
      rfl
theorem foldK_one (l : List (Nat × Nat)) (w : List Nat) : (Oc01.once l).foldl addK w = l.foldl addK w := foldK_once l [] w
/-- what is told of pairs under another name for their second numbers -/
theorem once_map {g : Nat → Nat} : ∀ (l m : List (Nat × Nat)), (∀ x ∈ m ++ l, ∀ y ∈ m ++ l, g x.2 = g y.2 → x.2 = y.2) → (l.map fun x => (x.1, g x.2)).foldl addP (m.map fun x => (x.1, g x.2)) = (l.foldl addP m).map fun x => (x.1, g x.2)
  | [], m, _ => rfl
  | x :: l, m, h => by
    rw [List.map_cons, List.foldl_cons, List.foldl_cons]
    have e : addP (m.map fun x => (x.1, g x.2)) (x.1, g x.2) = (addP m x).map fun x => (x.1, g x.2) := by
      unfold addP
      have hc : (m.map fun x => (x.1, g x.2)).contains (x.1, g x.2) = m.contains x := by
        rw [Bool.eq_iff_iff]
        simp only [List.contains_iff_mem, List.mem_map]
        constructor
        · rintro ⟨y, hy, e⟩
          have e1 : y.1 = x.1 := (Prod.mk.inj e).1
          have e2 : g y.2 = g x.2 := (Prod.mk.inj e).2
          have e3 := h y (List.mem_append_left _ hy) x (List.mem_append_right _ List.mem_cons_self) e2
          have : y = x := Prod.ext e1 e3
          rw [← this]
          exact hy
        · intro hx
          exact ⟨x, hx, rfl⟩
      rw [hc]
      split
      · rfl
      · rw [List.map_append]
        rfl
    rw [e]
    refine once_map l (addP m x) fun a ha b hb => h a ?_ b ?_
    · rcases List.mem_append.mp ha with ha | ha
      · rcases mem_addP.mp ha with ha | rfl
        · exact List.mem_append_left _ ha
        · exact List.mem_append_right _ List.mem_cons_self
      · exact List.mem_append_right _ (List.mem_cons_of_mem _ ha)
    · rcases List.mem_append.mp hb with hb | hb
      · rcases mem_addP.mp hb with hb | rfl
        · exact List.mem_append_left _ hb
        · exact List.mem_append_right _ List.mem_cons_self
      · exact List.mem_append_right _ (List.mem_cons_of_mem _ hb)
/-! ### gathering -/
theorem gather_succ (at_ : List C) (l : List Nat) (n i : Nat) (w : List Nat) : Oc01.gather at_ l (n + 1) i w = match w[i]? with
  | none => w
  | some t => Oc01.gather at_ l n (i + 1) ((Oc01.needs at_ l t).foldl addK w) := rfl
theorem gather_end {at_ : List C} {l : List Nat} {n i : Nat} {w : List Nat} (h : w.length ≤ i) : Oc01.gather at_ l n i w = w := by
  cases n with
  | zero => rfl
  | succ n =>
    rw [gather_succ, List.getElem?_eq_none h]
theorem sub_len : ∀ (w l : List Nat), w.Nodup → (∀ x ∈ w, x ∈ l) → w.length ≤ l.length
  | [], l, _, _ => Nat.zero_le _
  | a :: w, l, hn, hs => by
    obtain ⟨h1, h2⟩ := List.nodup_cons.mp hn
    have ha := hs a List.mem_cons_self
    have := sub_len w (l.erase a) h2 fun x hx => (List.mem_erase_of_ne fun z => h1 (by rw [← z]; exact hx)).mpr (hs x (List.mem_cons_of_mem _ hx))
    rw [List.length_erase_of_mem ha] at this
    have hp : 0 < l.length := List.length_pos_of_mem ha
    rw [List.length_cons]
    omega
/-! ### names -/
theorem sum4 : ∀ L : List Nat, L.Nodup → (∀ a ∈ L, a < 4) → L.foldl (fun n a => n + 2 ^ a) 0 = (if 0 ∈ L then 1 else 0) + (if 1 ∈ L then 2 else 0) + (if 2 ∈ L then 4 else 0) + (if 3 ∈ L then 8 else 0) := by
  have base : ∀ (L : List Nat) (k : Nat), L.foldl (fun n a => n + 2 ^ a) k = k + L.foldl (fun n a => n + 2 ^ a) 0 := by
    intro L
    induction L with
    | nil => intro k; rfl
    | cons a L ih =>
      intro k
      rw [List.foldl_cons, List.foldl_cons, ih, ih (0 + 2 ^ a)]
      omega
  intro L
  induction L with
  | nil => intro _ _; rfl
  | cons a L ih =>
    intro hn hl
    obtain ⟨h1, h2⟩ := List.nodup_cons.mp hn
    have ha := hl a List.mem_cons_self
    have := ih h2 fun x hx => hl x (List.mem_cons_of_mem _ hx)
    rw [List.foldl_cons, base, this]
    match a, ha, h1 with
    | 0, _, h1 => simp [h1]; omega
    | 1, _, h1 => simp [h1]; omega
    | 2, _, h1 => simp [h1]; omega
    | 3, _, h1 => simp [h1]; omega
def nameOf (at_ : List C) (t : Nat) (x : C) : Option Nat := match x with
  | .name a => if Oc.holds at_ t (.name a) = true then some a else none
  | _ => none
theorem names_eq {at_ : List C} (g : Good at_) (t : Nat) : (at_.filterMap (nameOf at_ t)).foldl (fun n a => n + 2 ^ a) 0 = Oc01.namesOf at_ t := by
  have mem1 : ∀ a, a ∈ at_.filterMap (nameOf at_ t) ↔ Oc.holds at_ t (.name a) = true := fun a => by
    rw [List.mem_filterMap]
    constructor
    · rintro ⟨x, hx, h⟩
      unfold nameOf at h
      split at h
      · split at h
        · cases h
          assumption
        · cases h
      · cases h
    · intro h
      have hm : C.name a ∈ at_ := by
        by_cases q : C.name a ∈ at_
        · exact q
        · have : at_.idxOf? (C.name a) = none := List.idxOf?_eq_none_iff.mpr q
          simp only [Oc.holds, this] at h
          cases h
      exact ⟨.name a, hm, by simp only [nameOf, h, if_true]⟩
  have lt1 : ∀ a ∈ at_.filterMap (nameOf at_ t), a < 4 := fun a ha => by
    obtain ⟨x, hx, h⟩ := List.mem_filterMap.mp ha
    unfold nameOf at h
    split at h
    · split at h
      · cases h
        exact g.ok _ hx
      · cases h
    · cases h
  have nd1 : ∀ l : List C, l.Nodup → (l.filterMap (nameOf at_ t)).Nodup := by
    intro l
    induction l with
    | nil => intro _; exact List.nodup_nil
    | cons x l ih =>
      intro hn
      obtain ⟨h1, h2⟩ := List.nodup_cons.mp hn
      rw [List.filterMap_cons]
      cases q : nameOf at_ t x with
      | none => exact ih h2
      | some a =>
        refine List.nodup_cons.mpr ⟨fun z => ?_, ih h2⟩
        obtain ⟨y, hy, hya⟩ := List.mem_filterMap.mp z
        have ex : x = .name a := by
          unfold nameOf at q
          split at q
          · split at q
            · cases q; rfl
            · cases q
          · cases q
        have ey : y = .name a := by
          unfold nameOf at hya
          split at hya
          · split at hya
            · cases hya; rfl
            · cases hya
          · cases hya
        rw [ex, ← ey] at h1
        exact h1 hy
  unfold Oc01.namesOf
  have s2 := sum4 ((List.range Oc.NAMES).filter fun a => Oc.holds at_ t (.name a)) (List.nodup_range.filter _) fun a ha => List.mem_range.mp (List.mem_filter.mp ha).1
  rw [sum4 _ (nd1 at_ g.nd) lt1, s2]
  have mem2 : ∀ a, a < 4 → (a ∈ ((List.range Oc.NAMES).filter fun a => Oc.holds at_ t (.name a)) ↔ Oc.holds at_ t (.name a) = true) := fun a ha => by
    rw [List.mem_filter]
    constructor
    · exact fun z => z.2
    · exact fun z => ⟨List.mem_range.mpr ha, z⟩
  simp only [mem1, mem2 0 (by decide), mem2 1 (by decide), mem2 2 (by decide), mem2 3 (by decide)]
end Bk

namespace Bk
open PySem PySem.Spec PyProof.Rows L2 Evl
/-! ### words of my own over the layer -/
/-- what a value is, behind an expression that only makes new things -/
def EvP (te : TE) (σ : L2.St) (H : Hp) (Φ : V → Hp → Prop) : Prop := ∀ H1, Ex H H1 → ∀ Q : VK, (∀ v H2, Ex H1 H2 → Φ v H2 → Q v H2) → te σ H1 Q
def SpP (sp : Sp) (vs : List V) (H : Hp) (Φ : V → Hp → Prop) : Prop := ∀ H1, Ex H H1 → ∀ Q : VK, (∀ v H2, Ex H1 H2 → Φ v H2 → Q v H2) → ∀ E : XK, sp vs H1 Q E
/-- a promise's end: a value and what is so of it -/
def Ret (H : Hp) (Q : VK) (Φ : V → Hp → Prop) : Prop := ∀ v H2, Ex H H2 → Φ v H2 → Q v H2
section
variable {K : PySem.W.Frag} {σ : L2.St} {H H' : Hp} {ta tb te tx : TE} {t u : TT} {x y z v : V} {r : R2} {Φ Ψ : V → Hp → Prop}
theorem EvP.mono (e : Ex H H') (h : EvP te σ H Φ) : EvP te σ H' Φ := fun H1 a Q q => h H1 (e.trans a) Q q
theorem evp_ev (h : Ev te σ H v) (hΦ : ∀ H1, Ex H H1 → Φ v H1) : EvP te σ H Φ := fun H1 e Q q => h H1 e Q fun H2 e2 => q v H2 e2 (hΦ H2 (e.trans e2))
theorem ev_evp (h : EvP te σ H fun w _ => w = v) : Ev te σ H v := fun H1 e Q q => h H1 e Q fun w H2 e2 hw => by subst hw; exact q H2 e2
theorem evp_call {sp : Sp} {vs : List V} {E : XK} {ta : TA} (h : EvA ta σ H vs) (hs : SpP sp vs H Φ) : EvP (tCall sp [] E ta) σ H Φ := fun H1 e Q q =>
  h H1 e _ fun H2 e2 => by
    rw [List.append_nil]
    exact hs H2 (e.trans e2) Q (fun v H3 e3 hv => q v H3 (e2.trans e3) hv) E
theorem ev_callP {sp : Sp} {vs : List V} {E : XK} {ta : TA} (h : EvA ta σ H vs) (hs : SpP sp vs H fun w _ => w = z) : Ev (tCall sp [] E ta) σ H z := ev_evp (evp_call h hs)
/-- an argument that is a new thing -/
theorem evp_call1 {sp : Sp} {E : XK} (h : EvP ta σ H Φ) (hs : ∀ v H1, Ex H H1 → Φ v H1 → SpP sp [v] H1 Ψ) : EvP (tCall sp [] E (tCons ta tNil)) σ H Ψ := fun H1 e Q q =>
  h H1 e _ fun v H2 e2 hv => hs v H2 (e.trans e2) hv H2 (Ex.refl H2) Q (fun v H3 e3 hv => q v H3 (e2.trans e3) hv) E
theorem evp_opP {r : R2} (ha : EvP ta σ H Φ) (hb : Ev tb σ H y) (hr : ∀ v H1, Ex H H1 → Φ v H1 → RV r v y H1 z) : Ev (tOp r ta tb) σ H z := fun H1 e Q q =>
  ha H1 e _ fun v H2 e2 hv => hb H2 (e.trans e2) _ fun H3 e3 => hr v H2 (e.trans e2) hv H3 e3 Q fun H4 e4 => q H4 ((e2.trans e3).trans e4)
variable {D : Ends} {tu tw tz : TS} {g : TG}
theorem s_asgP {i : Nat} (h : EvP te σ H Φ) (k : ∀ v H1, Ex H H1 → Φ v H1 → D.nx (σ.set i (some v)) H1) : tAsg te (gName i) D σ H := h H (Ex.refl H) _ k
theorem q_asgP {i : Nat} (h : EvP te σ H Φ) (k : ∀ v H1, Ex H H1 → Φ v H1 → tz D (σ.set i (some v)) H1) : tSeq (tAsg te (gName i)) tz D σ H := s_asgP (D := { D with nx := tz D }) h k
theorem s_retP (h : EvP te σ H Φ) (k : ∀ v H1, Ex H H1 → Φ v H1 → D.rt v H1) : tRet te D σ H := h H (Ex.refl H) _ k
end
/-- a number that is not below 0 -/
def vN (n : Nat) : V := .int (n : Int)
/-- a list or a tuple of numbers -/
def Nums (K : PySem.W.Frag) (H : Hp) (a : Addr) (ns : List Nat) : Prop := SqL K H a (ns.map vN) ∨ SqT K H a (ns.map vN)
theorem Nums.mono {K : PySem.W.Frag} {H H' : Hp} {a : Addr} {ns : List Nat} (e : Ex H H') (h : Nums K H a ns) : Nums K H' a ns := by
  rcases h with h | h
  · exact .inl (ex_l e h)
  · exact .inr (ex_t e h)
section
variable {K : PySem.W.Frag} {σ : L2.St} {H H' : Hp} {ta tb te : TE}
theorem atN {ns : List Nat} {i n : Nat} (h : ns[i]? = some n) : atI (ns.map vN) (i : Int) = some (vN n) := atI_nat (by rw [List.getElem?_map, h]; rfl)
theorem rv_nums {a : Addr} {ns : List Nat} {i n : Nat} (h : Nums K H a ns) (hi : ns[i]? = some n) : RV (rIx K) (.ref a) (.int (i : Int)) H (vN n) := fun H1 e Q q => by
  rcases h.mono e with h | h
  · exact .inl ⟨a, _, _, _, rfl, rfl, h, atN hi, q H1 (Ex.refl H1)⟩
  · exact .inr (.inl ⟨a, _, _, _, rfl, rfl, h, atN hi, q H1 (Ex.refl H1)⟩)
theorem ev_lenN2 {a : Addr} {ns : List Nat} (ha : Ev ta σ H (.ref a)) (h : Nums K H a ns) : Ev (tCB (rLenS K) (tCons ta tNil)) σ H (.int (ns.length : Int)) := fun H1 e Q q =>
  ha H1 e _ fun H2 e2 => ⟨a, ns.map vN, rfl, h.mono (e.trans e2), by rw [List.length_map]; exact q H2 e2⟩
theorem ev_lenT {a : Addr} {xs : List V} (ha : Ev ta σ H (.ref a)) (h : SqT K H a xs) : Ev (tCB (rLenS K) (tCons ta tNil)) σ H (.int (xs.length : Int)) := fun H1 e Q q =>
  ha H1 e _ fun H2 e2 => ⟨a, xs, rfl, Or.inr (ex_t (e.trans e2) h), q H2 e2⟩
end
/-- what a name of the module stands for -/
structure Cst (mg : Str → Option Value) (x : Str) (v : V) : Prop where
  ex : ∃ u, mg x = some u ∧ RelV v u
theorem pe_cst {X : Cx} {x : Str} {v : V} {pos : Pos} (h : Cst X.mg x v) (hg : Gl X x := by rfl) (hd : (x == ("__debug__" : Str)) = false := by decide) : PE X (.Name x pos) (tC v) := by
  obtain ⟨u, h1, h2⟩ := h.ex
  exact pe_glob hg h1 h2 hd
/-- a def of the module, ready to be called -/
structure Use (P : Program) (w : World) (K : PySem.W.Frag) (mg : Str → Option Value) (base : Heap) (k : Nat) (x : Str) (ps : List Str) (sp : Sp) : Prop where
  ex : ∃ (f : Addr) (fd : FuncData), mg x = some (.ref f) ∧ PySem.W.keepIn K (.ref f) = true ∧ Binds K fd ps [] ∧ FnOk P w K mg base CX0 k f fd ps sp
theorem pe_use {X : Cx} {k : Nat} {x : Str} {ps : List Str} {sp : Sp} {p pos : Pos} {e : Expr} {es : List Expr} {t : TA} (u : Use X.prog X.w X.K X.mg X.base k x ps sp) (hr : Room k X.A) (ha : PA X (e :: es) t) (hg : Gl X x := by rfl)
    (hdb : (x == ("__debug__" : Str)) = false := by decide) (he : starEach (e :: es) X.env = (false, eval e X.env) :: starEach es X.env := by rfl) (hpl : (backTo pos (starEach es X.env)).any (·.1) = false := by rfl) :
    PE X (.Call (.Name x p) (e :: es) [] pos) (tCall sp [] E0 t) := by
  obtain ⟨f, fd, h1, h2, h3, h4⟩ := u.ex
  exact pe_call h4 hr hg h1 h2 h3 .nil pass0 ha hdb he hpl
theorem pe_len {X : Cx} {e : Expr} {p pos : Pos} {ta : TE} (hm : X.mg "len" = none) (ha : PE X e ta) (hg : Gl X "len" := by rfl) (he : starEach [e] X.env = (false, eval e X.env) :: starEach [] X.env := by rfl) :
    PE X (.Call (.Name "len" p) [e] [] pos) (tCB (rLenS X.K) (tCons ta tNil)) := pe_callB call_len_seq hg hm PySem.boot_len (pa_cons ha pa_nil (hs := he)) (he := he)
/-! ### the text -/
def top (i : Nat) : Stmt := PySem.Challenge.pw_believedkinds_s01_answers.main.body.getD i (.Pass ⟨0, 0, 0, 0⟩)
abbrev s_is_atom : Stmt := top 10
abbrev s_head_width : Stmt := top 11
abbrev s_concept_end : Stmt := top 12
abbrev s_read_concepts : Stmt := top 13
abbrev s_head_places : Stmt := top 14
abbrev s_part_at : Stmt := top 15
abbrev s_inside : Stmt := top 16
abbrev s_atoms_of : Stmt := top 17
/-- what the top has left: constants, built-ins -/
structure Txt (K : PySem.W.Frag) (mg : Str → Option Value) : Prop where
  len : mg "len" = none
  tuple : mg "tuple" = none
  list : mg "list" = none
  range : mg "range" = none
  reversed : mg "reversed" = none
  enumerate : mg "enumerate" = none
  kEVERYTHING : Cst mg "EVERYTHING" (.int 0)
  kBOTH : Cst mg "BOTH" (.int 3)
  kEITHER : Cst mg "EITHER" (.int 4)
  kNOT : Cst mg "NOT" (.int 5)
  kNAME : Cst mg "NAME" (.int 2)
  kSOME : Cst mg "SOME" (.int 6)
  kALL : Cst mg "ALL" (.int 7)
  kPARTS : ∃ a, Cst mg "PARTS" (.ref a) ∧ ∀ H, SqT K H a ([0, 0, 0, 2, 2, 1, 1, 1].map vN)
  kCHOICES : ∃ a, Cst mg "CHOICES" (.ref a) ∧ ∀ H, SqT K H a ([0, 0, 4, 0, 0, 0, 2, 2].map vN)
section
variable {P : Program} {w : World} {K : PySem.W.Frag} {mg : Str → Option Value} {base : Heap}
/-! ### is_atom -/
def spIsAtom : Sp := fun vs H Q _ => ∃ h : Nat, vs = [vN h] ∧ Ret H Q fun v _ => v = .bl (decide (h = 2 ∨ h = 6 ∨ h = 7))
theorem sc_is_atom : FnScope ["head"] ["head"] (defScope s_is_atom) := ⟨rfl, rfl, rfl, by decide +kernel, rfl, by decide +kernel, by decide +kernel⟩
theorem dec_nat {a b : Nat} : decide (V.int (a : Int) = V.int (b : Int)) = decide (a = b) := by
  by_cases h : a = b
  · subst h
    rw [decide_eq_true rfl, decide_eq_true rfl]
  · rw [decide_eq_false h, decide_eq_false]
    intro q
    exact h (by have := V.int.inj q; omega)
theorem ok_is_atom {f : Addr} {fd : FuncData} (F : Fun K "is_atom" "is_atom" s_is_atom f fd) (T : Txt K mg) : FnOk P w K mg base CX0 1 f fd ["head"] spIsAtom := by
  refine F.ok sc_is_atom (fun vs H Q E h => ?_) (fun cdv A outer s H vs Q E hr h => ⟨_, pss_one (ps_ret (pe_or (pe_cmpR op_eq (pv 0) (pe_cst T.kNAME) (nomark _)) (pe_or (pe_cmpR op_eq (pv 0) (pe_cst T.kSOME) (nomark _)) (pe_one (pe_cmpR op_eq (pv 0) (pe_cst T.kALL) (nomark _)))))), ?_⟩)
  · obtain ⟨h, rfl, _⟩ := h
    rfl
  · obtain ⟨h, rfl, k⟩ := h
    refine s_ret (v := .bl (decide (h = 2 ∨ h = 6 ∨ h = 7))) (ev_is (ev_orV (ev_op (ev_var rfl) ev_c (rv_eq rfl)) fun _ => ev_orV (ev_op (ev_var rfl) ev_c (rv_eq rfl)) fun _ => ev_op (ev_var rfl) ev_c (rv_eq rfl)) ?_) fun H1 e => k _ H1 e rfl
    show V.bl (decide (V.int (h : Int) = V.int ((2 : Nat) : Int)) || (decide (V.int (h : Int) = V.int ((6 : Nat) : Int)) || decide (V.int (h : Int) = V.int ((7 : Nat) : Int)))) = _
    rw [dec_nat, dec_nat, dec_nat]
    congr 1
    rw [Bool.eq_iff_iff]
    simp
end
end Bk

namespace Bk
open PySem PySem.Spec PyProof.Rows L2 Evl
section
variable {P : Program} {w : World} {K : PySem.W.Frag} {mg : Str → Option Value} {base : Heap}
theorem SpP.of {sp : Sp} {vs : List V} {H : Hp} {Φ : V → Hp → Prop} (h : ∀ H1, Ex H H1 → ∀ Q : VK, Ret H1 Q Φ → ∀ E : XK, sp vs H1 Q E) : SpP sp vs H Φ := h
/-! ### head_width -/
def spHW (K : PySem.W.Frag) : Sp := fun vs H Q _ => ∃ (a : Addr) (ns : List Nat) (p : Nat), vs = [.ref a, vN p] ∧ Nums K H a ns ∧ Ret H Q fun v _ => v = vN (hw (ns.drop p))
theorem sp_hw {H : Hp} {a : Addr} {ns : List Nat} {p : Nat} (h : Nums K H a ns) : SpP (spHW K) [.ref a, vN p] H fun v _ => v = vN (hw (ns.drop p)) := fun H1 e Q q E => ⟨a, ns, p, rfl, h.mono e, q⟩
theorem sc_head_width : FnScope ["numbers", "place", "choices"] ["numbers", "place"] (defScope s_head_width) := ⟨rfl, rfl, rfl, by decide +kernel, rfl, by decide +kernel, by decide +kernel⟩
theorem parts_at {h : Nat} (hh : h < 8) : ([0, 0, 0, 2, 2, 1, 1, 1] : List Nat)[h]? = some (parts h) := by
  match h, hh with
  | 0, _ => rfl
  | 1, _ => rfl
  | 2, _ => rfl
  | 3, _ => rfl
  | 4, _ => rfl
  | 5, _ => rfl
  | 6, _ => rfl
  | 7, _ => rfl
theorem choices_at {h : Nat} (hh : h < 8) : ([0, 0, 4, 0, 0, 0, 2, 2] : List Nat)[h]? = some (choices h) := by
  match h, hh with
  | 0, _ => rfl
  | 1, _ => rfl
  | 2, _ => rfl
  | 3, _ => rfl
  | 4, _ => rfl
  | 5, _ => rfl
  | 6, _ => rfl
  | 7, _ => rfl
theorem drop_at {ns : List Nat} {p h : Nat} (e : ns[p]? = some h) : ns.drop p = h :: ns.drop (p + 1) := by
  obtain ⟨hp, e⟩ := List.getElem?_eq_some_iff.mp e
  rw [List.drop_eq_getElem_cons hp, e]
theorem ok_head_width {f : Addr} {fd : FuncData} (F : Fun K "head_width" "head_width" s_head_width f fd) (T : Txt K mg) : FnOk P w K mg base CX0 1 f fd ["numbers", "place"] (spHW K) := by
  obtain ⟨aP, gP, qP⟩ := T.kPARTS
  obtain ⟨aC, gC, qC⟩ := T.kCHOICES
  refine F.ok sc_head_width (fun vs H Q E h => ?_) (fun cdv A outer s H vs Q E hr h => ⟨_, pss_cons (ps_if (PW.pt (pw_or (pt_cmpR op_ge (pv 1) (pe_len T.len (pv 0)) (nomark _)) (pw_or1 (pt_cmpR op_ge (pe_ix ix_seq (pv 0) (pv 1) (fun _ _ => rfl)) (pe_len T.len (pe_cst gP)) (nomark _))))) (pss_one (ps_ret pe_int)) pss_nil)
    (pss_cons (ps_set (i := 2) sc_head_width.nd rfl (.inl rfl) (pe_ix ix_tup (pe_cst gC) (pe_ix ix_seq (pv 0) (pv 1) (fun _ _ => rfl)) (fun _ _ => rfl)))
    (pss_cons (ps_if (pt_cmpR op_eq (pv 2) pe_int (nomark _)) (pss_one (ps_ret pe_int)) pss_nil)
    (pss_cons (ps_if (PW.pt (pw_and (pt_cmpR op_lt (pe_op op_add (pv 1) pe_int) (pe_len T.len (pv 0)) (nomark _)) (pw_and1 (pt_cmpR op_lt (pe_ix ix_seq (pv 0) (pe_op op_add (pv 1) pe_int) (fun _ _ => rfl)) (pv 2) (nomark _))))) (pss_one (ps_ret pe_int)) pss_nil)
    (pss_one (ps_ret pe_int))))), ?_⟩)
  · obtain ⟨a, ns, p, rfl, _⟩ := h
    rfl
  · obtain ⟨a, ns, p, rfl, hn, k⟩ := h
    refine q_when (et_or (et_test (ev_op (ev_var rfl) (ev_lenN2 (ev_var rfl) hn) rv_I0)) (b := decide (8 ≤ (ns[p]?).getD 0)) fun hb => ?_) (fun hb H1 e1 => ?_) (fun hb H1 e1 => ?_)
    · have hp : p < ns.length := by
        have := of_decide_eq_false hb
        omega
      rw [List.getElem?_eq_getElem hp]
      refine et_is (et_test (ev_op (ev_op (ev_var rfl) (ev_var rfl) (rv_nums hn (List.getElem?_eq_getElem hp))) (ev_lenT ev_c (qP H)) rv_I0)) ?_
      show decide (((8 : Nat) : Int) ≤ (ns[p] : Int)) = decide (8 ≤ ns[p])
      rw [decide_eq_decide]
      omega
    · refine s_ret ev_c fun H2 e2 => k _ H2 (e1.trans e2) ?_
      show V.int 0 = vN (hw (ns.drop p))
      by_cases hp : p < ns.length
      · have h1 := of_decide_eq_true ((Bool.or_eq_true_iff.mp hb).resolve_left fun q => by have := of_decide_eq_true q; omega)
        rw [List.getElem?_eq_getElem hp] at h1
        have h2 : 8 ≤ ns[p] := h1
        rw [drop_at (List.getElem?_eq_getElem hp)]
        simp [hw, h2, vN]
      · rw [List.drop_eq_nil_of_le (by omega)]
        rfl
    · obtain ⟨b1, b2⟩ := Bool.or_eq_false_iff.mp hb
      have hp : p < ns.length := by
        have := of_decide_eq_false b1
        omega
      obtain ⟨h, eh⟩ : ∃ h, ns[p]? = some h := ⟨_, List.getElem?_eq_getElem hp⟩
      have h8 : h < 8 := by
        have := of_decide_eq_false b2
        rw [eh] at this
        simp at this
        exact this
      have hn1 := hn.mono e1
      refine q_asg (ev_op ev_c (ev_op (ev_var rfl) (ev_var rfl) (rv_nums hn1 eh)) (rv_ixT (qC H1) (atN (choices_at h8)))) fun H2 e2 => ?_
      have hn2 := hn1.mono e2
      refine q_when (et_is (et_test (ev_op (ev_var rfl) ev_c (rv_eq rfl))) (dec_nat (a := choices h) (b := 0))) (fun hb H3 e3 => ?_) (fun hb H3 e3 => ?_)
      · refine s_ret ev_c fun H4 e4 => k _ H4 (((e1.trans e2).trans e3).trans e4) ?_
        show V.int 1 = vN (hw (ns.drop p))
        rw [drop_at eh]
        have h8' : ¬ 8 ≤ h := by omega
        simp [hw, h8', of_decide_eq_true hb, vN]
      · have hn3 := hn2.mono e3
        have hc := of_decide_eq_false hb
        have h8' : ¬ 8 ≤ h := by omega
        refine q_when (et_and (et_test (ev_op (ev_op (ev_var rfl) ev_c rv_I0) (ev_lenN2 (ev_var rfl) hn3) rv_I0)) (b := decide ((ns[p + 1]?).getD 0 < choices h)) fun hb => ?_) (fun hb H4 e4 => ?_) (fun hb H4 e4 => ?_)
        · have hp1 : p + 1 < ns.length := by
            have := of_decide_eq_true hb
            omega
          rw [List.getElem?_eq_getElem hp1]
          refine et_is (et_test (ev_op (ev_op (ev_var rfl) (ev_op (ev_var rfl) ev_c rv_I0) (rv_nums (i := p + 1) hn3 (List.getElem?_eq_getElem hp1))) (ev_var rfl) rv_I0)) ?_
          show decide ((ns[p + 1] : Int) < (choices h : Int)) = decide (ns[p + 1] < choices h)
          rw [decide_eq_decide]
          omega
        · obtain ⟨c1, c2⟩ := Bool.and_eq_true_iff.mp hb
          have hp1 : p + 1 < ns.length := by
            have := of_decide_eq_true c1
            omega
          refine s_ret ev_c fun H5 e5 => k _ H5 ((((e1.trans e2).trans e3).trans e4).trans e5) ?_
          show V.int 2 = vN (hw (ns.drop p))
          have c3 := of_decide_eq_true c2
          rw [List.getElem?_eq_getElem hp1] at c3
          have c4 : ns[p + 1] < choices h := c3
          rw [drop_at eh, drop_at (List.getElem?_eq_getElem hp1)]
          simp [hw, h8', hc, c4, vN]
        · refine s_ret ev_c fun H5 e5 => k _ H5 ((((e1.trans e2).trans e3).trans e4).trans e5) ?_
          show V.int 0 = vN (hw (ns.drop p))
          rw [drop_at eh]
          by_cases hp1 : p + 1 < ns.length
          · rw [List.getElem?_eq_getElem hp1] at hb
            have c4 : ¬ ns[p + 1] < choices h := by
              intro q
              rw [decide_eq_true (p := ((p : Int) + 1 < (ns.length : Int))) (by omega), decide_eq_true (show (some ns[p + 1]).getD 0 < choices h from q)] at hb
              cases hb
            rw [drop_at (List.getElem?_eq_getElem hp1)]
            simp [hw, h8', hc, c4, vN]
          · rw [List.drop_eq_nil_of_le (show ns.length ≤ p + 1 by omega)]
            simp [hw, h8', hc, vN]
end
end Bk

namespace Bk
open PySem PySem.Spec PyProof.Rows L2 Evl
section
variable {P : Program} {w : World} {K : PySem.W.Frag} {mg : Str → Option Value} {base : Heap}
/-! ### concept_end -/
def cend (ns : List Nat) (p : Nat) : Int := match go 1 (ns.drop p) with
  | none => -1
  | some r => (ns.length : Int) - (r.length : Int)
def spCE (K : PySem.W.Frag) : Sp := fun vs H Q _ => ∃ (a : Addr) (ns : List Nat) (p : Nat), vs = [.ref a, vN p] ∧ Nums K H a ns ∧ p ≤ ns.length ∧ Ret H Q fun v _ => v = .int (cend ns p)
theorem sp_ce {H : Hp} {a : Addr} {ns : List Nat} {p : Nat} (h : Nums K H a ns) (hp : p ≤ ns.length) : SpP (spCE K) [.ref a, vN p] H fun v _ => v = .int (cend ns p) := fun H1 e Q q E => ⟨a, ns, p, rfl, h.mono e, hp, q⟩
theorem sc_concept_end : FnScope ["numbers", "start", "place", "awaited", "width"] ["numbers", "start"] (defScope s_concept_end) := ⟨rfl, rfl, rfl, by decide +kernel, rfl, by decide +kernel, by decide +kernel⟩
theorem hw_head {l : List Nat} (h : hw l ≠ 0) : ∃ a t, l = a :: t ∧ a < 8 := by
  match l, h with
  | [], h => exact absurd rfl h
  | a :: t, h =>
    refine ⟨a, t, rfl, ?_⟩
    by_cases q : 8 ≤ a
    · exact absurd (by simp [hw, q]) h
    · omega
theorem ok_concept_end {f : Addr} {fd : FuncData} (F : Fun K "concept_end" "concept_end" s_concept_end f fd) (T : Txt K mg) (uHW : Use P w K mg base 1 "head_width" ["numbers", "place"] (spHW K)) : FnOk P w K mg base CX0 2 f fd ["numbers", "start"] (spCE K) := by
  obtain ⟨aP, gP, qP⟩ := T.kPARTS
  refine F.ok sc_concept_end (fun vs H Q E h => ?_) (fun cdv A outer s H vs Q E hr h => ⟨_, pss_cons (ps_set (i := 2) sc_concept_end.nd rfl (.inl rfl) (pv 1)) (pss_cons (ps_set (i := 3) sc_concept_end.nd rfl (.inl rfl) pe_int)
    (pss_cons (ps_while PassesOwn.never (pt_cmpR op_gt (pv 3) pe_int (nomark _)) (pss_cons (ps_set (i := 4) sc_concept_end.nd rfl (.inl rfl) (pe_use uHW hr (pa_cons (pv 0) (pa_cons (pv 2) pa_nil))))
      (pss_cons (ps_if (pt_cmpR op_eq (pv 4) pe_int (nomark _)) (pss_one (ps_ret (pe_un un_neg pe_int))) pss_nil)
      (pss_cons (ps_aug (i := 3) sc_concept_end.nd rfl (.inl rfl) (pe_op op_sub (pe_ix ix_tup (pe_cst gP) (pe_ix ix_seq (pv 0) (pv 2) (fun _ _ => rfl)) (fun _ _ => rfl)) pe_int) ip_add)
      (pss_one (ps_aug (i := 2) sc_concept_end.nd rfl (.inl rfl) (pv 4) ip_add))))))
    (pss_one (ps_ret (pv 2))))), ?_⟩)
  · obtain ⟨a, ns, p, rfl, _⟩ := h
    rfl
  · obtain ⟨a, ns, p0, rfl, hn, hp0, k⟩ := h
    refine q_asg (ev_var rfl) fun H1 e1 => ?_
    refine q_asg ev_c fun H2 e2 => ?_
    refine q_while (fun m σ' H' => ∃ (p j : Nat) (zp zj : Int) (x : Option V), zp = (p : Int) ∧ zj = (j : Int) ∧ σ' = [some (.ref a), some (vN p0), some (.int zp), some (.int zj), x] ∧ p ≤ ns.length ∧ go j (ns.drop p) = go 1 (ns.drop p0) ∧ m = ns.length - p ∧ Ex H H') _ ⟨p0, 1, _, _, _, rfl, rfl, rfl, hp0, rfl, rfl, e1.trans e2⟩ ?_
    rintro m σ' H' ⟨p, j, zp, zj, x, rfl, rfl, rfl, hp, hg, rfl, e⟩
    have hn' := hn.mono e
    refine ⟨_, et_test (ev_op (ev_var rfl) ev_c rv_I0), fun hb H3 e3 => ?_, fun hb H3 e3 => ?_⟩
    · have hj : 0 < j := by
        have := of_decide_eq_true hb
        omega
      obtain ⟨j, rfl⟩ : ∃ i, j = i + 1 := ⟨j - 1, by omega⟩
      have hn3 := hn'.mono e3
      refine ⟨_, fun σ2 H2 n => n, ?_⟩
      refine q_asg (ev_callP (ea_cons (ev_var rfl) (ea_cons (ev_var rfl) ea_nil)) (sp_hw (p := p) hn3)) fun H4 e4 => ?_
      refine q_when (et_is (et_test (ev_op (ev_var rfl) ev_c (rv_eq rfl))) (dec_nat (a := hw (ns.drop p)) (b := 0))) (fun hb H5 e5 => ?_) (fun hb H5 e5 => ?_)
      · refine s_ret (ev_un ev_c ru_neg) fun H6 e6 => k _ H6 (e.trans (e3.trans (e4.trans (e5.trans e6)))) ?_
        unfold cend
        rw [← hg, go_no (of_decide_eq_true hb)]
      · have hz := of_decide_eq_false hb
        obtain ⟨h, t, eh, h8⟩ := hw_head hz
        have hl : p < ns.length := by
          have : (ns.drop p).length = ns.length - p := List.length_drop
          rw [eh, List.length_cons] at this
          omega
        have e8 : ns[p]? = some h := by
          have : (ns.drop p)[0]? = some h := by rw [eh]; rfl
          rw [List.getElem?_drop] at this
          exact this
        refine q_aug (b := (parts h : Int) - 1) rfl (ev_op (ev_op ev_c (ev_op (ev_var rfl) (ev_var rfl) (rv_nums (hn3.mono (e4.trans e5)) e8)) (rv_ixT (qP H5) (atN (parts_at h8)))) ev_c rv_I0) fun H6 e6 => ?_
        refine s_aug rfl (ev_var rfl) fun H7 e7 => ?_
        have hle := hw_le (ns.drop p)
        rw [List.length_drop] at hle
        refine ⟨_, ?_, p + hw (ns.drop p), j + parts h, _, _, _, ?_, ?_, rfl, by omega, ?_, rfl, e.trans (e3.trans (e4.trans (e5.trans (e6.trans e7))))⟩
        · omega
        · show ((p : Int) + (hw (ns.drop p) : Int)) = _
          omega
        · show ((j + 1 : Nat) : Int) + ((parts h : Int) - 1) = _
          omega
        · rw [← hg, go_yes hz, List.drop_drop, eh]
          rfl
    · have hj : j = 0 := by
        have := of_decide_eq_false hb
        omega
      subst hj
      refine s_ret (ev_var rfl) fun H4 e4 => k _ H4 (e.trans (e3.trans e4)) ?_
      unfold cend
      rw [← hg, go_zero]
      show V.int (p : Int) = V.int ((ns.length : Int) - ((ns.drop p).length : Int))
      rw [List.length_drop]
      congr 1
      omega
/-! ### head_places -/
def spHP (K : PySem.W.Frag) : Sp := fun vs H Q _ => ∃ (a : Addr) (c : Oc.C), vs = [.ref a] ∧ SqT K H a ((enc c).map vN) ∧ Ok c ∧ (enc c).length ≤ 1000 ∧ RetL (((subsAt 0 c).map (·.1)).map vN) H Q
theorem sp_hp {H : Hp} {a : Addr} {c : Oc.C} (h : SqT K H a ((enc c).map vN)) (ho : Ok c) (hl : (enc c).length ≤ 1000) : SpL (spHP K) [.ref a] H (((subsAt 0 c).map (·.1)).map vN) := fun H1 e Q q E => ⟨a, c, rfl, ex_t e h, ho, hl, q⟩
theorem sc_head_places : FnScope ["concept", "places", "place"] ["concept"] (defScope s_head_places) := ⟨rfl, rfl, rfl, by decide +kernel, rfl, by decide +kernel, by decide +kernel⟩
theorem heads_len : ∀ (n : Nat) (l : List Nat), l.length ≤ n → ∀ p, (heads p l).length ≤ n := by
  intro n
  induction n with
  | zero =>
    intro l h p
    have e : l = [] := List.length_eq_zero_iff.mp (by omega)
    subst e
    rw [heads_nil]
    exact Nat.le_refl 0
  | succ n ih =>
    intro l h p
    by_cases q : hw l = 0
    · rw [heads, dif_pos q]
      exact Nat.zero_le _
    · rw [heads_yes q, List.length_cons]
      have := ih (l.drop (hw l)) (by rw [List.length_drop]; omega) (p + hw l)
      omega
theorem hw_pos {k : Nat} {l : List Nat} {cs : List Oc.C} (h : l = (cs.map enc).flatten) (hc : ∀ c ∈ cs, Ok c) (hl : l ≠ []) : hw l ≠ 0 := by
  match cs, h, hc with
  | [], h, _ => exact absurd h hl
  | c :: cs, h, hc =>
    have o := hc c List.mem_cons_self
    intro q
    have e := go_enc c o 0 ((cs.map enc).flatten)
    have h' : l = enc c ++ (cs.map enc).flatten := h
    rw [← h', go_no q, go_zero] at e
    cases e
theorem hw_enc {c : Oc.C} (o : Ok c) (r : List Nat) : hw (enc c ++ r) ≠ 0 := fun q => by
  have e := go_enc c o 0 r
  rw [go_no q, go_zero] at e
  cases e
/-- behind each head of a concept stand concepts yet -/
theorem go_some_pos {j : Nat} {l : List Nat} (h : (go j l).isSome = true) (hl : l ≠ []) (hr : go j l = some []) : hw l ≠ 0 := by
  cases j with
  | zero =>
    rw [go_zero] at hr
    exact absurd (Option.some.inj hr) hl
  | succ j =>
    intro q
    rw [go_no q] at hr
    cases hr
theorem ok_head_places {f : Addr} {fd : FuncData} (F : Fun K "head_places" "head_places" s_head_places f fd) (T : Txt K mg) (uHW : Use P w K mg base 1 "head_width" ["numbers", "place"] (spHW K)) : FnOk P w K mg base CX0 2 f fd ["concept"] (spHP K) := by
  refine F.ok sc_head_places (fun vs H Q E h => ?_) (fun cdv A outer s H vs Q E hr h => ⟨_, pss_cons (ps_set (i := 1) sc_head_places.nd rfl (.inl rfl) (pe_lst pa_nil)) (pss_cons (ps_set (i := 2) sc_head_places.nd rfl (.inl rfl) pe_int)
    (pss_cons (ps_while PassesOwn.never (pt_cmpR op_lt (pv 2) (pe_len T.len (pv 0)) (nomark _)) (pss_cons (ps_expr (pe_bm PySem.F.plainAttrs_list PySem.F.slot_list_append PySem.F.type_list_append mt_append (pv 1) (pa_cons (pv 2) pa_nil)))
      (pss_one (ps_aug (i := 2) sc_head_places.nd rfl (.inl rfl) (pe_use uHW hr (pa_cons (pv 0) (pa_cons (pv 2) pa_nil))) ip_add))))
    (pss_one (ps_ret (pv 1))))), ?_⟩)
  · obtain ⟨a, c, rfl, _⟩ := h
    rfl
  · obtain ⟨a, c, rfl, hn, ho, hl, k⟩ := h
    refine q_asgL (el_lst ea_nil (by decide)) fun l H1 hl0 e1 h1 => ?_
    refine q_asg ev_c fun H2 e2 => ?_
    refine q_while (fun m σ' H' => ∃ (p j : Nat) (zp : Int) (ps : List Nat), zp = (p : Int) ∧ σ' = [some (.ref a), some (.ref l), some (.int zp)] ∧ p ≤ (enc c).length ∧ ps ++ heads p ((enc c).drop p) = heads 0 (enc c) ∧ go j ((enc c).drop p) = some [] ∧ m = (enc c).length - p ∧ Ex H H' ∧ H' l = some (.lst (ps.map vN))) _
      ⟨0, 1, _, [], rfl, rfl, Nat.zero_le _, rfl, ?_, rfl, e1.trans e2, e2 l _ h1⟩ ?_
    · have := go_enc c ho 0 []
      rw [List.append_nil, go_zero] at this
      exact this
    rintro m σ' H' ⟨p, j, zp, ps, rfl, rfl, hp, hh, hg, rfl, e, hL⟩
    have hn' : Nums K H' a (enc c) := .inr (ex_t e hn)
    refine ⟨_, et_test (ev_op (ev_var rfl) (ev_lenN2 (ev_var rfl) hn') rv_I0), fun hb H3 e3 => ?_, fun hb H3 e3 => ?_⟩
    · have hp' : p < (enc c).length := by
        have := of_decide_eq_true hb
        omega
      have hne : (enc c).drop p ≠ [] := fun q => by
        have := List.drop_eq_nil_iff.mp q
        omega
      have hz := go_some_pos (by rw [hg]; rfl) hne hg
      obtain ⟨j, rfl⟩ : ∃ i, j = i + 1 := by
        cases j with
        | zero =>
          rw [go_zero] at hg
          exact absurd (Option.some.inj hg) hne
        | succ i => exact ⟨i, rfl⟩
      have hlen : (ps ++ heads p ((enc c).drop p)).length ≤ 1000 := by
        rw [hh]
        exact Nat.le_trans (heads_len _ _ (Nat.le_refl _) 0) hl
      rw [List.length_append] at hlen
      refine ⟨_, fun σ2 H2 n => n, ?_⟩
      refine q_app (e3 l _ hL) (ev_var rfl) (ev_var rfl) (by rw [List.length_map]; omega) fun H4 e4 => ?_
      have e5 : Ex H (upd H4 l (.lst (ps.map vN ++ [.int (p : Int)]))) := Ex.mut (e.trans (e3.trans e4)) hl0
      have hn5 : Nums K (upd H4 l (.lst (ps.map vN ++ [.int (p : Int)]))) a (enc c) := .inr (ex_t e5 hn)
      refine s_aug rfl (ev_callP (ea_cons (ev_var rfl) (ea_cons (ev_var rfl) ea_nil)) (sp_hw (p := p) hn5)) fun H6 e6 => ?_
      have hle := hw_le ((enc c).drop p)
      rw [List.length_drop] at hle
      refine ⟨_, ?_, p + hw ((enc c).drop p), j + parts (((enc c).drop p).headD 0), _, ps ++ [p], ?_, rfl, by omega, ?_, ?_, rfl, e5.trans e6, ?_⟩
      · omega
      · show ((p : Int) + (hw ((enc c).drop p) : Int)) = _
        omega
      · rw [← hh, heads_yes hz, List.drop_drop, List.append_assoc]
        rfl
      · rw [← hg, go_yes hz, List.drop_drop]
      · rw [List.map_append]
        exact e6 l _ upd_same
    · have hp' : p = (enc c).length := by
        have := of_decide_eq_false hb
        omega
      subst hp'
      refine s_ret (ev_var rfl) fun H4 e4 => ?_
      refine k l H4 hl0 (e.trans (e3.trans e4)) ?_
      rw [List.drop_length, heads_nil, List.append_nil, heads_all ho] at hh
      rw [← hh]
      exact e4 l _ (e3 l _ hL)
end
end Bk

namespace Bk
open PySem PySem.Spec PyProof.Rows L2 Evl
open Oc (C)
/-! ### two lists, item by item -/
def All2 {α β : Type} (R : α → β → Prop) (xs : List α) (ys : List β) : Prop := xs.length = ys.length ∧ ∀ (i : Nat) (x : α) (y : β), xs[i]? = some x → ys[i]? = some y → R x y
section
variable {α β : Type} {R S : α → β → Prop} {xs : List α} {ys : List β}
theorem All2.nil : All2 R [] [] := ⟨rfl, fun i x y h => by simp at h⟩
theorem All2.mono (h : All2 R xs ys) (f : ∀ x y, R x y → S x y) : All2 S xs ys := ⟨h.1, fun i x y a b => f x y (h.2 i x y a b)⟩
theorem All2.append {xs' : List α} {ys' : List β} (h : All2 R xs ys) (h' : All2 R xs' ys') : All2 R (xs ++ xs') (ys ++ ys') := by
  refine ⟨by rw [List.length_append, List.length_append, h.1, h'.1], fun i x y a b => ?_⟩
  by_cases q : i < xs.length
  · rw [List.getElem?_append_left q] at a
    rw [List.getElem?_append_left (by rw [← h.1]; exact q)] at b
    exact h.2 i x y a b
  · rw [List.getElem?_append_right (by omega)] at a
    rw [List.getElem?_append_right (by rw [← h.1]; omega), ← h.1] at b
    exact h'.2 _ x y a b
theorem All2.one {x : α} {y : β} (r : R x y) : All2 R [x] [y] := ⟨rfl, fun i a b h1 h2 => by
  match i, h1, h2 with
  | 0, h1, h2 =>
    cases h1
    cases h2
    exact r⟩
theorem All2.snoc {x : α} {y : β} (h : All2 R xs ys) (r : R x y) : All2 R (xs ++ [x]) (ys ++ [y]) := h.append (.one r)
theorem All2.cons {x : α} {y : β} (r : R x y) (h : All2 R xs ys) : All2 R (x :: xs) (y :: ys) := All2.append (xs := [x]) (ys := [y]) (.one r) h
theorem All2.get (h : All2 R xs ys) {i : Nat} {y : β} (b : ys[i]? = some y) : ∃ x, xs[i]? = some x ∧ R x y := by
  have q : i < xs.length := by
    rw [h.1]
    exact (List.getElem?_eq_some_iff.mp b).1
  exact ⟨xs[i], List.getElem?_eq_getElem q, h.2 i _ _ (List.getElem?_eq_getElem q) b⟩
theorem All2.got (h : All2 R xs ys) {i : Nat} {x : α} (a : xs[i]? = some x) : ∃ y, ys[i]? = some y ∧ R x y := by
  have q : i < ys.length := by
    rw [← h.1]
    exact (List.getElem?_eq_some_iff.mp a).1
  exact ⟨ys[i], List.getElem?_eq_getElem q, h.2 i _ _ a (List.getElem?_eq_getElem q)⟩
theorem All2.tail {x : α} {y : β} (h : All2 R (x :: xs) (y :: ys)) : R x y ∧ All2 R xs ys := ⟨h.2 0 x y rfl rfl, by have := h.1; simpa using this, fun i a b h1 h2 => h.2 (i + 1) a b h1 h2⟩
end
/-! ### concepts in the heap -/
def CT (K : PySem.W.Frag) (H : Hp) (v : V) (c : C) : Prop := ∃ a, v = .ref a ∧ SqT K H a ((enc c).map vN)
theorem CT.mono {K : PySem.W.Frag} {H H' : Hp} {v : V} {c : C} (e : Ex H H') (h : CT K H v c) : CT K H' v c := by
  obtain ⟨a, rfl, q⟩ := h
  exact ⟨a, rfl, ex_t e q⟩
theorem sqT_upd {K : PySem.W.Frag} {H : Hp} {a l : Addr} {zs xs ys : List V} (hl : H l = some (.lst xs)) (h : SqT K H a zs) : SqT K (upd H l (.lst ys)) a zs := by
  rcases h with (h | ⟨o, h⟩) | h
  · exact .inl (.inl (by rw [upd_ne (ne_of h hl (by intro q; cases q))]; exact h))
  · exact .inl (.inr ⟨o, by rw [upd_ne (ne_of h hl (by intro q; cases q))]; exact h⟩)
  · exact .inr h
theorem CT.upd {K : PySem.W.Frag} {H : Hp} {l : Addr} {xs ys : List V} {v : V} {c : C} (hl : H l = some (.lst xs)) (h : CT K H v c) : CT K (upd H l (.lst ys)) v c := by
  obtain ⟨a, rfl, q⟩ := h
  exact ⟨a, rfl, sqT_upd hl q⟩
/-! ### concepts as data -/
def dN (ns : List Nat) : List PyData := ns.map fun (n : Nat) => PyData.int (n : Int)
def dC (c : C) : PyData := .tuple (dN (enc c))
theorem dN_eqv : ∀ ns ms : List Nat, PyData.eqvAll (dN ns) (dN ms) = decide (ns = ms)
  | [], [] => by simp [dN, PyData.eqvAll]
  | [], m :: ms => by simp [dN, PyData.eqvAll]
  | n :: ns, [] => by simp [dN, PyData.eqvAll]
  | n :: ns, m :: ms => by
    have ih := dN_eqv ns ms
    have e : PyData.eqvAll (dN (n :: ns)) (dN (m :: ms)) = (((n : Int) == (m : Int)) && PyData.eqvAll (dN ns) (dN ms)) := by simp only [dN, List.map_cons, PyData.eqvAll, PyData.eqv]
    rw [e, ih]
    by_cases h : n = m
    · subst h
      simp
    · have q : ((n : Int) == (m : Int)) = false := beq_eq_false_iff_ne.mpr (by omega)
      rw [q]
      simp [h]
theorem dC_eqv {c d : C} (hc : Ok c) (hd : Ok d) : PyData.eqv (dC c) (dC d) = decide (c = d) := by
  have e : PyData.eqv (dC c) (dC d) = PyData.eqvAll (dN (enc c)) (dN (enc d)) := by simp only [dC, PyData.eqv]
  rw [e, dN_eqv, decide_eq_decide]
  constructor
  · exact enc_inj hc hd
  · rintro rfl
    rfl
theorem dN_lay : ∀ ns : List Nat, PyData.canLayAll0 (dN ns) = true
  | [] => by simp [dN, PyData.canLayAll0]
  | n :: ns => by
    have := dN_lay ns
    simp only [dN, List.map_cons, PyData.canLayAll0, PyData.canLay0, Bool.true_and]
    exact this
theorem dN_depth : ∀ ns : List Nat, PyData.depthAll (dN ns) = 0
  | [] => by simp [dN, PyData.depthAll]
  | n :: ns => by
    have := dN_depth ns
    simp only [dN, List.map_cons, PyData.depthAll, PyData.depth, Nat.zero_max]
    exact this
theorem dC_shaped (c : C) : SeqAt.shaped (dC c) = true := by
  show ((dC c).canLay0 && decide ((dC c).depth ≤ 64)) = true
  have h1 : (dC c).canLay0 = true := by
    simp only [dC, PyData.canLay0]
    exact dN_lay _
  have h2 : (dC c).depth = 1 := by
    simp only [dC, PyData.depth, dN_depth]
  rw [h1, h2]
  decide
theorem dCs_lay : ∀ cs : List C, PyData.canLayAll0 (cs.map dC) = true
  | [] => by simp [PyData.canLayAll0]
  | c :: cs => by
    have h := dCs_lay cs
    have h1 : (dC c).canLay0 = true := by
      simp only [dC, PyData.canLay0]
      exact dN_lay _
    simp only [List.map_cons, PyData.canLayAll0, h, h1, Bool.and_self]
theorem dCs_depth : ∀ cs : List C, PyData.depthAll (cs.map dC) ≤ 1
  | [] => by simp [PyData.depthAll]
  | c :: cs => by
    have h := dCs_depth cs
    have h2 : (dC c).depth = 1 := by
      simp only [dC, PyData.depth, dN_depth]
    simp only [List.map_cons, PyData.depthAll, h2]
    omega
theorem dCs_shaped (cs : List C) : SeqAt.shaped (.list (cs.map dC)) = true := by
  have h1 := dCs_depth cs
  have h2 : PyData.depth (.list (cs.map dC)) ≤ 64 := by
    simp only [PyData.depth]
    omega
  show (PyData.canLay0 (.list (cs.map dC)) && decide (PyData.depth (.list (cs.map dC)) ≤ 64)) = true
  rw [Bool.and_eq_true]
  exact ⟨by simp only [PyData.canLay0]; exact dCs_lay cs, decide_eq_true h2⟩
section
variable {K : PySem.W.Frag} {H H' : Hp} {σ : L2.St} {te ta tb : TE}
theorem dpN : ∀ ns : List Nat, DpAll K H (ns.map vN) (dN ns)
  | [] => .nil
  | n :: ns => .cons (.int _) (dpN ns)
theorem dpC {v : V} {c : C} (h : CT K H v c) : Dp K H v (dC c) := by
  obtain ⟨a, rfl, q⟩ := h
  exact .tup q (dpN _)
theorem dpCs : ∀ {vs : List V} {cs : List C}, All2 (CT K H) vs cs → DpAll K H vs (cs.map dC)
  | [], [], _ => .nil
  | [], _ :: _, h => by have := h.1; simp at this
  | _ :: _, [], h => by have := h.1; simp at this
  | v :: vs, c :: cs, h => .cons (dpC h.tail.1) (dpCs h.tail.2)
theorem any_eqv {c : C} (hc : Ok c) : ∀ {cs : List C}, (∀ x ∈ cs, Ok x) → ((cs.map dC).any fun z => PyData.eqv z (dC c)) = cs.contains c
  | [], _ => rfl
  | d :: cs, h => by
    have ih := any_eqv hc (cs := cs) fun x hx => h x (List.mem_cons_of_mem _ hx)
    rw [List.map_cons, List.any_cons, ih, dC_eqv (h d List.mem_cons_self) hc, List.contains_cons]
    congr 1
    by_cases q : d = c
    · subst q
      simp
    · rw [decide_eq_false q]
      exact (beq_eq_false_iff_ne.mpr fun z => q z.symm).symm
theorem rv_notIn {v : V} {l : Addr} {vs : List V} {c : C} {cs : List C} (hv : CT K H v c) (hl : SqL K H l vs) (ha : All2 (CT K H) vs cs) (hc : Ok c) (hs : ∀ x ∈ cs, Ok x) : RV (rNotInD K) v (.ref l) H (.bl (!cs.contains c)) := fun H1 e Q q =>
  ⟨dC c, cs.map dC, dpC (hv.mono e), .lst (ex_l e hl) (dpCs (ha.mono fun _ _ z => z.mono e)), dC_shaped c, dCs_shaped cs, by
    rw [any_eqv hc hs]
    exact q H1 (Ex.refl H1)⟩
/-- a tuple's slice -/
theorem evp_slT {tl th : TO} {a : Addr} {xs : List V} {lo hi : Option Int} (h : Ev te σ H (.ref a)) (h1 : EvO tl σ H lo) (h2 : EvO th σ H hi) (hs : SqT K H a xs) : EvP (tSl (rSlA K) te tl th) σ H fun v H' => ∃ b, v = .ref b ∧ SqT K H' b (cutV xs lo hi) := fun H1 e Q q =>
  h H1 e _ fun H2 e2 => h1 H2 (e.trans e2) _ fun H3 e3 => h2 H3 ((e.trans e2).trans e3) _ fun H4 e4 => by
    have hs4 := ex_t (((e.trans e2).trans e3).trans e4) hs
    refine ⟨a, xs, rfl, hs4, fun hw => ?_, fun _ p hp => ?_⟩
    · refine q _ H4 ((e2.trans e3).trans e4) ⟨a, rfl, ?_⟩
      have e5 : cutV xs lo hi = xs := by
        unfold cutV
        rw [hw.1, hw.2]
        simp
      rw [e5]
      exact hs4
    · exact q _ _ (((e2.trans e3).trans e4).trans (Ex.new hp)) ⟨p, rfl, .inl (.inl upd_same)⟩
/-- tuple(a new list) -/
def rTupS (K : PySem.W.Frag) : List V → Hp → VK → Prop := fun xs H Q => ∃ p ys, xs = [.ref p] ∧ ((SqL K H p ys ∧ ∀ l, H l = none → Q (.ref l) (upd H l (.tup ys))) ∨ (SqT K H p ys ∧ Q (.ref p) H))
theorem eu_tupleN {xs : List V} (ha : EvL ta σ H xs) : EvU (tCB (rTupS K) (tCons ta tNil)) σ H xs := fun H1 e Q q =>
  ha H1 e _ fun p H2 _ e2 h2 => ⟨p, xs, rfl, .inl ⟨sq_of h2, fun l hl => q l _ (fresh_back e2 hl) (e2.trans (Ex.new hl)) upd_same⟩⟩
theorem eu_tupleL {a : Addr} {xs : List V} (ha : Ev ta σ H (.ref a)) (h : SqL K H a xs) : EvU (tCB (rTupS K) (tCons ta tNil)) σ H xs := fun H1 e Q q =>
  ha H1 e _ fun H2 e2 => ⟨a, xs, rfl, .inl ⟨ex_l (e.trans e2) h, fun l hl => q l _ (fresh_back e2 hl) (e2.trans (Ex.new hl)) upd_same⟩⟩
end
theorem pe_tuple {X : Cx} {e : Expr} {p pos : Pos} {ta : TE} (hm : X.mg "tuple" = none) (ha : PE X e ta) (hg : Gl X "tuple" := by rfl) (he : starEach [e] X.env = (false, eval e X.env) :: starEach [] X.env := by rfl) :
    PE X (.Call (.Name "tuple" p) [e] [] pos) (tCB (rTupS X.K) (tCons ta tNil)) := pe_callTy call_tuple_of hg hm (by decide +kernel) (pa_cons ha pa_nil (hs := he)) (he := he)
theorem cut_nat {α : Type} {xs : List V} {i j : Nat} (h : i ≤ j) (hj : j ≤ xs.length) : cutV xs (some (i : Int)) (some (j : Int)) = (xs.drop i).take (j - i) := by
  unfold cutV
  rw [HT.sIx_nat, HT.sIx_nat, Nat.min_eq_left hj, Nat.min_eq_left (Nat.le_trans h hj)]
section
variable {P : Program} {w : World} {K : PySem.W.Frag} {mg : Str → Option Value} {base : Heap}
/-! ### read_concepts -/
def Row (K : PySem.W.Frag) (H : Hp) (v : V) (cs : List C) : Prop := ∃ a vs, v = .ref a ∧ H a = some (.lst vs) ∧ All2 (CT K H) vs cs
theorem Row.mono {H H' : Hp} {v : V} {cs : List C} (e : Ex H H') (h : Row K H v cs) : Row K H' v cs := by
  obtain ⟨a, vs, rfl, h1, h2⟩ := h
  exact ⟨a, vs, rfl, e a _ h1, h2.mono fun _ _ z => z.mono e⟩
def spRC (K : PySem.W.Frag) : Sp := fun vs H Q _ => ∃ (a : Addr) (ns : List Nat) (n : Nat), vs = [.ref a, vN n] ∧ SqL K H a (ns.map vN) ∧ n ≤ 1000 ∧ Ret H Q fun v H' => match just n ns with
  | none => v = .non
  | some cs => Row K H' v cs
theorem sp_rc {H : Hp} {a : Addr} {ns : List Nat} {n : Nat} (h : SqL K H a (ns.map vN)) (hn : n ≤ 1000) : SpP (spRC K) [.ref a, vN n] H fun v H' => match just n ns with
  | none => v = .non
  | some cs => Row K H' v cs := fun H1 e Q q E => ⟨a, ns, n, rfl, ex_l e h, hn, q⟩
theorem sc_read_concepts : FnScope ["numbers", "count", "concepts", "place", "end"] ["numbers", "count"] (defScope s_read_concepts) := ⟨rfl, rfl, rfl, by decide +kernel, rfl, by decide +kernel, by decide +kernel⟩
theorem just_no {n : Nat} {l : List Nat} (h : go 1 l = none) : just (n + 1) l = none := by
  unfold just
  cases q : Oc.read (l.length + 1) l with
  | none => rfl
  | some x =>
    obtain ⟨c, r⟩ := x
    obtain ⟨o, e⟩ := of_read _ _ _ _ q
    have := go_enc c o 0 r
    rw [← e, h, go_zero] at this
    cases this
theorem just_yes {n : Nat} {c : C} {r : List Nat} (o : Ok c) : just (n + 1) (enc c ++ r) = (just n r).map fun cs => c :: cs := by
  have e := read_enc c o ((enc c ++ r).length + 1) r (by rw [List.length_append]; omega)
  show (match Oc.read ((enc c ++ r).length + 1) (enc c ++ r) with
    | none => none
    | some (c, r) => (just n r).map fun cs => c :: cs) = _
  rw [e]
theorem just_zero (l : List Nat) : just 0 l = if l = [] then some [] else none := rfl
theorem ok_read_concepts {f : Addr} {fd : FuncData} (F : Fun K "read_concepts" "read_concepts" s_read_concepts f fd) (T : Txt K mg) (uCE : Use P w K mg base 2 "concept_end" ["numbers", "start"] (spCE K)) : FnOk P w K mg base CX0 3 f fd ["numbers", "count"] (spRC K) := by
  refine F.ok sc_read_concepts (fun vs H Q E h => ?_) (fun cdv A outer s H vs Q E hr h => ⟨_, pss_cons (ps_set (i := 2) sc_read_concepts.nd rfl (.inl rfl) (pe_lst pa_nil)) (pss_cons (ps_set (i := 3) sc_read_concepts.nd rfl (.inl rfl) pe_int)
    (pss_cons (ps_while PassesOwn.never (pt_cmpR op_lt (pe_len T.len (pv 2)) (pv 1) (nomark _)) (pss_cons (ps_set (i := 4) sc_read_concepts.nd rfl (.inl rfl) (pe_use uCE hr (pa_cons (pv 0) (pa_cons (pv 3) pa_nil))))
      (pss_cons (ps_if (pt_cmpR op_lt (pv 4) pe_int (nomark _)) (pss_one (ps_ret pe_non)) pss_nil)
      (pss_cons (ps_expr (pe_bm PySem.F.plainAttrs_list PySem.F.slot_list_append PySem.F.type_list_append mt_append (pv 2) (pa_cons (pe_tuple T.tuple (pe_slice sl_list (pv 0) (po_some (pv 3)) (po_some (pv 4)))) pa_nil)))
      (pss_one (ps_set (i := 3) sc_read_concepts.nd rfl (.inl rfl) (pv 4)))))))
    (pss_cons (ps_if (pt_cmpR op_lt (pv 3) (pe_len T.len (pv 0)) (nomark _)) (pss_one (ps_ret pe_non)) pss_nil)
    (pss_one (ps_ret (pv 2)))))), ?_⟩)
  · obtain ⟨a, ns, n, rfl, _⟩ := h
    rfl
  · obtain ⟨a, ns, n, rfl, hn, hsz, k⟩ := h
    refine q_asgL (el_lst ea_nil (by decide)) fun l H1 hl0 e1 h1 => ?_
    refine q_asg ev_c fun H2 e2 => ?_
    refine q_while (fun m σ' H' => ∃ (p : Nat) (zp : Int) (vs : List V) (cs : List C) (x : Option V), zp = (p : Int) ∧ σ' = [some (.ref a), some (vN n), some (.ref l), some (.int zp), x] ∧ p ≤ ns.length ∧ cs.length ≤ n ∧ just n ns = (just (n - cs.length) (ns.drop p)).map (fun r => cs ++ r) ∧ m = n - cs.length ∧ Ex H H' ∧ H' l = some (.lst vs) ∧ All2 (CT K H') vs cs) _
      ⟨0, _, [], [], _, rfl, rfl, Nat.zero_le _, Nat.zero_le _, ?_, rfl, e1.trans e2, e2 l _ h1, .nil⟩ ?_
    · show just n ns = (just n ns).map (fun r => r)
      rw [Option.map_id']
    rintro m σ' H' ⟨p, zp, vs, cs, x, rfl, rfl, hp, hc, hj, rfl, e, hL, hA⟩
    have hlen : vs.length = cs.length := hA.1
    refine ⟨_, et_test (ev_op (ev_len (ev_var rfl) (sq_of hL)) (ev_var rfl) rv_I0), fun hb H3 e3 => ?_, fun hb H3 e3 => ?_⟩
    · have hlt : cs.length < n := by
        have := of_decide_eq_true hb
        omega
      obtain ⟨n', hn'⟩ : ∃ n', n - cs.length = n' + 1 := ⟨n - cs.length - 1, by omega⟩
      have hn3 : SqL K H3 a (ns.map vN) := ex_l (e.trans e3) hn
      refine ⟨_, fun σ2 H2 n => n, ?_⟩
      refine q_asg (ev_callP (ea_cons (ev_var rfl) (ea_cons (ev_var rfl) ea_nil)) (sp_ce (p := p) (.inl hn3) hp)) fun H4 e4 => ?_
      refine q_when (et_test (ev_op (ev_var rfl) ev_c rv_I0)) (fun hb H5 e5 => ?_) (fun hb H5 e5 => ?_)
      · refine s_ret ev_c fun H6 e6 => k _ H6 (e.trans (e3.trans (e4.trans (e5.trans e6)))) ?_
        have hg : go 1 (ns.drop p) = none := by
          have q := of_decide_eq_true hb
          unfold cend at q
          cases g : go 1 (ns.drop p) with
          | none => rfl
          | some r =>
            exfalso
            rw [g] at q
            have q2 : (ns.length : Int) - (r.length : Int) < 0 := q
            obtain ⟨c, r', _, e', g'⟩ := of_go _ (ns.drop p) (Nat.le_refl _) 0 r g
            rw [go_zero] at g'
            cases g'
            have := congrArg List.length e'
            rw [List.length_drop, List.length_append] at this
            omega
        rw [hj, hn', just_no hg]
        rfl
      · cases g : go 1 (ns.drop p) with
        | none =>
          exfalso
          have q := of_decide_eq_false hb
          unfold cend at q
          rw [g] at q
          exact q (show (-1 : Int) < 0 by decide)
        | some r =>
          obtain ⟨c, r', oc, e', g'⟩ := of_go _ (ns.drop p) (Nat.le_refl _) 0 r g
          rw [go_zero] at g'
          cases g'
          have hl' := congrArg List.length e'
          rw [List.length_drop, List.length_append] at hl'
          have hce : cend ns p = ((p + (enc c).length : Nat) : Int) := by
            unfold cend
            rw [g]
            show (ns.length : Int) - (r.length : Int) = _
            omega
          have hcut : cutV (ns.map vN) (some (p : Int)) (some (cend ns p)) = (enc c).map vN := by
            rw [hce, cut_nat (α := Nat) (by omega) (by rw [List.length_map]; omega), ← List.map_drop, e', ← List.map_take, show p + (enc c).length - p = (enc c).length by omega, List.take_left]
          refine q_appU ((e3.trans (e4.trans e5)) l _ hL) (ev_var rfl) (eu_tupleN (el_sl (ev_var rfl) (eo_some (ev_var rfl)) (eo_some (ev_var rfl)) (ex_l (e4.trans e5) hn3))) (by rw [hlen]; omega) fun b H6 hb6 e6 h6 => ?_
          rw [hcut] at h6
          refine s_asg (ev_var rfl) fun H7 e7 => ?_
          have hl6 : H6 l = some (.lst vs) := (e3.trans (e4.trans (e5.trans e6))) l _ hL
          refine ⟨_, ?_, p + (enc c).length, _, vs ++ [.ref b], cs ++ [c], _, hce, rfl, by omega, by rw [List.length_append]; show cs.length + 1 ≤ n; omega, ?_, rfl, (Ex.mut (e.trans (e3.trans (e4.trans (e5.trans e6)))) hl0).trans e7, e7 l _ upd_same, ?_⟩
          · rw [List.length_append]
            show n - (cs.length + 1) < n - cs.length
            omega
          · rw [hj, hn', e', just_yes oc, Option.map_map, List.length_append, show n - (cs.length + [c].length) = n' by show n - (cs.length + 1) = n'; omega, ← List.drop_drop, e', List.drop_left]
            congr 1
            funext r
            show cs ++ c :: r = (cs ++ [c]) ++ r
            rw [List.append_assoc]
            rfl
          · exact ((hA.mono fun _ _ z => ((z.mono (e3.trans (e4.trans (e5.trans e6)))).upd hl6).mono e7)).snoc ((CT.upd hl6 ⟨b, rfl, st_of h6⟩).mono e7)
    · have hz : n - cs.length = 0 := by
        have := of_decide_eq_false hb
        omega
      rw [hz, just_zero] at hj
      refine q_when (et_test (ev_op (ev_var rfl) (ev_lenN2 (ns := ns) (ev_var rfl) (.inl (ex_l (e.trans e3) hn))) rv_I0)) (fun hb H4 e4 => ?_) (fun hb H4 e4 => ?_)
      · refine s_ret ev_c fun H5 e5 => k _ H5 (e.trans (e3.trans (e4.trans e5))) ?_
        have hne : ns.drop p ≠ [] := fun q => by
          have h1 := List.drop_eq_nil_iff.mp q
          have h2 := of_decide_eq_true hb
          omega
        rw [if_neg hne] at hj
        rw [hj]
        rfl
      · refine s_ret (ev_var rfl) fun H5 e5 => k _ H5 (e.trans (e3.trans (e4.trans e5))) ?_
        have hne : ns.drop p = [] := by
          have h2 := of_decide_eq_false hb
          exact List.drop_eq_nil_iff.mpr (by omega)
        rw [if_pos hne] at hj
        rw [hj]
        show Row K H5 (.ref l) (cs ++ [])
        rw [List.append_nil]
        exact ⟨l, vs, rfl, (e3.trans (e4.trans e5)) l _ hL, hA.mono fun _ _ z => z.mono (e3.trans (e4.trans e5))⟩
/-! ### part_at -/
def spPA (K : PySem.W.Frag) : Sp := fun vs H Q _ => ∃ (a : Addr) (c d : C) (q : Nat), vs = [.ref a, vN q] ∧ SqT K H a ((enc c).map vN) ∧ Ok c ∧ (q, d) ∈ subsAt 0 c ∧ Ret H Q fun v H' => CT K H' v d
theorem sp_pa {H : Hp} {a : Addr} {c d : C} {q : Nat} (h : SqT K H a ((enc c).map vN)) (ho : Ok c) (hq : (q, d) ∈ subsAt 0 c) : SpP (spPA K) [.ref a, vN q] H fun v H' => CT K H' v d := fun H1 e Q k E => ⟨a, c, d, q, rfl, ex_t e h, ho, hq, k⟩
theorem sc_part_at : FnScope ["concept", "place"] ["concept", "place"] (defScope s_part_at) := ⟨rfl, rfl, rfl, by decide +kernel, rfl, by decide +kernel, by decide +kernel⟩
theorem ok_part_at {f : Addr} {fd : FuncData} (F : Fun K "part_at" "part_at" s_part_at f fd) (uCE : Use P w K mg base 2 "concept_end" ["numbers", "start"] (spCE K)) : FnOk P w K mg base CX0 3 f fd ["concept", "place"] (spPA K) := by
  refine F.ok sc_part_at (fun vs H Q E h => ?_) (fun cdv A outer s H vs Q E hr h => ⟨_, pss_one (ps_ret (pe_slice sl_tupA (pv 0) (po_some (pv 1)) (po_some (pe_use uCE hr (pa_cons (pv 0) (pa_cons (pv 1) pa_nil)))))), ?_⟩)
  · obtain ⟨a, c, d, q, rfl, _⟩ := h
    rfl
  · obtain ⟨a, c, d, q, rfl, hn, oc, hq, k⟩ := h
    obtain ⟨od, ⟨post, e⟩, _, hle⟩ := subsAt_place c 0 (enc c) [] oc (by rw [List.drop_zero, List.append_nil]) q d hq
    have hl' := congrArg List.length e
    rw [List.length_drop, List.length_append] at hl'
    have hpos := enc_pos d
    have hce : cend (enc c) q = ((q + (enc d).length : Nat) : Int) := by
      unfold cend
      rw [e, go_enc d od 0 post, go_zero]
      show ((enc c).length : Int) - (post.length : Int) = _
      omega
    have hcut : cutV ((enc c).map vN) (some (q : Int)) (some (cend (enc c) q)) = (enc d).map vN := by
      rw [hce, cut_nat (α := Nat) (by omega) (by rw [List.length_map]; omega), ← List.map_drop, e, ← List.map_take, show q + (enc d).length - q = (enc d).length by omega, List.take_left]
    refine s_retP (evp_slT (ev_var rfl) (eo_some (ev_var rfl)) (eo_some (ev_callP (ea_cons (ev_var rfl) (ea_cons (ev_var rfl) ea_nil)) (sp_ce (p := q) (.inr hn) (by omega)))) hn) fun v H1 e1 hv => k v H1 e1 ?_
    rw [hcut] at hv
    exact hv
/-! ### inside -/
def spIN (K : PySem.W.Frag) : Sp := fun vs H Q _ => ∃ (v : V) (x : C), vs = [v] ∧ CT K H v x ∧ (∃ r d, (x = .some r d ∨ x = .all r d)) ∧ Ret H Q fun v H' => CT K H' v (inner x)
theorem sp_in {H : Hp} {v : V} {x : C} (h : CT K H v x) (hx : ∃ r d, (x = .some r d ∨ x = .all r d)) : SpP (spIN K) [v] H fun v H' => CT K H' v (inner x) := fun H1 e Q k E => ⟨v, x, rfl, h.mono e, hx, k⟩
theorem sc_inside : FnScope ["atom"] ["atom"] (defScope s_inside) := ⟨rfl, rfl, rfl, by decide +kernel, rfl, by decide +kernel, by decide +kernel⟩
theorem ok_inside {f : Addr} {fd : FuncData} (F : Fun K "inside" "inside" s_inside f fd) : FnOk P w K mg base CX0 1 f fd ["atom"] (spIN K) := by
  refine F.ok sc_inside (fun vs H Q E h => ?_) (fun cdv A outer s H vs Q E hr h => ⟨_, pss_one (ps_ret (pe_slice sl_tupA (pv 0) (po_some pe_int) po_none)), ?_⟩)
  · obtain ⟨v, x, rfl, _⟩ := h
    rfl
  · obtain ⟨v, x, rfl, ⟨a, rfl, hn⟩, hx, k⟩ := h
    refine s_retP (evp_slT (ev_var rfl) (eo_some ev_c) eo_none hn) fun v H1 e1 hv => k v H1 e1 ?_
    have hcut : cutV ((enc x).map vN) (some 2) none = (enc (inner x)).map vN := by
      unfold cutV
      rw [show (some 2 : Option Int) = some ((2 : Nat) : Int) from rfl, HT.sIx_nat, HT.sIx_none]
      rcases hx with ⟨r, d, rfl | rfl⟩
      · simp [enc, inner, List.take_of_length_le]
      · simp [enc, inner, List.take_of_length_le]
    rw [hcut] at hv
    exact hv
end
end Bk

namespace Bk
open PySem PySem.Spec PyProof.Rows L2 Evl
open Oc (C)
theorem take_more {α : Type} {l : List α} {i : Nat} {x : α} (h : l[i]? = some x) : l.take (i + 1) = l.take i ++ [x] := by
  rw [List.take_add_one, h]
  rfl
theorem subs_get {c : C} {i q : Nat} (h : ((subsAt 0 c).map (·.1))[i]? = some q) : ∃ d, (q, d) ∈ subsAt 0 c ∧ (subs c)[i]? = some d := by
  rw [List.getElem?_map] at h
  obtain ⟨⟨q', d⟩, h1, h2⟩ := Option.map_eq_some_iff.mp h
  cases h2
  refine ⟨d, List.mem_of_getElem? h1, ?_⟩
  rw [← subsAt_snd c 0, List.getElem?_map, h1]
  rfl
theorem enc_at {c d : C} {q : Nat} (oc : Ok c) (h : (q, d) ∈ subsAt 0 c) : (enc c)[q]? = some ((enc d).headD 0) := by
  obtain ⟨_, ⟨post, e⟩, _⟩ := subsAt_place c 0 (enc c) [] oc (by rw [List.drop_zero, List.append_nil]) q d h
  have : ((enc c).drop q)[0]? = (enc c)[q]? := by rw [List.getElem?_drop]; rfl
  rw [← this, e]
  cases d <;> simp [enc]
theorem subs_len_le : ∀ c : C, (subs c).length ≤ (enc c).length
  | .top => by simp [subs, enc]
  | .bot => by simp [subs, enc]
  | .name a => by simp [subs, enc]
  | .and c d => by have := subs_len_le c; have := subs_len_le d; simp [subs, enc]; omega
  | .or c d => by have := subs_len_le c; have := subs_len_le d; simp [subs, enc]; omega
  | .not c => by have := subs_len_le c; simp [subs, enc]; omega
  | .some r c => by have := subs_len_le c; simp [subs, enc]; omega
  | .all r c => by have := subs_len_le c; simp [subs, enc]; omega
theorem add_new {m : List C} {c : C} (h : m.contains c = false) : add m c = m ++ [c] := if_neg (by rw [h]; exact Bool.false_ne_true)
theorem add_old {m : List C} {c : C} (h : m.contains c = true) : add m c = m := if_pos h
theorem foldl_add_len : ∀ (l m : List C), (l.foldl add m).length ≤ m.length + l.length
  | [], m => by simp
  | c :: l, m => by
    rw [List.foldl_cons]
    have h := foldl_add_len l (add m c)
    have h2 : (add m c).length ≤ m.length + 1 := by
      unfold add
      split
      · omega
      · simp
    rw [List.length_cons]
    omega
section
variable {P : Program} {w : World} {K : PySem.W.Frag} {mg : Str → Option Value} {base : Heap}
/-! ### atoms_of -/
def spAO (K : PySem.W.Frag) : Sp := fun vs H Q _ => ∃ (v : V) (cs : List C), vs = [v] ∧ Row K H v cs ∧ (∀ c ∈ cs, Ok c ∧ (enc c).length ≤ 1000) ∧ cs.length ≤ 50 ∧ Ret H Q fun v H' => Row K H' v (Oc.atomsOf cs)
theorem sp_ao {H : Hp} {v : V} {cs : List C} (h : Row K H v cs) (ho : ∀ c ∈ cs, Ok c ∧ (enc c).length ≤ 1000) (hl : cs.length ≤ 50) : SpP (spAO K) [v] H fun v H' => Row K H' v (Oc.atomsOf cs) := fun H1 e Q k E => ⟨v, cs, rfl, h.mono e, ho, hl, k⟩
theorem sc_atoms_of : FnScope ["row", "atoms", "concept", "place", "atom"] ["row"] (defScope s_atoms_of) := ⟨rfl, rfl, rfl, by decide +kernel, rfl, by decide +kernel, by decide +kernel⟩
theorem flat_len {cs : List C} (ho : ∀ c ∈ cs, Ok c ∧ (enc c).length ≤ 1000) : (cs.flatMap C.atoms).length ≤ 1000 * cs.length := by
  induction cs with
  | nil => simp
  | cons c cs ih =>
    have h1 := ih fun x hx => ho x (List.mem_cons_of_mem _ hx)
    have h2 : (C.atoms c).length ≤ 1000 := by
      rw [atoms_subs]
      exact Nat.le_trans (List.length_filter_le _ _) (Nat.le_trans (subs_len_le c) (ho c List.mem_cons_self).2)
    rw [List.flatMap_cons, List.length_append, List.length_cons]
    omega
theorem ok_atoms_of {f : Addr} {fd : FuncData} (F : Fun K "atoms_of" "atoms_of" s_atoms_of f fd) (uHP : Use P w K mg base 2 "head_places" ["concept"] (spHP K)) (uIA : Use P w K mg base 1 "is_atom" ["head"] spIsAtom) (uPA : Use P w K mg base 3 "part_at" ["concept", "place"] (spPA K)) :
    FnOk P w K mg base CX0 4 f fd ["row"] (spAO K) := by
  refine F.ok sc_atoms_of (fun vs H Q E h => ?_) (fun cdv A outer s H vs Q E hr h => ⟨_, pss_cons (ps_set (i := 1) sc_atoms_of.nd rfl (.inl rfl) (pe_lst pa_nil))
    (pss_cons (ps_for PassesOwn.never rfl (pi_list (pv 0)) (pg_name (i := 2) sc_atoms_of.nd rfl (.inl rfl)) (pss_one (ps_for PassesOwn.never rfl (pi_list (pe_use uHP (hr.mono (by decide)) (pa_cons (pv 2) pa_nil))) (pg_name (i := 3) sc_atoms_of.nd rfl (.inl rfl))
      (pss_one (ps_if (pt_val (pe_use uIA (hr.mono (by decide)) (pa_cons (pe_ix ix_tup (pv 2) (pv 3) (fun _ _ => rfl)) pa_nil))) (pss_cons (ps_set (i := 4) sc_atoms_of.nd rfl (.inl rfl) (pe_use uPA hr (pa_cons (pv 2) (pa_cons (pv 3) pa_nil))))
        (pss_one (ps_if (pt_cmpR (op_notInD (by have := hr.un; show A.units + 3 + 65 < cLine; have q : A.units + 3 + 16 * 3 + 200 < cLine := this; omega)) (pv 4) (pv 1) rfl) (pss_one (ps_expr (pe_bm PySem.F.plainAttrs_list PySem.F.slot_list_append PySem.F.type_list_append mt_append (pv 1) (pa_cons (pv 4) pa_nil)))) pss_nil))) pss_nil)))))
    (pss_one (ps_ret (pv 1)))), ?_⟩)
  · obtain ⟨v, cs, rfl, _⟩ := h
    rfl
  · obtain ⟨v, cs, rfl, ⟨a, vs, rfl, ha, hA⟩, ho, hcs, k⟩ := h
    have okA : ∀ {B : List C}, (∀ x ∈ B, ∃ c ∈ cs, x ∈ subs c) → ∀ x ∈ B, Ok x := fun hB x hx => by
      obtain ⟨c, hc, hx⟩ := hB x hx
      exact Ok_subs c x (ho c hc).1 hx
    refine q_asgL (el_lst ea_nil (by decide)) fun l H1 hl0 e1 h1 => ?_
    refine q_forLn (K := K) (ev_var rfl) (sq_of (e1 a _ ha)) (fun i σ' H' => ∃ (as : List V) (x y z : Option V), σ' = [some (.ref a), some (.ref l), x, y, z] ∧ Ex H H' ∧ H' l = some (.lst as) ∧ All2 (CT K H') as (((cs.take i).flatMap C.atoms).foldl add []))
      (fun H2 e2 => ⟨[], none, none, none, rfl, e1.trans e2, e2 l _ h1, .nil⟩) (fun i σ' H' _ ⟨as, x, y, z, _, e, _⟩ => sq_of (e a _ ha)) ?_ ?_
    · rintro i v σ' H' hi ⟨as, x, y, z, rfl, e, hL, hB⟩
      obtain ⟨c, hc, ⟨b, rfl, hb⟩⟩ := hA.got hi
      have hcm : c ∈ cs := List.mem_of_getElem? hc
      obtain ⟨oc, hlen⟩ := ho c hcm
      have hb' := ex_t e hb
      refine s_forNL (K := K) (el_call (ea_cons (ev_var rfl) ea_nil) (sp_hp hb' oc hlen)) (fun p j σ2 H2 => ∃ (as : List V) (y z : Option V), σ2 = [some (.ref a), some (.ref l), some (.ref b), y, z] ∧ Ex H H2 ∧ H2 p = some (.lst (((subsAt 0 c).map (·.1)).map vN)) ∧ p ≠ l ∧ H2 l = some (.lst as) ∧
          All2 (CT K H2) as ((((subs c).take j).filter isAt).foldl add (((cs.take i).flatMap C.atoms).foldl add [])))
        (fun p H2 hp e2 h2 => ⟨as, y, z, rfl, e.trans e2, h2, (fun q => by rw [q, hL] at hp; cases hp), e2 l _ hL, hB.mono fun _ _ q => q.mono e2⟩) (fun p j σ2 H2 _ ⟨_, _, _, _, _, h2, _⟩ => sq_of h2) ?_ ?_
      · rintro p j x σ2 H2 hj ⟨as, y, z, rfl, e2, hp, hpl, hL2, hB2⟩
        rw [List.getElem?_map] at hj
        obtain ⟨q, hq, rfl⟩ := Option.map_eq_some_iff.mp hj
        obtain ⟨d, hd, hdj⟩ := subs_get hq
        have hb2 := ex_t e2 hb
        have hds : d ∈ subs c := List.mem_of_getElem? hdj
        have od : Ok d := Ok_subs c d oc hds
        have sub : ∀ x ∈ (((subs c).take j).filter isAt).foldl add (((cs.take i).flatMap C.atoms).foldl add []), ∃ c ∈ cs, x ∈ subs c := fun x hx => by
          rcases (mem_foldl_add _ _ _).mp hx with hx | hx
          · rcases (mem_foldl_add _ _ _).mp hx with hx | hx
            · cases hx
            · obtain ⟨c', hc', hx⟩ := List.mem_flatMap.mp hx
              rw [atoms_subs] at hx
              exact ⟨c', List.mem_of_mem_take hc', (List.mem_filter.mp hx).1⟩
          · exact ⟨c, hcm, List.mem_of_mem_take (List.mem_filter.mp hx).1⟩
        refine s_when (et_B (ev_is (ev_callP (ea_cons (ev_op (ev_var rfl) (ev_var rfl) (rv_ixT hb2 (atN (enc_at oc hd)))) ea_nil) (fun H3 e3 Q q E => ⟨_, rfl, q⟩)) (congrArg V.bl (head_isAt d).symm))) (fun hb H3 e3 => ?_) (fun hb H3 e3 => ?_)
        · refine q_asgP (evp_call (ea_cons (ev_var rfl) (ea_cons (ev_var rfl) ea_nil)) (sp_pa (ex_t e3 hb2) oc hd)) fun v H4 e4 hv => ?_
          have hB4 := hB2.mono fun _ _ q => CT.mono (e3.trans e4) q
          have hL4 := (e3.trans e4) l _ hL2
          refine s_when (et_test (ev_op (ev_var rfl) (ev_var rfl) (rv_notIn hv (sq_of hL4) hB4 od (okA sub)))) (fun hb5 H5 e5 => ?_) (fun hb5 H5 e5 => ?_)
          · have hlenB : as.length ≤ 100000 - 1 := by
              rw [hB2.1]
              refine Nat.le_trans (foldl_add_len _ _) ?_
              have q1 := foldl_add_len ((cs.take i).flatMap C.atoms) []
              have q2 := flat_len (cs := cs.take i) fun x hx => ho x (List.mem_of_mem_take hx)
              have q3 : (((subs c).take j).filter isAt).length ≤ 1000 := Nat.le_trans (List.length_filter_le _ _) (Nat.le_trans (List.length_take_le' _ _) (Nat.le_trans (subs_len_le c) hlen))
              have q4 : (cs.take i).length ≤ cs.length := List.length_take_le' _ _
              simp only [List.length_nil] at q1
              omega
            have hL5 := e5 l _ hL4
            refine s_app hL5 (ev_var rfl) (ev_var rfl) (by omega) fun H6 e6 => ?_
            have hL6 := e6 l _ hL5
            refine ⟨as ++ [v], _, _, rfl, Ex.mut (e2.trans (e3.trans (e4.trans (e5.trans e6)))) hl0, ?_, hpl, upd_same, ?_⟩
            · rw [upd_ne hpl]
              exact (e3.trans (e4.trans (e5.trans e6))) p _ hp
            · have hno := hb5
              rw [Bool.not_eq_true'] at hno
              rw [take_more hdj, List.filter_append, List.foldl_append, List.filter_cons_of_pos hb]
              show All2 _ _ (add _ d)
              rw [add_new hno]
              exact (hB4.mono fun _ _ q => CT.upd hL6 (q.mono (e5.trans e6))).snoc (CT.upd hL6 (hv.mono (e5.trans e6)))
          · refine ⟨as, _, _, rfl, e2.trans (e3.trans (e4.trans e5)), (e3.trans (e4.trans e5)) p _ hp, hpl, e5 l _ hL4, ?_⟩
            have hno := hb5
            rw [Bool.not_eq_false'] at hno
            rw [take_more hdj, List.filter_append, List.foldl_append, List.filter_cons_of_pos hb]
            show All2 _ _ (add _ d)
            rw [add_old hno]
            exact hB4.mono fun _ _ q => q.mono e5
        · refine ⟨as, _, _, rfl, e2.trans e3, e3 p _ hp, hpl, e3 l _ hL2, ?_⟩
          rw [take_more hdj, List.filter_append, List.filter_cons_of_neg (by rw [hb]; exact Bool.false_ne_true), List.filter_nil, List.append_nil]
          exact hB2.mono fun _ _ q => q.mono e3
      · rintro p σ2 H2 ⟨as, y, z, rfl, e2, hp, hpl, hL2, hB2⟩
        refine ⟨as, _, _, _, rfl, e2, hL2, ?_⟩
        rw [List.length_map, List.length_map, ← List.length_map (f := (·.2)), subsAt_snd, List.take_length, ← atoms_subs, ← List.foldl_append] at hB2
        rw [take_more hc, List.flatMap_append]
        have e9 : [c].flatMap C.atoms = c.atoms := by simp
        rw [e9]
        exact hB2
    · rintro σ' H' ⟨as, x, y, z, rfl, e, hL, hB⟩
      rw [hA.1, List.take_length] at hB
      exact s_ret (ev_var rfl) fun H2 e2 => k _ H2 (e.trans e2) ⟨l, as, rfl, e2 l _ hL, hB.mono fun _ _ q => q.mono e2⟩
end
end Bk

namespace Bk
open PySem PySem.Spec PyProof.Rows L2 LamX NdefX
/-! ### a nested def that has cells of its own beside the captured ones -/
theorem cf_app : ∀ (names : List (Str × NameKind)) (n : Nat) (acc : List (Str × Addr)), cellsFrom n names acc = cellsFrom n names [] ++ acc
  | [], n, acc => rfl
  | (x, k) :: r, n, acc => by
    unfold cellsFrom
    by_cases h : (k == NameKind.cell) = true
    · rw [if_pos h, if_pos h, cf_app r (n + 1) ((x, n) :: acc), cf_app r (n + 1) [(x, n)], List.append_assoc]
      rfl
    · rw [if_neg h, if_neg h]
      exact cf_app r n acc
theorem cf_mem : ∀ {names : List (Str × NameKind)} {n : Nat} {acc : List (Str × Addr)} {x : Str} {c : Addr}, (x, c) ∈ cellsFrom n names acc → (x, c) ∈ acc ∨ (x, NameKind.cell) ∈ names
  | [], _, _, _, _, h => .inl h
  | (y, k) :: r, n, acc, x, c, h => by
    unfold cellsFrom at h
    by_cases hk : (k == NameKind.cell) = true
    · rw [if_pos hk] at h
      rcases cf_mem h with q | q
      · rcases List.mem_cons.mp q with q | q
        · cases q
          exact .inr (by rw [beq_iff_eq.mp hk]; exact List.mem_cons_self)
        · exact .inl q
      · exact .inr (List.mem_cons_of_mem _ q)
    · rw [if_neg hk] at h
      rcases cf_mem h with q | q
      · exact .inl q
      · exact .inr (List.mem_cons_of_mem _ q)
section
variable {M : Model} {A : Around} {E : Value → Shared → Prop} {s₀ s : Shared} {env : Env} {own : List (Str × Addr)}
theorem put_local {m cm : Str → Option Value} {x : Str} {u : Value} {Q : Unit → Shared → Prop} (I : InCallC s₀ env.locals m own cm s) (hf : env.scope.kind = .function) (hx : env.kindOf x = some .local)
    (go : ∀ s', InCallC s₀ env.locals (fun y => if y = x then some u else m y) own cm s' → Q () s') : wpAny M A (storeName env x u) Q E s := by
  refine wpAny_storeName_local hx I.toInCall.ns (fun h1 n1 b1 => go _ ⟨⟨?_, n1, fun b o q => ?_, I.toInCall.fresh⟩, fun y c q => ?_, I.apart, I.above⟩) (by rw [hf]; rfl)
  · obtain ⟨_, _, rfl⟩ := I.toInCall.same
    exact ⟨h1, _, rfl⟩
  · refine b1.extBut b o (Nat.ne_of_lt ?_) (I.toInCall.keep b o q)
    exact Nat.lt_of_lt_of_le (Heap.lt_size q) I.toInCall.fresh
  · exact (I.cell y c q).sameBut b1 (Nat.ne_of_gt (I.above y c (PySem.mem_of_lookup q)))
theorem put_cell {m cm : Str → Option Value} {x : Str} {a : Addr} {u : Value} {Q : Unit → Shared → Prop} (I : InCallC s₀ env.locals m own cm s) (hf : env.scope.kind = .function) (hx : env.kindOf x = some .cell) (ha : own.lookup x = some a) (he : env.cells.lookup x = some a)
    (go : ∀ s', InCallC s₀ env.locals m own (fun y => if y = x then some u else cm y) s' → Q () s') : wpAny M A (storeName env x u) Q E s := by
  have up := I.above x a (PySem.mem_of_lookup ha)
  refine wpAny_storeName_cell hf hx he (I.cell x a ha) fun h1 c1 b1 => go _ ⟨⟨?_, I.toInCall.ns.sameBut b1 (Nat.ne_of_lt up), fun b o q => ?_, I.toInCall.fresh⟩, fun y c q => ?_, I.apart, I.above⟩
  · obtain ⟨_, _, rfl⟩ := I.toInCall.same
    exact ⟨h1, _, rfl⟩
  · refine b1.extBut b o (Nat.ne_of_lt ?_) (I.toInCall.keep b o q)
    exact Nat.lt_trans (Nat.lt_of_lt_of_le (Heap.lt_size q) I.toInCall.fresh) up
  · by_cases e : y = x
    · subst e
      rw [ha] at q
      cases q
      rw [if_pos rfl]
      exact c1
    · rw [if_neg e]
      refine (I.cell y c q).sameBut b1 fun z => e ?_
      exact name_of_addr I.apart (PySem.mem_of_lookup q) (by rw [z]; exact PySem.mem_of_lookup ha)
theorem put_all (f : Str × Value → PUnit → Sem (ForInStep PUnit)) (hf : ∀ x u z, f (x, u) z = (do storeName env x u; pure (.yield ⟨⟩))) (hk : env.scope.kind = .function) (ho : ∀ x c, own.lookup x = some c → env.cells.lookup x = some c) :
    ∀ (bs : List (Str × Value)) (m cm : Str → Option Value) (s : Shared) (Q : PUnit → Shared → Prop), InCallC s₀ env.locals m own cm s → (∀ p ∈ bs, env.kindOf p.1 = some .local ∨ (env.kindOf p.1 = some .cell ∧ (own.lookup p.1).isSome = true)) →
      (∀ s', InCallC s₀ env.locals (bindL env.kindOf bs m) own (bindC env.kindOf bs cm) s' → Q ⟨⟩ s') → wpAny M A (forIn bs ⟨⟩ f) Q E s
  | [], m, cm, s, Q, I, _, go => by
    rw [List.forIn_nil]
    exact wpAny_pure (go s I)
  | (x, u) :: bs, m, cm, s, Q, I, kinds, go => by
    rw [List.forIn_cons, hf]
    have rest : ∀ p ∈ bs, env.kindOf p.1 = some .local ∨ (env.kindOf p.1 = some .cell ∧ (own.lookup p.1).isSome = true) := fun p hp => kinds p (List.mem_cons_of_mem _ hp)
    rcases kinds (x, u) List.mem_cons_self with kx | ⟨kx, is⟩
    · refine wpAny_bind (wpAny_bind (put_local I hk kx fun s1 I1 => wpAny_pure (put_all f hf hk ho bs _ _ s1 Q I1 rest fun s2 I2 => go s2 ?_)))
      unfold bindL bindC
      rw [if_pos kx, if_pos kx]
      exact I2
    · obtain ⟨a, ha⟩ := Option.isSome_iff_exists.mp is
      have no : ¬ env.kindOf x = some .local := by
        rw [kx]
        decide
      refine wpAny_bind (wpAny_bind (put_cell I hk kx ha (ho x a ha) fun s1 I1 => wpAny_pure (put_all f hf hk ho bs _ _ s1 Q I1 rest fun s2 I2 => go s2 ?_)))
      unfold bindL bindC
      rw [if_neg no, if_neg no]
      exact I2
theorem env_clo {scope : Scope} {globals : Addr} {cl : List (Str × Addr)} {bs : List (Str × Value)} {qual : Str} {func : Option Addr} {code : Value} {bt : Addr} {Q : Env → Shared → Prop} (hk : scope.kind = .function)
    (kinds : ∀ p ∈ bs, scope.names.lookup p.1 = some .local ∨ (scope.names.lookup p.1 = some .cell ∧ ((cellsFrom (s.heap.objs.size + 1) scope.names []).lookup p.1).isSome = true))
    (go : ∀ s', InCallC s s.heap.objs.size (bindL (fun x => scope.names.lookup x) bs fun _ => none) (cellsFrom (s.heap.objs.size + 1) scope.names []) (bindC (fun x => scope.names.lookup x) bs fun _ => none) s' →
      Q (newEnv scope s.heap.objs.size globals (cellsFrom (s.heap.objs.size + 1) scope.names cl) qual func code none bt) s') :
    wpAny M A (newFunctionEnv scope globals cl bs qual func code none bt) Q E s := by
  simp only [newFunctionEnv, Option.isSome_none, Bool.false_eq_true, if_false]
  refine wpAny_bind (wpAny_alloc (wpAny_bind (wpAny_layCells _ (fun x k cs => by cases q : k == NameKind.cell <;> simp [q]) _ _ _ _ ?_)))
  have fine := cellsFrom_ok scope.names (s.heap.push { cls := .type "frame", data := .dict #[] }) (s.heap.objs.size + 1) [] ⟨fun _ _ z => (nomatch z), List.Pairwise.nil⟩ (by rw [Heap.size_push]; exact Nat.le_refl _)
  rw [Heap.size_push] at fine
  rw [show ({ s with heap := s.heap.push { cls := .type "frame", data := .dict #[] } } : Shared).heap.objs.size = s.heap.objs.size + 1 from Heap.size_push ..]
  refine wpAny_bind (put_all (s₀ := s) (own := cellsFrom (s.heap.objs.size + 1) scope.names []) (env := newEnv scope s.heap.objs.size globals (cellsFrom (s.heap.objs.size + 1) scope.names cl) qual func code none bt)
    _ (fun _ _ _ => rfl) hk (fun x c q => ?_) bs (fun _ => none) (fun _ => none) _ _ ⟨⟨⟨_, _, rfl⟩, ?_, fun b o q => ?_, Nat.le_refl _⟩, fun x c q => ?_, fine.apart, fun x c q => ?_⟩ kinds fun s1 I1 => wpAny_pure (go s1 I1))
  · show (cellsFrom (s.heap.objs.size + 1) scope.names cl).lookup x = some c
    rw [cf_app, List.lookup_append, q]
    rfl
  · exact (Heap.Ns.new s.heap (.type "frame")).keeps (pushCells_keeps _ _)
  · exact pushCells_keeps _ _ b o (Heap.get?_push_of_some _ q)
  · exact (fine.empty x c (PySem.mem_of_lookup q)).1
  · exact (fine.empty x c q).2
end
/-- its names: parameters, captured ones, others -/
structure NSc (N ps fr : List Str) (sc : Scope) (own : Str → Bool) : Prop where
  kind : sc.kind = .function
  co : sc.isCoroutine = false
  gen : sc.isGenerator = false
  nd : N.Nodup
  pre : N.take (ps.length + fr.length) = ps ++ fr
  par : ∀ x ∈ ps, sc.names.lookup x = some .local ∨ sc.names.lookup x = some .cell
  uniq : ∀ y ∈ sc.names, sc.names.lookup y.1 = some y.2
  free : ∀ y ∈ sc.names, y.2 = .free → y.1 ∈ fr
  frk : ∀ x ∈ fr, sc.names.lookup x = some .free
  own : ∀ x ∈ fr, own x = false
abbrev envO (F : NF) (f L : Addr) : Env := PySem.W.envX F.qual F.scope L f (.ref F.c) (cellsFrom (L + 1) F.scope.names F.cl)
def ocx (CX : CXT) (P : Program) (w : World) (K : PySem.W.Frag) (mg : Str → Option Value) (base : Heap) (N : List Str) (own : Str → Bool) (F : NF) (f : Addr) (A : Around) (outer : List Env) (s : Shared) (H : Hp) (E : XK) : Cx :=
  { prog := P, w := w, K := K, mg := mg, base := base, A := A.deeper (envO F f s.heap.objs.size), N := N, s_0 := s, H_0 := H, env := envO F f s.heap.objs.size, outer := outer, stack := envO F f s.heap.objs.size :: outer, ex := [], calm := true, fn := own, pn := [],
    xe := fun e s' => wpAny (model P w) (A.deeper (envO F f s.heap.objs.size)) (leaving (envO F f s.heap.objs.size) e) (fun _ s'' => CX outer H s E e s'') (fun e' s'' => CX outer H s E e' s'') s' }
section
variable {CX : CXT} {P : Program} {w : World} {K : PySem.W.Frag} {mg : Str → Option Value} {base : Heap} {N ps fr : List Str} {own : Str → Bool} {F : NF} {f : Addr} {A : Around} {outer : List Env} {s s1 : Shared} {H : Hp} {E : XK} {us : List Value} {vs : List V} {ws : List (Option V)}
theorem own_not_free (S : NSc N ps fr F.scope own) {x : Str} (hx : x ∈ fr) {n : Nat} : (cellsFrom n F.scope.names []).lookup x = none := by
  cases q : (cellsFrom n F.scope.names []).lookup x with
  | none => rfl
  | some c =>
    rcases cf_mem (PySem.mem_of_lookup q) with z | z
    · cases z
    · have h1 := S.uniq _ z
      have h2 := S.frk x hx
      rw [h2] at h1
      cases h1
theorem inv_startO (S : NSc N ps fr F.scope own) (hcl : ∀ y c, F.cl.lookup y = some c → y ∈ fr) (hd : A.handled = none) (e0 : Env0 P w K mg base A outer s H) (hl : vs.length = ps.length) (r : Vals vs us) (C : CellsAt F.cl fr ws s.heap H)
    (x : InCallC s s.heap.objs.size (bindL (fun y => F.scope.names.lookup y) (ps.zip us) fun _ => none) (cellsFrom (s.heap.objs.size + 1) F.scope.names []) (bindC (fun y => F.scope.names.lookup y) (ps.zip us) fun _ => none) s1) :
    Inv (ocx CX P w K mg base N own F f A outer s H E) [] (startF N vs ws) H s1 := by
  have hpl : ps.length + fr.length ≤ N.length := by
    have q := congrArg List.length S.pre
    rw [List.length_take, List.length_append] at q
    omega
  obtain ⟨h1, tk, rfl, hk⟩ := x.done
  have clen := C.len
  have cellK : ∀ {c : Addr} {v : Option Value}, s.heap.IsCell c v → h1.IsCell c v := fun {c v} ⟨o, ho, hd⟩ => ⟨o, hk _ _ ho, hd⟩
  -- a cell of the frame: one of its own, or a captured one
  have two : ∀ y c, (cellsFrom (s.heap.objs.size + 1) F.scope.names F.cl).lookup y = some c → (cellsFrom (s.heap.objs.size + 1) F.scope.names []).lookup y = some c ∨ F.cl.lookup y = some c := fun y c q => by
    rw [cf_app, List.lookup_append] at q
    cases z : (cellsFrom (s.heap.objs.size + 1) F.scope.names []).lookup y with
    | some a =>
      rw [z] at q
      cases q
      exact .inl rfl
    | none =>
      rw [z] at q
      exact .inr q
  have low : ∀ y c, F.cl.lookup y = some c → c < s.heap.objs.size := fun y c q => by
    obtain ⟨_, v, o, ho, _⟩ := C.all y c q
    exact Heap.lt_size ho
  have high : ∀ y c, (cellsFrom (s.heap.objs.size + 1) F.scope.names []).lookup y = some c → s.heap.objs.size < c := fun y c q => x.above y c (PySem.mem_of_lookup q)
  have frL : ∀ y ∈ fr, (cellsFrom (s.heap.objs.size + 1) F.scope.names F.cl).lookup y = F.cl.lookup y := fun y hy => by
    rw [cf_app, List.lookup_append, own_not_free S hy]
    rfl
  have noA : ∀ b : Addr, b ∉ (ocx CX P w K mg base N own F f A outer s H E).ex := fun b z => absurd (show b ∈ ([] : List Addr) from z) (by simp)
  refine ⟨⟨e0.mod, S.kind, rfl, rfl, Nat.le_refl _, fun y z c q1 q2 => ?_, fun y hy => ?_, fun y c q1 q2 => ?_, fun _ => hd, Around.frames_deeper e0.frames, .inr ⟨rfl, rfl⟩, fun b z => absurd z (noA b), e0.bs, e0.bsz, fun b _ _ => noA b, fun b z => absurd z (noA b), e0.funs, e0.frf⟩,
    rfl, e0.bare, Un.kept hk, ⟨_, x.toInCall.ns, fun i y v q1 q2 q3 => ?_⟩, fun y c q => ?_, e0.hok.fresh (Nat.le_refl _), fun y c q => ?_, fun p hp => absurd (show p ∈ ([] : List (Addr × Obj)) ++ [] from hp) (by simp), e0.hok.kept hk, ?_⟩
  · rcases two y c q1 with a | a <;> rcases two z c q2 with b | b
    · exact name_of_addr x.apart (PySem.mem_of_lookup a) (PySem.mem_of_lookup b)
    · exact absurd (high y c a) (Nat.not_lt_of_lt (low z c b))
    · exact absurd (high z c b) (Nat.not_lt_of_lt (low y c a))
    · exact C.inj y z c a b
  · have hy : F.scope.names.lookup y = some .cell ∨ F.scope.names.lookup y = some .free := hy
    show ∃ c, (cellsFrom (s.heap.objs.size + 1) F.scope.names F.cl).lookup y = some c
    rcases hy with hy | hy
    · exact Option.isSome_iff_exists.mp (PySem.W.cellsFrom_some _ _ _ (.inl hy))
    · have hm := S.free _ (PySem.mem_of_lookup hy) rfl
      obtain ⟨i, hi⟩ := List.mem_iff_getElem?.mp hm
      obtain ⟨c, hc, _⟩ := C.has i y hi
      exact ⟨c, by rw [frL y hm]; exact hc⟩
  · rcases two y c q2 with a | a
    · exact Nat.le_of_lt (high y c a)
    · have z : own y = true := q1
      rw [S.own y (hcl y c a)] at z
      cases z
  · have q1 : N[i]? = some y := q1
    unfold startF at q2
    by_cases h1i : i < ps.length
    · have hq : (ps ++ fr)[i]? = some y := by
        rw [← S.pre, List.getElem?_take_of_lt (by omega)]
        exact q1
      rw [List.getElem?_append_left h1i] at hq
      rw [List.getElem?_append_left (by rw [List.length_map]; omega), List.getElem?_map] at q2
      have ha : vs[i]? = some v := by
        cases e : vs[i]? with
        | none => rw [e] at q2; cases q2
        | some a => rw [e] at q2; cases q2; rfl
      obtain ⟨u, hu, rv⟩ := r.get ha
      have ndP : ps.Nodup := by
        have q := S.nd.sublist (List.take_sublist (ps.length + fr.length) N)
        rw [S.pre] at q
        exact (List.nodup_append.mp q).1
      refine ⟨u, rv, ?_⟩
      rcases S.par y (List.mem_of_getElem? hq) with k | k
      · exact .inl ⟨k, bindL_get ndP hq hu k⟩
      · obtain ⟨c, e⟩ := Option.isSome_iff_exists.mp (PySem.W.cellsFrom_some F.scope.names (s.heap.objs.size + 1) [] (.inl k))
        refine .inr ⟨.inl k, c, ?_, ?_⟩
        · show (cellsFrom (s.heap.objs.size + 1) F.scope.names F.cl).lookup y = some c
          rw [cf_app, List.lookup_append, e]
          rfl
        · have q := x.cell y c e
          rw [bindC_get ndP hq hu (by rw [k]; decide)] at q
          exact q
    · rw [List.getElem?_append_right (by rw [List.length_map]; omega), List.length_map] at q2
      by_cases h2i : i < ps.length + fr.length
      · have hq : (ps ++ fr)[i]? = some y := by
          rw [← S.pre, List.getElem?_take_of_lt (by omega)]
          exact q1
        rw [List.getElem?_append_right (by omega)] at hq
        rw [List.getElem?_append_left (by omega), hl] at q2
        obtain ⟨c, hc, hv⟩ := C.has (i - ps.length) y hq
        obtain ⟨u, ru, hu⟩ := hv v q2
        have hm := List.mem_of_getElem? hq
        refine ⟨u, ru, .inr ⟨.inr (S.frk y hm), c, ?_, cellK hu⟩⟩
        show (cellsFrom (s.heap.objs.size + 1) F.scope.names F.cl).lookup y = some c
        rw [frL y hm]
        exact hc
      · rw [List.getElem?_append_right (by omega), List.getElem?_replicate] at q2
        split at q2 <;> cases q2
  · rcases two y c q with a | a
    · exact ⟨_, x.cell y c a⟩
    · obtain ⟨v, z⟩ := (C.all y c a).2
      exact ⟨v, cellK z⟩
  · rcases two y c q with a | a
    · exact e0.hok.fresh (Nat.le_of_lt (high y c a))
    · exact (C.all y c a).1
  · unfold startF
    show _ = N.length
    rw [List.length_append, List.length_append, List.length_map, List.length_replicate]
    omega
/-- the rule: by its body -/
theorem nok_own {k : Nat} {sp : List (Option V) → Sp} (S : NSc N ps fr F.scope own) (hcl : ∀ y c, F.cl.lookup y = some c → y ∈ fr) (hb : ∀ (doc pm ctv : Value) (us : List Value), us.length = ps.length → bindArgs (F.fd doc pm ctv) ⟨us, []⟩ = pure (ps.zip us))
    (len : ∀ ws vs H Q E, sp ws vs H Q E → vs.length = ps.length)
    (body : ∀ (A : Around) (outer : List Env) (s : Shared) (H : Hp) (vs : List V) (ws : List (Option V)) (Q : VK) (E : XK), Room k (A.deeper (envO F f s.heap.objs.size)) → ws.length = fr.length → sp ws vs H Q E →
      ∃ t, PSs (ocx CX P w K mg base N own F f A outer s H E) F.body t ∧ t { nx := fun _ H' => Q .non H', rt := Q } (startF N vs ws) H) :
    NOk P w K mg base CX (k + 1) f F ps fr sp := by
  refine ⟨len, fun A outer s H us vs ws Q E hr e0 hf hc C r hsp => ?_⟩
  have hl := len _ _ _ _ _ hsp
  have lim : s.heap.NoLimit := e0.mod.nolimit.keeps fun b o e => (e0.bs b o e).1
  obtain ⟨od, sl, doc, pm, ctv, ho⟩ := fnO_at e0.hok hf
  have kinds : ∀ p ∈ ps.zip us, F.scope.names.lookup p.1 = some .local ∨ (F.scope.names.lookup p.1 = some .cell ∧ ((cellsFrom (s.heap.objs.size + 1) F.scope.names []).lookup p.1).isSome = true) := fun ⟨n, v⟩ hy => by
    rcases S.par n (List.of_mem_zip hy).1 with q | q
    · exact .inl q
    · exact .inr ⟨q, PySem.W.cellsFrom_some _ _ _ (.inl q)⟩
  refine codeAny_call_function hr.depth ho rfl S.co S.gen rfl (codeO_at e0.hok hc) ?_
  rw [hb doc pm ctv us (by rw [← r.length]; exact hl)]
  refine wpAny_pure (env_clo S.kind kinds fun s1 I1 => ⟨lim.keeps I1.toInCall.keep, ?_⟩)
  show codeAny _ _ (.func F.body (envO F f s.heap.objs.size)) _ _
  refine codeAny_func ?_
  obtain ⟨t, ht, hq⟩ := body A outer s H vs ws Q E (hr.deeper _) C.len hsp
  have I : Inv (ocx CX P w K mg base N own F f A outer s H E) [] (startF N vs ws) H s1 := inv_startO S hcl hr.hd e0 hl r C I1
  refine wpAny_mono (ht.run [] _ (startF N vs ws) H _ I hq) (fun fl s' hs => ?_) fun e s' hs => hs
  have fin : ∀ {σ' : L2.St} {H' : Hp} {v : V} {u : Value}, Inv (ocx CX P w K mg base N own F f A outer s H E) [] σ' H' s' → L2.RelV v u → Q v H' → CE outer P w H s Q u s' :=
    fun {σ' H' v u} J rv q => ⟨v, H', J.os, J.bare, J.base, J.hok, rv, q⟩
  cases fl with
  | ret u =>
    obtain ⟨v, σ', H', J, rv, q⟩ := hs
    exact fin J rv q
  | next =>
    obtain ⟨σ', H', J, q⟩ := hs
    exact fin (v := V.non) (u := Value.none) J rfl q
  | brk =>
    obtain ⟨_, _, _, q⟩ := hs
    exact False.elim q
  | cont =>
    obtain ⟨_, _, _, q⟩ := hs
    exact False.elim q
end
/-! ### a def that is handed a function with captured cells -/
structure FnC (P : Program) (w : World) (K : PySem.W.Frag) (mg : Str → Option Value) (base : Heap) (CX : CXT) (k : Nat) (f : Addr) (fd : FuncData) (ps : List Str) (cl : List (Str × Addr)) (fr : List Str) (ws : List (Option V)) (sp : Sp) : Prop where
  len : ∀ vs H Q E, sp vs H Q E → vs.length = ps.length
  run : ∀ (A : Around) (outer : List Env) (s : Shared) (H : Hp) (args : Args) (us : List Value) (vs : List V) (Q : VK) (E : XK), Room k A → Env0 P w K mg base A outer s H → CellsAt cl fr ws s.heap H → (∀ y c, cl.lookup y = some c → c ∉ frs outer) →
    BindsTo s fd args (ps.zip us) → Vals vs us → sp vs H Q E → codeAny (model P w) A (.call (.ref f) args) (CR CX outer P w H s Q E) s
theorem fnc_of {P : Program} {w : World} {K : PySem.W.Frag} {mg : Str → Option Value} {base : Heap} {x qual : Str} {st : Stmt} {f : Addr} {fd : FuncData} {N ps : List Str} {k : Nat} {cl : List (Str × Addr)} {fr : List Str} {ws : List (Option V)} {sp : Sp} (F : Fun K x qual st f fd) (S : FnScope N ps (defScope st))
    (len : ∀ vs H Q E, sp vs H Q E → vs.length = ps.length)
    (body : ∀ (cdv : Value) (A : Around) (outer : List Env) (s : Shared) (H : Hp) (vs : List V) (Q : VK) (E : XK), Room k (A.deeper (envOfC qual (defScope st) s.heap.objs.size f cdv)) → CellsAt cl fr ws s.heap H → (∀ y c, cl.lookup y = some c → c ∉ frs outer) → sp vs H Q E →
      ∃ t, PSs (cxOf CX0 P w K mg base N qual (defScope st) f cdv A outer s H E).nox (defBody st) t ∧ t { nx := fun _ H' => Q .non H', rt := Q } (start N vs) H) :
    FnC P w K mg base CX0 (k + 1) f fd ps cl fr ws sp := by
  obtain ⟨oc, od, kV, doc, pm, an, cdv, ct, osl, rfl, lk, hcd⟩ := F.ex
  refine ⟨len, fun A outer s H args us vs Q E hr e0 C nf hb r hsp => ?_⟩
  have hl := len _ _ _ _ hsp
  have KX : K.In s.heap := e0.mod.kin.keeps fun b o e => (e0.bs b o e).1
  have lim : s.heap.NoLimit := e0.mod.nolimit.keeps fun b o e => (e0.bs b o e).1
  have kinds : ∀ p ∈ ps.zip us, (defScope st).names.lookup p.1 = some .local ∨ ((defScope st).names.lookup p.1 = some .cell ∧ ((cellsFrom (s.heap.objs.size + 1) (defScope st).names []).lookup p.1).isSome = true) := fun ⟨n, v⟩ hy => by
    rcases S.par n (List.of_mem_zip hy).1 with q | q
    · exact .inl q
    · exact .inr ⟨q, PySem.W.cellsFrom_some _ _ _ (.inl q)⟩
  refine codeAny_call_function hr.depth (KX _ _ lk) rfl S.co S.gen rfl (PySem.W.codeRec_of KX hcd) (hb _ _ _ _ ?_)
  refine wpAny_newFunctionEnv_cells S.kind kinds fun env he s1 I1 => ?_
  subst he
  refine ⟨lim.keeps I1.toInCall.keep, codeAny_func ?_⟩
  obtain ⟨t, ht, hq⟩ := body cdv A outer s H vs Q E (hr.deeper _) C nf hsp
  have I : Inv (cxOf CX0 P w K mg base N qual (defScope st) f cdv A outer s H E) [] (start N vs) H s1 := inv_start S hr.hd e0 hl r I1
  refine wpAny_mono (ht.nox.run [] s1 (start N vs) H _ I hq) (fun fl s' hs => ?_) fun e s' hs => hs
  have fin : ∀ {σ' : L2.St} {H' : Hp} {v : V} {u : Value}, Inv (cxOf CX0 P w K mg base N qual (defScope st) f cdv A outer s H E) [] σ' H' s' → L2.RelV v u → Q v H' → CE outer P w H s Q u s' :=
    fun {σ' H' v u} J rv q => ⟨v, H', J.os, J.bare, J.base, J.hok, rv, q⟩
  cases fl with
  | ret u =>
    obtain ⟨v, σ', H', J, rv, q⟩ := hs
    exact fin J rv q
  | next =>
    obtain ⟨σ', H', J, q⟩ := hs
    exact fin (v := V.non) (u := Value.none) J rfl q
  | brk =>
    obtain ⟨_, _, _, q⟩ := hs
    exact False.elim q
  | cont =>
    obtain ⟨_, _, _, q⟩ := hs
    exact False.elim q
section
variable {X : Cx} {CX : CXT} {F : NF} {ps fr : List Str} {js : List Nat} {i j k : Nat} {x : Str} {E : XK} {t : TA} {e : Expr} {es : List Expr} {p pos : Pos} {g : Addr} {ws : List (Option V)}
/-- f(..), f a parameter that holds a function whose cells were so at the frame's beginning -/
def tCallC (i : Nat) (g : Addr) (F : NF) (sp : Sp) (E : XK) (t : TA) : TE := fun σ H Q => σ[i]? = some (some (.ref g)) ∧ H g = some (FnO g F) ∧ t σ H fun vs H1 => H1 g = some (FnO g F) ∧ H1 F.c = some (CodeO F.c F.qual) ∧ sp vs H1 Q E
theorem pe_callC {spN : List (Option V) → Sp} (Fn : NOk X.prog X.w X.K X.mg X.base CX k g F ps fr spN) (C : CellsAt F.cl fr ws X.s_0.heap X.H_0) (nf : ∀ y c, F.cl.lookup y = some c → c ∉ X.fs) (nx : X.ex = []) (hr : Room j X.A) (hk : k ≤ j) (hx : Passes CX X E) (hN : X.N[i]? = some x) (hv : Vis X.env.scope x) (ha : PA X (e :: es) t)
    (hd : (x == ("__debug__" : Str)) = false := by decide) (hcd : (x == ("__classdict__" : Str)) = false := by decide)
    (he : starEach (e :: es) X.env = (false, eval e X.env) :: starEach es X.env := by rfl) (hpl : (backTo pos (starEach es X.env)).any (·.1) = false := by rfl) :
    PE X (.Call (.Name x p) (e :: es) [] pos) (tCallC i g F (spN ws) E t) := by
  refine ⟨fun pins s σ H Q I h => ?_⟩
  obtain ⟨hs, hf, ht⟩ := h
  refine wpAny_Call_Name_kw (thn ((pe_var (pos := p) hN hv hd hcd).run pins s σ H (fun v H1 => v = .ref g ∧ H1 = H) I ⟨.ref g, hs, rfl, rfl⟩) fun u s1 ⟨v, H1, I1, r1, q1⟩ => ?_)
  obtain ⟨rfl, rfl⟩ := q1
  obtain rfl : u = Value.ref g := r1
  refine PySem.W.callWith_F (first := []) (fnAt_of I1 hf) (thn (ha.run pos pins s1 σ _ _ I1 ht) fun us s2 ⟨vs, H2, I2, r, h1, h2, q⟩ => ⟨fnAt_of I2 h1, ?_⟩) he hpl
  show wpAny _ _ (call (.ref g) us) _ _ _
  have C2 := C.later nf (fun y c _ z => by rw [nx] at z; cases z) I2
  refine wpAny_call (codeAny_mono (Fn.run X.A X.stack s2 H2 us vs ws Q E (hr.mono hk) I2.env0 h1 h2 C2 r q) fun r s' hq => ?_)
  cases r with
  | error e => exact hx pins σ H2 s2 e s' I2 hq
  | ok fl =>
    cases fl with
    | ret u => exact I2.after hq
    | next => exact False.elim hq
    | brk => exact False.elim hq
    | cont => exact False.elim hq
/-- h(.., f), h a def of the module, f a function made here -/
def tCallH (js : List Nat) (sp : Addr → Addr → List (Option V) → Sp) (E : XK) (t : TA) : TE := fun σ H Q => t σ H fun vs H1 => ∃ g c', sp g c' (js.map (slotAt σ)) vs H1 Q E
theorem pe_callH {cl : List (Str × Addr)} {f : Addr} {fd : FuncData} {sp : Addr → Addr → List (Option V) → Sp} (Fn : ∀ g c' ws, FnC X.prog X.w X.K X.mg X.base CX k f fd ps cl fr ws (sp g c' ws)) (cp : X.Ok → Caps X cl fr js) (hfn : ∀ y, X.fn y = true)
    (hr : Room k X.A) (hg : Gl X x) (hm : X.mg x = some (.ref f)) (hk : PySem.W.keepIn X.K (.ref f) = true) (hb : Binds X.K fd ps []) (hx : Passes CX X E)
    (ha : PA X (e :: es) t) (hdb : (x == ("__debug__" : Str)) = false := by decide) (he : starEach (e :: es) X.env = (false, eval e X.env) :: starEach es X.env := by rfl) (hpl : (backTo pos (starEach es X.env)).any (·.1) = false := by rfl) :
    PE X (.Call (.Name x p) (e :: es) [] pos) (tCallH js sp E t) := by
  refine ⟨fun pins s σ H Q I h => ?_⟩
  refine wpAny_Call_Name_kw (ld_glob I hg hm ?_ hdb)
  refine PySem.W.callWith_K (h₀ := X.base) I.ok.mod.kin hk (thn (ha.run pos pins s σ H _ I h) fun us s1 ⟨vs, H1, I1, r, g, c', q⟩ => ⟨I1.kIn, ?_⟩) he hpl
  have hl : us.length = ps.length := by
    rw [← r.length]
    exact (Fn g c' _).len _ _ _ _ q
  have cap := cp I1.ok
  have hbb := hb s1 us I1.kIn (by rw [List.append_nil]; exact hl)
  rw [List.append_nil] at hbb
  have nf : ∀ y c, cl.lookup y = some c → c ∉ frs X.stack := fun y c q z => by
    have qc := cap.sub y c q
    rcases List.mem_cons.mp (I1.stkSub c z) with e1 | e1
    · exact I1.cne y c qc e1
    · obtain ⟨_, o, ho, _⟩ := I1.ok.funs.mem e1
      have h1 := Heap.lt_size ho
      have h2 := I1.ok.cab y c (hfn y) qc
      exact absurd h1 (Nat.not_lt_of_le h2)
  refine wpAny_call (codeAny_mono ((Fn g c' _).run X.A X.stack s1 H1 ⟨us, []⟩ us vs Q E hr I1.env0 (cells_of I1 cap) nf hbb r q) fun r s' hq => ?_)
  cases r with
  | error e => exact hx pins σ H1 s1 e s' I1 hq
  | ok fl =>
    cases fl with
    | ret u => exact I1.after hq
    | next => exact False.elim hq
    | brk => exact False.elim hq
    | cont => exact False.elim hq
end
end Bk

namespace Bk
open PySem PySem.Spec PyProof.Rows L2 Evl LamX NdefX
open Oc (C)
abbrev s_has_bit : Stmt := top 19
abbrev s_joined : Stmt := top 20
abbrev s_column_by : Stmt := top 21
abbrev s_is_broken : Stmt := top 22
abbrev s_lowest_broken : Stmt := top 23
abbrev s_column : Stmt := top 27
abbrev s_inside_column : Stmt := top 28
abbrev s_axiom_columns : Stmt := top 29
abbrev s_lowest_holding : Stmt := top 30
section
variable {P : Program} {w : World} {K : PySem.W.Frag} {mg : Str → Option Value} {base : Heap}
/-! ### has_bit -/
def spAH : Sp := fun vs H Q _ => ∃ k t : Nat, vs = [vN t, vN k] ∧ Ret H Q fun v _ => v = .bl (Oc.bit t k)
theorem sp_ah {H : Hp} {k t : Nat} : SpP spAH [vN t, vN k] H fun v _ => v = .bl (Oc.bit t k) := fun H1 e Q q E => ⟨k, t, rfl, q⟩
theorem sc_has_bit : FnScope ["number", "k"] ["number", "k"] (defScope s_has_bit) := ⟨rfl, rfl, rfl, by decide +kernel, rfl, by decide +kernel, by decide +kernel⟩
theorem bit_int (t k : Nat) : Builtin.bitAnd ((t : Int) / 2 ^ k) 1 = ((t / 2 ^ k % 2 : Nat) : Int) := by
  have h := Bits.bitAnd_mask (x := ((t / 2 ^ k : Nat) : Int)) 1 (Int.natCast_nonneg _)
  have e : ((t : Int) / 2 ^ k) = ((t / 2 ^ k : Nat) : Int) := by
    rw [Int.natCast_ediv, Int.natCast_pow]
    rfl
  rw [e]
  have e1 : (1 : Int) = 2 ^ 1 - 1 := by decide
  rw [e1, h]
  show ((t / 2 ^ k : Nat) : Int) % 2 = _
  omega
theorem ok_has_bit {f : Addr} {fd : FuncData} (F : Fun K "has_bit" "has_bit" s_has_bit f fd) : FnOk P w K mg base CX0 1 f fd ["number", "k"] spAH := by
  refine F.ok sc_has_bit (fun vs H Q E h => ?_) (fun cdv A outer s H vs Q E hr h => ⟨_, pss_one (ps_ret (pe_cmpR op_eq (pe_op op_and (pe_op op_shr (pv 0) (pv 1)) pe_int) pe_int (nomark _))), ?_⟩)
  · obtain ⟨k, t, rfl, _⟩ := h
    rfl
  · obtain ⟨k, t, rfl, q⟩ := h
    refine s_ret (v := .bl (Oc.bit t k)) (ev_is (ev_op (ev_op (ev_op (ev_var rfl) (ev_var rfl) (rv_I (show (0 : Int) ≤ (k : Int) by omega))) ev_c rv_I0) ev_c (rv_eq rfl)) ?_) fun H1 e => q _ H1 e rfl
    show V.bl (decide (V.int (Builtin.bitAnd ((t : Int) / 2 ^ ((k : Int).toNat)) 1) = V.int ((1 : Nat) : Int))) = _
    rw [Int.toNat_natCast, bit_int, dec_nat]
    congr 1
/-! ### columns: what a concept is worth at each of so many places -/
abbrev Vl := C → Nat → Bool
structure VSem (val : Vl) : Prop where
  top : ∀ t, val .top t = true
  bot : ∀ t, val .bot t = false
  and : ∀ c d t, val (.and c d) t = (val c t && val d t)
  or : ∀ c d t, val (.or c d) t = (val c t || val d t)
  not : ∀ c t, val (.not c) t = !val c t
def colG (n : Nat) (val : Vl) (c : C) : List Bool := (List.range n).map (val c)
theorem colG_get {n : Nat} {val : Vl} {c : C} {t : Nat} (h : t < n) : (colG n val c)[t]? = some (val c t) := by simp [colG, h]
def ColG (K : PySem.W.Frag) (H : Hp) (n : Nat) (val : Vl) (v : V) (c : C) : Prop := ∃ a, v = .ref a ∧ SqL K H a ((colG n val c).map V.bl)
theorem ColG.mono {H H' : Hp} {n : Nat} {val : Vl} {v : V} {c : C} (e : Ex H H') (h : ColG K H n val v c) : ColG K H' n val v c := by
  obtain ⟨a, rfl, q⟩ := h
  exact ⟨a, rfl, ex_l e q⟩
theorem colG_at {n : Nat} {val : Vl} {c : C} {t : Nat} (h : t < n) : atI ((colG n val c).map V.bl) (t : Int) = some (.bl (val c t)) := atI_nat (by rw [List.getElem?_map, colG_get h]; rfl)
/-- of the types -/
def kv (at_ : List C) : Vl := fun c t => Oc.holds at_ t c
theorem kv_sem (at_ : List C) : VSem (kv at_) := ⟨fun _ => rfl, fun _ => rfl, fun _ _ _ => rfl, fun _ _ _ => rfl, fun _ _ => rfl⟩
abbrev Col (K : PySem.W.Frag) (H : Hp) (at_ : List C) (v : V) (c : C) : Prop := ColG K H (2 ^ at_.length) (kv at_) v c
theorem Col.mono {H H' : Hp} {at_ : List C} {v : V} {c : C} (e : Ex H H') (h : Col K H at_ v c) : Col K H' at_ v c := ColG.mono e h
theorem col_at {at_ : List C} {c : C} {t : Nat} (h : t < 2 ^ at_.length) : atI ((col at_ c).map V.bl) (t : Int) = some (.bl (Oc.holds at_ t c)) := colG_at (val := kv at_) h
/-- of the things of a model -/
def tv (m : List Oc01.Thing) : Vl := fun c x => Oc12.isOf m c x
theorem tv_sem (m : List Oc01.Thing) : VSem (tv m) := ⟨fun t => by simp [tv, Oc12.isOf], fun t => by simp [tv, Oc12.isOf], fun _ _ _ => by simp [tv, Oc12.isOf], fun _ _ _ => by simp [tv, Oc12.isOf], fun _ _ => by simp [tv, Oc12.isOf]⟩
/-! ### joined -/
def spJ (K : PySem.W.Frag) : Sp := fun vs H Q _ => ∃ (n : Nat) (val : Vl) (d : C) (pa : Addr) (pvs : List V) (t : Nat), vs = [vN ((enc d).headD 0), .ref pa, vN t] ∧ VSem val ∧ isAt d = false ∧ SqL K H pa pvs ∧ All2 (ColG K H n val) pvs (partsOf d) ∧ t < n ∧ Ret H Q fun v _ => v = .bl (val d t)
theorem sp_j {H : Hp} {n : Nat} {val : Vl} {d : C} {pa : Addr} {pvs : List V} {t : Nat} (S : VSem val) (hd : isAt d = false) (hp : SqL K H pa pvs) (hA : All2 (ColG K H n val) pvs (partsOf d)) (ht : t < n) : SpP (spJ K) [vN ((enc d).headD 0), .ref pa, vN t] H fun v _ => v = .bl (val d t) :=
  fun H1 e Q q E => ⟨n, val, d, pa, pvs, t, rfl, S, hd, ex_l e hp, hA.mono fun _ _ z => z.mono e, ht, q⟩
theorem sc_joined : FnScope ["head", "parts", "which"] ["head", "parts", "which"] (defScope s_joined) := ⟨rfl, rfl, rfl, by decide +kernel, rfl, by decide +kernel, by decide +kernel⟩
theorem ev_part {σ : L2.St} {H : Hp} {ta tb tc : TE} {n : Nat} {val : Vl} {pa : Addr} {pvs : List V} {cs : List C} {t i : Nat} {c : C} (ha : Ev ta σ H (.ref pa)) (hb : Ev tb σ H (vN i)) (hc : Ev tc σ H (vN t)) (hp : SqL K H pa pvs) (hA : All2 (ColG K H n val) pvs cs) (hi : cs[i]? = some c) (ht : t < n) :
    Ev (tOp (rIxL K) (tOp (rIxL K) ta tb) tc) σ H (.bl (val c t)) := by
  obtain ⟨v, hv, ⟨a, rfl, q⟩⟩ := hA.get hi
  exact ev_op (ev_op ha hb (rv_ixL hp (atI_nat hv))) hc (rv_ixL q (colG_at ht))
theorem ok_joined {f : Addr} {fd : FuncData} (F : Fun K "joined" "joined" s_joined f fd) (T : Txt K mg) : FnOk P w K mg base CX0 1 f fd ["head", "parts", "which"] (spJ K) := by
  refine F.ok sc_joined (fun vs H Q E h => ?_) (fun cdv A outer s H vs Q E hr h => ⟨_,
    pss_cons (ps_if (pt_cmpR op_eq (pv 0) (pe_cst T.kBOTH) (nomark _)) (pss_one (ps_ret (pe_and (pe_ix ix_list (pe_ix ix_list (pv 1) pe_int (fun _ _ => rfl)) (pv 2) (fun _ _ => rfl)) (pe_one (pe_ix ix_list (pe_ix ix_list (pv 1) pe_int (fun _ _ => rfl)) (pv 2) (fun _ _ => rfl)))))) pss_nil)
    (pss_cons (ps_if (pt_cmpR op_eq (pv 0) (pe_cst T.kEITHER) (nomark _)) (pss_one (ps_ret (pe_or (pe_ix ix_list (pe_ix ix_list (pv 1) pe_int (fun _ _ => rfl)) (pv 2) (fun _ _ => rfl)) (pe_one (pe_ix ix_list (pe_ix ix_list (pv 1) pe_int (fun _ _ => rfl)) (pv 2) (fun _ _ => rfl)))))) pss_nil)
    (pss_cons (ps_if (pt_cmpR op_eq (pv 0) (pe_cst T.kNOT) (nomark _)) (pss_one (ps_ret (pe_not (pe_ix ix_list (pe_ix ix_list (pv 1) pe_int (fun _ _ => rfl)) (pv 2) (fun _ _ => rfl))))) pss_nil)
    (pss_one (ps_ret (pe_cmpR op_eq (pv 0) (pe_cst T.kEVERYTHING) (nomark _)))))), ?_⟩)
  · obtain ⟨n, val, d, pa, pvs, t, rfl, _⟩ := h
    rfl
  · obtain ⟨n, val, d, pa, pvs, t, rfl, S, hd, hp, hA, ht, k⟩ := h
    refine q_when (et_is (et_test (ev_op (ev_var rfl) ev_c (rv_eq rfl))) (dec_nat (a := (enc d).headD 0) (b := 3))) (fun hb H1 e1 => ?_) (fun hb H1 e1 => ?_)
    · have q := of_decide_eq_true hb
      cases d with
      | and c1 c2 =>
        have hA1 := hA.mono fun _ _ z => z.mono e1
        exact s_ret (ev_andV (ev_part (i := 0) (ev_var rfl) ev_c (ev_var rfl) (ex_l e1 hp) hA1 rfl ht) fun _ => ev_part (i := 1) (ev_var rfl) ev_c (ev_var rfl) (ex_l e1 hp) hA1 rfl ht) fun H2 e2 => k _ H2 (e1.trans e2) (by rw [S.and])
      | _ => simp [enc] at q
    refine q_when (et_is (et_test (ev_op (ev_var rfl) ev_c (rv_eq rfl))) (dec_nat (a := (enc d).headD 0) (b := 4))) (fun hb H2 e2 => ?_) (fun hb H2 e2 => ?_)
    · have q := of_decide_eq_true hb
      cases d with
      | or c1 c2 =>
        have hA1 := hA.mono fun _ _ z => z.mono (e1.trans e2)
        exact s_ret (ev_orV (ev_part (i := 0) (ev_var rfl) ev_c (ev_var rfl) (ex_l (e1.trans e2) hp) hA1 rfl ht) fun _ => ev_part (i := 1) (ev_var rfl) ev_c (ev_var rfl) (ex_l (e1.trans e2) hp) hA1 rfl ht) fun H3 e3 => k _ H3 ((e1.trans e2).trans e3) (by rw [S.or])
      | _ => simp [enc] at q
    refine q_when (et_is (et_test (ev_op (ev_var rfl) ev_c (rv_eq rfl))) (dec_nat (a := (enc d).headD 0) (b := 5))) (fun hb H3 e3 => ?_) (fun hb H3 e3 => ?_)
    · have q := of_decide_eq_true hb
      cases d with
      | not c1 =>
        have hA1 := hA.mono fun _ _ z => z.mono ((e1.trans e2).trans e3)
        exact s_ret (ev_notV (ev_part (i := 0) (ev_var rfl) ev_c (ev_var rfl) (ex_l ((e1.trans e2).trans e3) hp) hA1 rfl ht)) fun H4 e4 => k _ H4 (((e1.trans e2).trans e3).trans e4) (by rw [S.not])
      | _ => simp [enc] at q
    · refine s_ret (v := .bl (val d t)) (ev_is (ev_op (ev_var rfl) ev_c (rv_eq rfl)) ?_) fun H4 e4 => k _ H4 (((e1.trans e2).trans e3).trans e4) rfl
      show V.bl (decide (V.int ((((enc d).headD 0 : Nat) : Int)) = V.int ((0 : Nat) : Int))) = _
      rw [dec_nat]
      have q3 := of_decide_eq_false hb
      rename_i b3 b4
      cases d with
      | top => rw [S.top]; rfl
      | bot => rw [S.bot]; rfl
      | name a => cases hd
      | some r c => cases hd
      | all r c => cases hd
      | and c1 c2 => exact absurd rfl (of_decide_eq_false b3)
      | or c1 c2 => exact absurd rfl (of_decide_eq_false b4)
      | not c1 => exact absurd rfl q3
end
/-! ### small readings -/
section
variable {K : PySem.W.Frag} {H H' : Hp} {σ : L2.St} {te ta tb : TE}
theorem rgV_nat (n : Nat) : rgV 0 (n : Int) = (List.range n).map vN := by
  unfold rgV
  rw [show ((n : Int) - 0).toNat = n by omega]
  apply List.map_congr_left
  intro i _
  show V.int (0 + (i : Int)) = V.int (i : Int)
  rw [Int.zero_add]
theorem el_listRg {n : Nat} (ha : Ev ta σ H (vN n)) (hn : n ≤ 100000) : EvL (tLstRg (tRg1 ta)) σ H ((List.range n).map vN) := fun H1 e Q q =>
  ha H1 e _ fun H2 e2 => ⟨(n : Int), rfl, RgOk.of_le (by omega) (by omega) (by omega) (by omega), fun p hp => by
    rw [rgV_nat]
    exact q p _ (fresh_back e2 hp) (e2.trans (Ex.new hp)) upd_same⟩
theorem idx_of {at_ : List C} {d : C} (h : d ∈ at_) : ∃ j, at_.idxOf? d = some j ∧ at_[j]? = some d ∧ ∀ m, m < j → at_[m]? ≠ some d := by
  cases q : at_.idxOf? d with
  | none =>
    rw [List.idxOf?_eq_none_iff] at q
    exact absurd h q
  | some j =>
    have q' : at_.findIdx? (· == d) = some j := q
    obtain ⟨hj, h1, h2⟩ := List.findIdx?_eq_some_iff_getElem.mp q'
    refine ⟨j, rfl, ?_, fun m hm e => ?_⟩
    · rw [List.getElem?_eq_getElem hj]
      have : at_[j] = d := by simpa using h1
      rw [this]
    · obtain ⟨hm', e'⟩ := List.getElem?_eq_some_iff.mp e
      have := h2 m hm
      rw [e'] at this
      simp at this
theorem holds_atom {at_ : List C} {d : C} {j t : Nat} (hd : isAt d = true) (h : at_.idxOf? d = some j) : Oc.holds at_ t d = Oc.bit t j := by
  cases d with
  | name a => simp only [Oc.holds, h]
  | some r c => simp only [Oc.holds, h]
  | all r c => simp only [Oc.holds, h]
  | top => cases hd
  | bot => cases hd
  | and a b => cases hd
  | or a b => cases hd
  | not a => cases hd
/-- atoms.index(an atom) -/
theorem ev_index {v : V} {at_ : List C} {d : C} {j : Nat} (ha : Ev ta σ H v) (hv : Row K H v at_) (hb : EvP tb σ H fun v H' => CT K H' v d) (ok : ∀ x ∈ at_, Ok x) (od : Ok d) (hj : at_.idxOf? d = some j) (h1 : at_[j]? = some d) (h2 : ∀ m, m < j → at_[m]? ≠ some d) :
    Ev (tBM K "list" (rIndexD K) ta (tCons tb tNil)) σ H (vN j) := fun H1 e Q q => by
  obtain ⟨a, vs, rfl, hl, hA⟩ := hv
  refine ha H1 e _ fun H2 e2 => ?_
  refine ⟨Or.inl ⟨rfl, vs, sq_of ((e.trans e2) a _ hl)⟩, ?_⟩
  refine hb H2 (e.trans e2) _ fun v H3 e3 hv => ?_
  refine ⟨a, v, dC d, at_.map dC, j, dC d, rfl, rfl, .lst (sq_of (((e.trans e2).trans e3) a _ hl)) (dpCs (hA.mono fun _ _ z => z.mono ((e.trans e2).trans e3))), dpC hv, dCs_shaped _, dC_shaped _, by rw [List.getElem?_map, h1]; rfl, ?_, ?_, q H3 (e2.trans e3)⟩
  · rw [dC_eqv od od, decide_eq_true rfl]
  · intro m z hm hz
    rw [List.getElem?_map] at hz
    obtain ⟨x, hx, rfl⟩ := Option.map_eq_some_iff.mp hz
    rw [dC_eqv (ok x (List.mem_of_getElem? hx)) od, decide_eq_false]
    rintro rfl
    exact h2 m hm hx
theorem given_all {n : Nat} {v : Nat → V} : given n (fun _ => true) v = (List.range n).map v := by
  unfold given
  rw [List.filter_eq_self.mpr fun _ _ => rfl]
theorem et_yes : EvT tYes σ H true := fun H1 _ _ q => q H1 (Ex.refl H1)
variable {D : Ends} {tu tz : TS} {g : TG}
theorem q_forRevNL {xs : List V} {tl : TE} (h : EvL tl σ H xs) (Pv : Addr → Nat → L2.St → Hp → Prop) (h0 : ∀ p H1, H p = none → Ex H H1 → H1 p = some (.lst xs) → Pv p 0 σ H1) (hl : ∀ p i σ' H', Pv p i σ' H' → SqL K H' p xs)
    (hs : ∀ p (i : Nat) x σ' H', i < xs.length → xs[xs.length - 1 - i]? = some x → Pv p i σ' H' → g x σ' H' fun σ2 H2 => tu { D with nx := Pv p (i + 1), ct := Pv p (i + 1), bk := tz D } σ2 H2) (hd : ∀ p σ' H', Pv p xs.length σ' H' → tz D σ' H') : tSeq (tFor (iRev K (tCons tl tNil)) g tu) tz D σ H :=
  h H (Ex.refl H) _ fun p H1 hp e h1 => ⟨p, xs, rfl, sq_of h1, RT.for_Itv (K := K) (xs := xs) (D := { D with nx := tz D }) (Pv p) (h0 p H1 hp e h1) (hl p) (hs p) (hd p)⟩
end
/-- a column's list that is none of some addresses and was not there at first -/
def ColX (H0 H : Hp) (S : List Addr) (n : Nat) (val : Vl) (v : V) (c : C) : Prop := ∃ a, v = .ref a ∧ H0 a = none ∧ a ∉ S ∧ H a = some (.lst ((colG n val c).map V.bl))
theorem ColX.mono {H0 H H' : Hp} {S : List Addr} {n : Nat} {val : Vl} {v : V} {c : C} (e : Ex H H') (h : ColX H0 H S n val v c) : ColX H0 H' S n val v c := by
  obtain ⟨a, rfl, n0, nS, q⟩ := h
  exact ⟨a, rfl, n0, nS, e a _ q⟩
theorem ColX.upd {H0 H : Hp} {S : List Addr} {n : Nat} {val : Vl} {v : V} {c : C} {l : Addr} {o : HO} (hl : l ∈ S) (h : ColX H0 H S n val v c) : ColX H0 (upd H l o) S n val v c := by
  obtain ⟨a, rfl, n0, nS, q⟩ := h
  exact ⟨a, rfl, n0, nS, by rw [upd_ne fun z => nS (by rw [z]; exact hl)]; exact q⟩
theorem ColX.col {K : PySem.W.Frag} {H0 H : Hp} {S : List Addr} {n : Nat} {val : Vl} {v : V} {c : C} (h : ColX H0 H S n val v c) : ColG K H n val v c := by
  obtain ⟨a, rfl, n0, nS, q⟩ := h
  exact ⟨a, rfl, sq_of q⟩
theorem ColX.sub {H0 H : Hp} {S S' : List Addr} {n : Nat} {val : Vl} {v : V} {c : C} (hs : ∀ a ∈ S', a ∈ S) (h : ColX H0 H S n val v c) : ColX H0 H S' n val v c := by
  obtain ⟨a, rfl, n0, nS, q⟩ := h
  exact ⟨a, rfl, n0, fun z => nS (hs a z), q⟩
theorem ColX.more {H0 H : Hp} {S : List Addr} {n : Nat} {val : Vl} {v : V} {c : C} {l : Addr} (hl : H l = none) (h : ColX H0 H S n val v c) : ColX H0 H (l :: S) n val v c := by
  obtain ⟨a, rfl, n0, nS, q⟩ := h
  exact ⟨a, rfl, n0, fun z => (List.mem_cons.mp z).elim (fun z => by rw [z, hl] at q; cases q) nS, q⟩
section
variable {P : Program} {w : World} {K : PySem.W.Frag} {mg : Str → Option Value} {base : Heap}
theorem pow_le {n : Nat} (h : n ≤ 10) : 2 ^ n ≤ 1024 := Nat.le_trans (Nat.pow_le_pow_right (by decide) h) (by decide)
theorem parts_le (d : C) : (partsOf d).length ≤ 2 := by cases d <;> simp [partsOf]
theorem head_lt (d : C) : (enc d).headD 0 < 8 := by cases d <;> simp [enc]
/-! ### column_by -/
/-- what the told function must answer, for the atoms of a concept -/
def Tells (K : PySem.W.Frag) (c : C) (n : Nat) (val : Vl) (H : Hp) (sp : Sp) : Prop := ∀ (d : C) (q : Nat) (pa : Addr) (pvs : List V) (H' : Hp), Ex H H' → (q, d) ∈ subsAt 0 c → isAt d = true → SqL K H' pa pvs → All2 (ColG K H' n val) pvs (partsOf d) →
  ∀ (Q : VK) (E : XK), RetL ((colG n val d).map V.bl) H' Q → sp [vN q, .ref pa] H' Q E
def spCB (K : PySem.W.Frag) (g : Addr) (F : NF) (spT : Sp) : Sp := fun vs H Q _ => ∃ (a : Addr) (c : C) (n : Nat) (val : Vl), vs = [.ref a, vN n, .ref g] ∧ H g = some (FnO g F) ∧ H F.c = some (CodeO F.c F.qual) ∧ SqT K H a ((enc c).map vN) ∧ VSem val ∧ n ≤ 2000 ∧ Ok c ∧ (enc c).length ≤ 1000 ∧
  Tells K c n val H spT ∧ RetL ((colG n val c).map V.bl) H Q
abbrev nColumnBy : List Str := ["concept", "total", "tell_atom", "done", "place", "head", "parts", "which"]
theorem sc_column_by : FnScope nColumnBy ["concept", "total", "tell_atom"] (defScope s_column_by) := ⟨rfl, rfl, rfl, by decide +kernel, rfl, by decide +kernel, by decide +kernel⟩
theorem el_callC {σ : L2.St} {H : Hp} {i : Nat} {g : Addr} {F : NF} {sp : Sp} {E : XK} {t : TA} {vs xs : List V} (hi : σ[i]? = some (some (.ref g))) (hg : H g = some (FnO g F)) (hc : H F.c = some (CodeO F.c F.qual)) (h : EvA t σ H vs) (hs : SpL sp vs H xs) : EvL (tCallC i g F sp E t) σ H xs := fun H1 e Q q =>
  ⟨hi, e g _ hg, h H1 e _ fun H2 e2 => ⟨(e.trans e2) g _ hg, (e.trans e2) _ _ hc, hs H2 (e.trans e2) Q (fun p H3 hp e3 h3 => q p H3 (fresh_back e2 hp) (e2.trans e3) h3) E⟩⟩
theorem ok_column_by {f : Addr} {fd : FuncData} {g : Addr} {Fg : NF} {fr : List Str} {ws : List (Option V)} {spN : List (Option V) → Sp} (F : Fun K "column_by" "column_by" s_column_by f fd) (T : Txt K mg) (uHP : Use P w K mg base 2 "head_places" ["concept"] (spHP K)) (uIA : Use P w K mg base 1 "is_atom" ["head"] spIsAtom)
    (uJ : Use P w K mg base 1 "joined" ["head", "parts", "which"] (spJ K)) (Fn : NOk P w K mg base CX0 4 g Fg ["place", "parts"] fr spN) : FnC P w K mg base CX0 5 f fd ["concept", "total", "tell_atom"] Fg.cl fr ws (spCB K g Fg (spN ws)) := by
  obtain ⟨aP, gP, qP⟩ := T.kPARTS
  refine fnc_of F sc_column_by (fun vs H Q E h => ?_) (fun cdv A outer s H vs Q E hr C nf h => ⟨_, pss_cons (ps_set (i := 3) sc_column_by.nd rfl (.inl rfl) (pe_lst pa_nil))
    (pss_cons (ps_for PassesOwn.never rfl (pi_reversed rfl T.reversed (pa_cons (pe_use uHP (hr.mono (by decide)) (pa_cons (pv 0) pa_nil)) pa_nil)) (pg_name (i := 4) sc_column_by.nd rfl (.inl rfl))
      (pss_cons (ps_set (i := 5) sc_column_by.nd rfl (.inr rfl) (pe_ix ix_tup (pv 0) (pv 4) (fun _ _ => rfl)))
      (pss_cons (ps_set (i := 6) sc_column_by.nd rfl (.inr rfl) (pe_lst pa_nil))
      (pss_cons (ps_while PassesOwn.never (pt_cmpR op_lt (pe_len T.len (pv 6)) (pe_ix ix_tup (pe_cst gP) (pv 5) (fun _ _ => rfl)) (nomark _))
        (pss_one (ps_expr (pe_bm PySem.F.plainAttrs_list PySem.F.slot_list_append PySem.F.type_list_append mt_append (pv 6) (pa_cons (pe_bm0 PySem.F.plainAttrs_list PySem.F.slot_list_pop PySem.F.type_list_pop mt_pop (pv 3)) pa_nil)))))
      (pss_one (ps_if (pt_val (pe_use uIA (hr.mono (by decide)) (pa_cons (pv 5) pa_nil)))
        (pss_one (ps_expr (pe_bm PySem.F.plainAttrs_list PySem.F.slot_list_append PySem.F.type_list_append mt_append (pv 3) (pa_cons
          (pe_callC (i := 2) Fn C nf rfl hr (Nat.le_refl 4) pass0 rfl (Or.inl rfl) (pa_cons (pv 4) (pa_cons (pv 6) pa_nil))) pa_nil))))
        (pss_one (ps_expr (pe_bm PySem.F.plainAttrs_list PySem.F.slot_list_append PySem.F.type_list_append mt_append (pv 3) (pa_cons
          (pe_lc (own := [("which", 7)]) (g := gName 7) (tt := tYes) rfl sc_column_by.nd (pi_range1 rfl T.range (pa_cons (pv 1) pa_nil)) (blkOk_by (own := [("which", 7)]) (N := nColumnBy) (sc := defScope s_column_by) (by decide +kernel)) (fun _ _ _ _ _ => pg_name (i := 7) sc_column_by.nd rfl (Or.inl rfl)) (fun _ _ _ _ _ => pts_nil)
            (fun _ _ _ _ _ => pe_use uJ (hr.mono (by decide)) (pa_cons (pv 5) (pa_cons (pv 6) (pa_cons (pv 7) pa_nil))))) pa_nil))))))))))
    (pss_one (ps_ret (pe_ix ix_list (pv 3) pe_int (fun _ _ => rfl))))), ?_⟩)
  · obtain ⟨a, c, n, val, rfl, _⟩ := h
    rfl
  · obtain ⟨a, c, n, val, rfl, hG, hGc, ha, hSem, hn2, oc, hlen, hTell, k⟩ := h
    refine q_asgL (el_lst ea_nil (by decide)) fun l H1 hl2 e1 hd2 => ?_
    have hl0 : H l = none := hl2
    have hls : ((subsAt 0 c).map (·.1)).length = (subs c).length := by rw [List.length_map, ← List.length_map (f := (·.2)), subsAt_snd]
    have hcap : (subs c).length ≤ 1000 := Nat.le_trans (subs_len_le c) hlen
    refine q_forRevNL (K := K) (el_call (ea_cons (ev_var rfl) ea_nil) (sp_hp (ex_t e1 ha) oc hlen)) (fun p i σ' H' => ∃ (ds : List V) (x4 x5 x6 : Option V), σ' = [some (.ref a), some (vN n), some (.ref g), some (.ref l), x4, x5, x6, none] ∧ i ≤ (subs c).length ∧ Ex H H' ∧ p ≠ l ∧ H' p = some (.lst (((subsAt 0 c).map (·.1)).map vN)) ∧ H' l = some (.lst ds) ∧
        All2 (ColX H H' [l] n val) ds (((subs c).drop ((subs c).length - i)).foldr pile []).reverse) ?_ ?_ ?_ ?_
    · intro p H3 hp e3 h3
      refine ⟨[], none, none, none, rfl, Nat.zero_le _, e1.trans e3, fun z => ?_, h3, e3 l _ hd2, ?_⟩
      · rw [z, hd2] at hp
        cases hp
      · rw [Nat.sub_zero, List.drop_length]
        exact .nil
    · rintro p i σ' H' ⟨_, _, _, _, _, _, _, _, h3, _⟩
      exact sq_of h3
    · rintro p i x σ' H' hi hx ⟨ds, x4, x5, x6, rfl, hi', e3, hpl, hp3, hl3, hA3⟩
      rw [List.length_map] at hi
      rw [List.length_map, List.getElem?_map] at hx
      obtain ⟨q, hq, rfl⟩ := Option.map_eq_some_iff.mp hx
      obtain ⟨d, hd, hdj⟩ := subs_get hq
      rw [hls] at hi hdj
      have hds : d ∈ subs c := List.mem_of_getElem? hdj
      have od : Ok d := Ok_subs c d oc hds
      -- the pile: d's parts stand on it
      obtain ⟨n', hn'⟩ : ∃ n', (subs c).length - 1 - i = n' := ⟨_, rfl⟩
      rw [hn'] at hdj
      have hsplit : subs c = (subs c).take n' ++ d :: (subs c).drop (n' + 1) := by
        obtain ⟨hlt, hgd⟩ := List.getElem?_eq_some_iff.mp hdj
        rw [← hgd, ← List.drop_eq_getElem_cons hlt, List.take_append_drop]
      have hn1 : (subs c).length - i = n' + 1 := by omega
      rw [hn1] at hA3
      obtain ⟨r, hr0⟩ := pile_parts c _ d _ [] hsplit
      have hnext : ((subs c).drop ((subs c).length - (i + 1))).foldr pile [] = d :: r := by
        rw [show (subs c).length - (i + 1) = n' by omega, show (subs c).drop n' = d :: (subs c).drop (n' + 1) by
          obtain ⟨hlt, hgd⟩ := List.getElem?_eq_some_iff.mp hdj
          rw [← hgd, ← List.drop_eq_getElem_cons hlt]]
        show pile d (((subs c).drop (n' + 1)).foldr pile []) = _
        show d :: (((subs c).drop (n' + 1)).foldr pile []).drop (partsOf d).length = d :: r
        rw [hr0, List.drop_left]
      rw [hr0] at hA3
      have ha3 := ex_t e3 ha
      refine q_asg (ev_op (ev_var rfl) (ev_var rfl) (rv_ixT ha3 (atN (enc_at oc hd)))) fun H4 e4 => ?_
      refine q_asgL (el_lst ea_nil (by decide)) fun pl H5 hpl5 e5 h5 => ?_
      have hl5 := (e4.trans e5) l _ hl3
      have hll : pl ≠ l := fun z => by
        rw [z, e4 l _ hl3] at hpl5
        cases hpl5
      have hpp : pl ≠ p := fun z => by
        rw [z, e4 p _ hp3] at hpl5
        cases hpl5
      have h1pl : H pl = none := fresh_back (e3.trans e4) hpl5
      have hA5 : All2 (ColX H H5 [pl, l] n val) ds (partsOf d ++ r).reverse := hA3.mono fun _ _ z => ((z.mono e4).more hpl5).mono e5
      refine q_while (fun m σ2 H' => ∃ (j : Nat) (ds ps : List V), σ2 = [some (.ref a), some (vN n), some (.ref g), some (.ref l), some (vN q), some (vN ((enc d).headD 0)), some (.ref pl), none] ∧ j ≤ (partsOf d).length ∧ m = (partsOf d).length - j ∧ Ex H H' ∧ H' p = some (.lst (((subsAt 0 c).map (·.1)).map vN)) ∧ H' l = some (.lst ds) ∧ H' pl = some (.lst ps) ∧
          All2 (ColX H H' [pl, l] n val) ds ((partsOf d ++ r).drop j).reverse ∧ All2 (ColX H H' [pl, l] n val) ps ((partsOf d).take j)) _
        ⟨0, ds, [], rfl, Nat.zero_le _, rfl, e3.trans (e4.trans e5), (e4.trans e5) p _ hp3, hl5, h5, hA5, .nil⟩ ?_
      rintro m σ2 H6 ⟨j, ds, ps, rfl, hj, rfl, e6, hp6, hl6, hpl6, hA6, hP6⟩
      have hlenp : ps.length = j := by
        rw [hP6.1, List.length_take, Nat.min_eq_left hj]
      refine ⟨_, et_test (ev_op (ev_len (ev_var rfl) (sq_of hpl6)) (ev_op ev_c (ev_var rfl) (rv_ixT (qP H6) (atN (parts_at (head_lt d))))) rv_I0), fun hb H7 e7 => ?_, fun hb H7 e7 => ?_⟩
      · have hlt : j < (partsOf d).length := by
          have := of_decide_eq_true hb
          rw [partsOf_len]
          omega
        obtain ⟨c0, hc0⟩ : ∃ c0, (partsOf d)[j]? = some c0 := ⟨_, List.getElem?_eq_getElem hlt⟩
        have hdrop : (partsOf d ++ r).drop j = c0 :: (partsOf d ++ r).drop (j + 1) := by
          have : (partsOf d ++ r)[j]? = some c0 := by rw [List.getElem?_append_left hlt, hc0]
          obtain ⟨hlt', hgd⟩ := List.getElem?_eq_some_iff.mp this
          rw [← hgd, ← List.drop_eq_getElem_cons hlt']
        rw [hdrop, List.reverse_cons] at hA6
        have hdl : ds.length = ((partsOf d ++ r).drop (j + 1)).length + 1 := by
          rw [hA6.1, List.length_append, List.length_reverse]
          rfl
        obtain ⟨y, hy⟩ : ∃ y, ds[ds.length - 1]? = some y := ⟨_, List.getElem?_eq_getElem (by omega)⟩
        have hyc : ColX H H6 [pl, l] n val y c0 := by
          refine hA6.2 _ y c0 hy ?_
          rw [List.getElem?_append_right (by rw [List.length_reverse]; omega), List.length_reverse, show ds.length - 1 - ((partsOf d ++ r).drop (j + 1)).length = 0 by omega]
          rfl
        have hA7 : All2 (ColX H H7 [pl, l] n val) ds.dropLast ((partsOf d ++ r).drop (j + 1)).reverse := by
          refine ⟨by rw [List.length_dropLast, List.length_reverse]; omega, fun i x z h1 h2 => ?_⟩
          have hi2 : i < ((partsOf d ++ r).drop (j + 1)).reverse.length := (List.getElem?_eq_some_iff.mp h2).1
          have hi3 : i < ((partsOf d ++ r).drop (j + 1)).length := by rw [List.length_reverse] at hi2; exact hi2
          refine (hA6.2 i x z ?_ ?_).mono e7
          · rw [List.getElem?_dropLast] at h1
            split at h1
            · exact h1
            · cases h1
          · rw [List.getElem?_append_left hi2]
            exact h2
        refine ⟨_, fun σ2 H2 n => n, ?_⟩
        -- parts.append(done.pop())
        have hl7 := e7 l _ hl6
        have hpl7 := e7 pl _ hpl6
        have hplU : upd H7 l (.lst ds.dropLast) pl = some (.lst ps) := by
          rw [upd_ne hll]
          exact hpl7
        refine ⟨_, rfl, Or.inl ⟨rfl, ps, sq_of hpl7⟩, _, rfl, Or.inl ⟨rfl, ds, sq_of hl7⟩, l, ds, y, rfl, rfl, hl7, hy, pl, ps, y, rfl, rfl, hplU, sz_lt (by rw [hlenp]; have := parts_le d; omega), ?_⟩
        refine ⟨_, ?_, j + 1, ds.dropLast, ps ++ [y], rfl, hlt, rfl, Ex.mut (Ex.mut (e6.trans e7) hl0) h1pl, ?_, ?_, upd_same, ?_, ?_⟩
        · omega
        · rw [upd_ne (Ne.symm hpp), upd_ne hpl]
          exact e7 p _ hp6
        · rw [upd_ne (Ne.symm hll)]
          exact upd_same
        · exact hA7.mono fun _ _ z => ColX.upd (by simp) (ColX.upd (by simp) z)
        · rw [take_more hc0]
          exact (hP6.mono fun _ _ z => ColX.upd (by simp) (ColX.upd (by simp) (z.mono e7))).snoc (ColX.upd (by simp) (ColX.upd (by simp) (hyc.mono e7)))
      · have hj2 : j = (partsOf d).length := by
          have := of_decide_eq_false hb
          rw [partsOf_len] at hj ⊢
          omega
        subst hj2
        rw [List.drop_left] at hA6
        rw [List.take_length] at hP6
        have hl7 := e7 l _ hl6
        have hdsl : ds.length < 100000 := by
          have q1 : r.length ≤ (subs c).length := by
            have h9 : (((subs c).drop (n' + 1)).foldr pile []).length ≤ ((subs c).drop (n' + 1)).length := by
              generalize (subs c).drop (n' + 1) = z
              induction z with
              | nil => exact Nat.le_refl _
              | cons u z ih =>
                show (u :: (z.foldr pile []).drop (partsOf u).length).length ≤ z.length + 1
                rw [List.length_cons, List.length_drop]
                omega
            rw [hr0, List.length_append, List.length_drop] at h9
            omega
          rw [hA6.1, List.length_reverse]
          omega
        -- what is appended is d's column
        have fin : ∀ (H9 : Hp) (b : Addr), Ex H7 H9 → H9 b = some (.lst ((colG n val d).map V.bl)) → b ≠ l → H b = none →
            ∃ (ds' : List V) (x4 x5 x6 : Option V), [some (.ref a), some (vN n), some (.ref g), some (.ref l), some (vN q), some (vN ((enc d).headD 0)), some (.ref pl), none] = [some (.ref a), some (vN n), some (.ref g), some (.ref l), x4, x5, x6, none] ∧ i + 1 ≤ (subs c).length ∧ Ex H (upd H9 l (.lst (ds ++ [.ref b]))) ∧ p ≠ l ∧
              upd H9 l (.lst (ds ++ [.ref b])) p = some (.lst (((subsAt 0 c).map (·.1)).map vN)) ∧ upd H9 l (.lst (ds ++ [.ref b])) l = some (.lst ds') ∧
              All2 (ColX H (upd H9 l (.lst (ds ++ [.ref b]))) [l] n val) ds' (((subs c).drop ((subs c).length - (i + 1))).foldr pile []).reverse := by
          intro H9 b e9 hb9 hbl hb0
          refine ⟨ds ++ [.ref b], _, _, _, rfl, by omega, Ex.mut (e6.trans (e7.trans e9)) hl0, hpl, ?_, upd_same, ?_⟩
          · rw [upd_ne hpl]
            exact (e7.trans e9) p _ hp6
          · rw [hnext, List.reverse_cons]
            refine All2.snoc (hA6.mono fun _ _ z => ColX.upd (by simp) (((z.mono (e7.trans e9))).sub (by simp))) ⟨b, rfl, hb0, by simpa using hbl, ?_⟩
            rw [upd_ne hbl]
            exact hb9
        refine s_if (et_B (ev_callP (ea_cons (ev_var rfl) ea_nil) (fun H3 e3 Q q E => ⟨_, rfl, q⟩))) (fun hb8 H8 e8 => ?_) (fun hb8 H8 e8 => ?_)
        · have hisA : isAt d = true := by
            rw [head_isAt]
            exact hb8
          have e08 := e6.trans (e7.trans e8)
          refine s_appL (e8 l _ hl7) (ev_var rfl) (el_callC rfl (e08 g _ hG) (e08 _ _ hGc) (ea_cons (ev_var rfl) (ea_cons (ev_var rfl) ea_nil)) (xs := (colG n val d).map V.bl) fun H9 e9 Q' k' E' =>
            hTell d q pl ps H9 (e08.trans e9) hd hisA (sq_of ((e7.trans (e8.trans e9)) pl _ hpl6)) (hP6.mono fun _ _ z => (z.mono (e7.trans (e8.trans e9))).col) Q' E' k') hdsl fun b H10 hb10 e10 h10 => ?_
          have hbl : b ≠ l := fun z => by
            rw [z, e8 l _ hl7] at hb10
            cases hb10
          exact fin H10 b (e8.trans e10) h10 hbl (fresh_back e08 hb10)
        · have hisA : isAt d = false := by
            rw [head_isAt]
            exact hb8
          refine s_appL (e8 l _ hl7) (ev_var rfl) (el_lcR1 (n := (n : Int)) (fun _ => true) (fun t => .bl (val d t)) (ea_cons (ev_var rfl) ea_nil) ⟨by omega, by omega⟩ (fun x => rfl) (fun i H1 _ _ => et_yes) fun t Hx ex hx _ => ?_) hdsl fun b H10 hb10 e10 h10 => ?_
          · have ht : t < n := by omega
            exact ev_callP (ea_cons (ev_var rfl) (ea_cons (ev_var rfl) (ea_cons (ev_var rfl) ea_nil))) (sp_j (t := t) hSem hisA (sq_of ((e7.trans (e8.trans ex)) pl _ hpl6)) (hP6.mono fun _ _ z => (z.mono (e7.trans (e8.trans ex))).col) ht)
          · have hcol : given (n : Int).toNat (fun _ => true) (fun t => V.bl (val d t)) = (colG n val d).map V.bl := by
              rw [given_all, Int.toNat_natCast]
              unfold colG
              rw [List.map_map]
              rfl
            rw [hcol] at h10
            have hbl : b ≠ l := fun z => by
              rw [z, e8 l _ hl7] at hb10
              cases hb10
            exact fin H10 b (e8.trans e10) h10 hbl (fresh_back (e6.trans (e7.trans e8)) hb10)
    · rintro p σ' H' ⟨ds, x4, x5, x6, rfl, hi', e3, hpl, hp3, hl3, hA3⟩
      rw [List.length_map, hls, Nat.sub_self, List.drop_zero, pile_subs] at hA3
      obtain ⟨v, hv, ⟨b, rfl, hb0, hbl, hb⟩⟩ := hA3.get (i := 0) (y := c) rfl
      refine s_ret (ev_op (ev_var rfl) ev_c (rv_ixL (sq_of hl3) (atI_nat (j := 0) hv))) fun H4 e4 => ?_
      exact k b H4 hb0 (e3.trans e4) (e4 b _ hb)
end
end Bk

namespace Bk
open PySem PySem.Spec PyProof.Rows L2 Evl LamX NdefX
open Oc (C)
/-! ### what stays where tables of code objects may grow -/
def NoT (o : HO) : Prop := ∀ ps, o ≠ .tbl ps
def NoX (o : HO) : Prop := ∀ φ, o ≠ .ext φ
structure Wx (Z : List NTab) (H H' : Hp) : Prop where
  ext : ∀ b o, H b = some o → NoT o → H' b = some o
  tab : TabsN Z H'
  fr : ∀ b, H' b = none → H b = none
section
variable {Z : List NTab} {K : PySem.W.Frag} {H H' H1 H2 : Hp}
theorem Wx.refl (t : TabsN Z H) : Wx Z H H := ⟨fun _ _ h _ => h, t, fun _ h => h⟩
theorem Wx.trans (a : Wx Z H H1) (b : Wx Z H1 H2) : Wx Z H H2 := ⟨fun c o h n => b.ext c o (a.ext c o h n) n, b.tab, fun c h => a.fr c (b.fr c h)⟩
theorem tab_ex (t : TabsN Z H) (e : Ex H H') : TabsN Z H' := t.ext e
theorem Wx.of (t : TabsN Z H) (e : Ex H H') : Wx Z H H' := ⟨fun b o h _ => e b o h, tab_ex t e, fun b h => fresh_back e h⟩
theorem Wx.ex (a : Wx Z H H1) (e : Ex H1 H2) : Wx Z H H2 := a.trans (.of a.tab e)
theorem Wx.at (a : Wx Z H H') {b : Addr} {o : HO} (h : H b = some o) (n : NoT o := by intro _ z; cases z) : H' b = some o := a.ext b o h n
theorem tab_upd (t : TabsN Z H) {p : Addr} {o u : HO} (h : H p = some o) (n1 : NoT o := by intro _ z; cases z) (n2 : NoX o := by intro _ z; cases z) : TabsN Z (upd H p u) := fun z hz => by
  obtain ⟨ps, h1, h2, h3⟩ := t z hz
  refine ⟨ps, ?_, h2, fun pos cv hc => ?_⟩
  · rw [upd_ne fun q => ?_]
    · exact h1
    · rw [q, h] at h1
      exact n1 ps (Option.some.inj h1)
  · obtain ⟨c, e1, e2⟩ := h3 pos cv hc
    refine ⟨c, e1, ?_⟩
    rw [upd_ne fun q => ?_]
    · exact e2
    · rw [q, h] at e2
      exact n2 _ (Option.some.inj e2)
theorem Wx.mut (a : Wx Z H H') {p : Addr} {o u : HO} (hp : H p = none) (h : H' p = some o) (n1 : NoT o := by intro _ z; cases z) (n2 : NoX o := by intro _ z; cases z) : Wx Z H (upd H' p u) := by
  refine ⟨fun b ob hb n => ?_, tab_upd a.tab h n1 n2, fun b hb => ?_⟩
  · rw [upd_ne (ne_of_none hb hp)]
    exact a.ext b ob hb n
  · exact a.fr b (upd_none hb)
theorem wx_rd {a : Addr} {u : HO} (e : Wx Z H H') (h : Rd H a u) (n : NoT u := by intro _ z; cases z) : Rd H' a u := by
  rcases h with h | ⟨o, h⟩
  · exact .inl (e.ext a _ h n)
  · exact .inr ⟨o, e.ext a _ h (by intro _ z; cases z)⟩
theorem wx_l {a : Addr} {xs : List V} (e : Wx Z H H') (h : SqL K H a xs) : SqL K H' a xs := h.elim (fun q => .inl (wx_rd e q)) .inr
theorem wx_t {a : Addr} {xs : List V} (e : Wx Z H H') (h : SqT K H a xs) : SqT K H' a xs := h.elim (fun q => .inl (wx_rd e q)) .inr
theorem CT.w {v : V} {c : C} (e : Wx Z H H') (h : CT K H v c) : CT K H' v c := by
  obtain ⟨a, rfl, q⟩ := h
  exact ⟨a, rfl, wx_t e q⟩
theorem Row.w {v : V} {cs : List C} (e : Wx Z H H') (h : Row K H v cs) : Row K H' v cs := by
  obtain ⟨a, vs, rfl, h1, h2⟩ := h
  exact ⟨a, vs, rfl, e.at h1, h2.mono fun _ _ z => z.w e⟩
theorem ColG.w {n : Nat} {val : Vl} {v : V} {c : C} (e : Wx Z H H') (h : ColG K H n val v c) : ColG K H' n val v c := by
  obtain ⟨a, rfl, q⟩ := h
  exact ⟨a, rfl, wx_l e q⟩
end
/-- a value behind an expression in which tables may grow -/
def EvW (Z : List NTab) (te : TE) (σ : L2.St) (H : Hp) (Φ : V → Hp → Prop) : Prop := ∀ Q : VK, (∀ v H2, Wx Z H H2 → Φ v H2 → Q v H2) → te σ H Q
def SpW (Z : List NTab) (sp : Sp) (vs : List V) (H : Hp) (Φ : V → Hp → Prop) : Prop := ∀ (Q : VK) (E : XK), (∀ v H2, Wx Z H H2 → Φ v H2 → Q v H2) → sp vs H Q E
/-- new things, and what is so of them wherever they stand -/
def EvNW (Z : List NTab) (te : TE) (σ : L2.St) (H : Hp) (R : Hp → V → Prop) : Prop := ∀ Q : VK, (∀ v H2, Wx Z H H2 → (∀ H3, (∀ b o, H b = none → H2 b = some o → NoT o → H3 b = some o) → R H3 v) → Q v H2) → te σ H Q
def RetW (Z : List NTab) (H : Hp) (Q : VK) (Φ : V → Hp → Prop) : Prop := ∀ v H2, Wx Z H H2 → Φ v H2 → Q v H2
def RetLW (Z : List NTab) (xs : List V) (H : Hp) (Q : VK) : Prop := ∀ p H2, H p = none → Wx Z H H2 → H2 p = some (.lst xs) → Q (.ref p) H2
section
variable {Z : List NTab} {K : PySem.W.Frag} {σ : L2.St} {H H' : Hp} {ta tb te tl : TE} {Φ Ψ : V → Hp → Prop} {D : Ends} {tz tu : TS} {x y : V}
theorem ew_of (t : TabsN Z H) (h : EvP te σ H Φ) : EvW Z te σ H Φ := fun Q q => h H (Ex.refl H) Q fun v H2 e hv => q v H2 (.of t e) hv
theorem EvW.imp (h : EvW Z te σ H Φ) (f : ∀ v H2, Wx Z H H2 → Φ v H2 → Ψ v H2) : EvW Z te σ H Ψ := fun Q q => h Q fun v H2 e hv => q v H2 e (f v H2 e hv)
theorem ew_call {sp : Sp} {E : XK} {ta : TA} {vs : List V} (t : TabsN Z H) (h : EvA ta σ H vs) (hs : ∀ H1, Ex H H1 → SpW Z sp vs H1 Φ) : EvW Z (tCall sp [] E ta) σ H Φ := fun Q q =>
  h H (Ex.refl H) _ fun H1 e => by
    rw [List.append_nil]
    exact hs H1 e Q E fun v H2 w hv => q v H2 ((Wx.of t e).trans w) hv
/-- arguments among which new things are -/
theorem ew_callA {sp : Sp} {E : XK} {ta : TA} {Ξ : List V → Hp → Prop} (h : ∀ Q : List V → Hp → Prop, (∀ vs H2, Wx Z H H2 → Ξ vs H2 → Q vs H2) → ta σ H Q) (hs : ∀ vs H1, Wx Z H H1 → Ξ vs H1 → SpW Z sp vs H1 Φ) : EvW Z (tCall sp [] E ta) σ H Φ := fun Q q =>
  h _ fun vs H1 e hv => by
    rw [List.append_nil]
    exact hs vs H1 e hv Q E fun v H2 w hv => q v H2 (e.trans w) hv
theorem ew_meth {sp : Sp} {E : XK} {ta : TE} {t : TA} {vs : List V} {a C dx : Addr} {m : Str} {fs : List (Str × V)} (tt : TabsN Z H) (ha : Ev ta σ H (.ref a)) (ho : H a = some (.ins C dx fs)) (hm : fs.lookup m = none) (h : EvA t σ H vs) (hs : ∀ H1, Ex H H1 → SpW Z sp (.ref a :: vs) H1 Φ) : EvW Z (tMeth C m sp [] E ta t) σ H Φ := fun Q q =>
  ha H (Ex.refl H) _ fun H1 e => ⟨a, dx, fs, rfl, e a _ ho, hm, h H1 e _ fun H2 e2 => by
    rw [List.append_nil]
    exact hs H2 (e.trans e2) Q E fun v H3 w hv => q v H3 ((Wx.of tt (e.trans e2)).trans w) hv⟩
theorem ew_op {r : R2} {z : V} (ha : EvW Z ta σ H Φ) (hb : ∀ v H1, Wx Z H H1 → Φ v H1 → Ev tb σ H1 y) (hr : ∀ v H1, Wx Z H H1 → Φ v H1 → RV r v y H1 (x)) : EvW Z (tOp r ta tb) σ H fun v _ => v = x := fun Q q =>
  ha _ fun v H1 w hv => hb v H1 w hv H1 (Ex.refl H1) _ fun H2 e2 => hr v H1 w hv H2 e2 Q fun H3 e3 => q _ H3 (w.ex (e2.trans e3)) rfl
/-- the second part's value hangs on the first one's -/
theorem ew_opV {r : R2} {f : V → V} (ha : EvW Z ta σ H Φ) (hb : ∀ v H1, Wx Z H H1 → Φ v H1 → Ev tb σ H1 y) (hr : ∀ v H1, Wx Z H H1 → Φ v H1 → RV r v y H1 (f v)) : EvW Z (tOp r ta tb) σ H fun v H2 => ∃ u H1, Wx Z H H1 ∧ Φ u H1 ∧ Ex H1 H2 ∧ v = f u := fun Q q =>
  ha _ fun v H1 w hv => hb v H1 w hv H1 (Ex.refl H1) _ fun H2 e2 => hr v H1 w hv H2 e2 Q fun H3 e3 => q _ H3 (w.ex (e2.trans e3)) ⟨v, H1, w, hv, e2.trans e3, rfl⟩
theorem s_asgW {i : Nat} (h : EvW Z te σ H Φ) (k : ∀ v H1, Wx Z H H1 → Φ v H1 → D.nx (σ.set i (some v)) H1) : tAsg te (gName i) D σ H := h _ k
theorem q_asgW {i : Nat} (h : EvW Z te σ H Φ) (k : ∀ v H1, Wx Z H H1 → Φ v H1 → tz D (σ.set i (some v)) H1) : tSeq (tAsg te (gName i)) tz D σ H := h _ k
theorem s_retW (h : EvW Z te σ H Φ) (k : ∀ v H1, Wx Z H H1 → Φ v H1 → D.rt v H1) : tRet te D σ H := h _ k
/-- a test with a value that hangs on a weak one -/
theorem q_whenW {b : Bool} (h : EvW Z te σ H fun v _ => v = .bl b) (h1 : b = true → ∀ H1, Wx Z H H1 → tu { D with nx := tz D } σ H1) (h2 : b = false → ∀ H1, Wx Z H H1 → tz D σ H1) : tSeq (tIfS (tTest te) tu tNext) tz D σ H :=
  h _ fun v H1 w hv => ⟨b, hv, by
    cases b with
    | true => exact h1 rfl H1 w
    | false => exact h2 rfl H1 w⟩
theorem en_ofW {xs : List V} (h : EvW Z te σ H fun v H2 => ∃ p, v = .ref p ∧ H p = none ∧ H2 p = some (.lst xs)) : EvNW Z te σ H fun H3 v => ∃ p, v = .ref p ∧ H3 p = some (.lst xs) := fun Q q => h Q fun v H2 w hv => by
  obtain ⟨p, rfl, hp, h2⟩ := hv
  exact q _ H2 w fun H3 n => ⟨p, rfl, n p _ hp h2 (by intro _ z; cases z)⟩
theorem en_tupW {R S : Hp → V → Prop} (ha : EvNW Z ta σ H R) (hb : ∀ H1, Wx Z H H1 → EvNW Z tb σ H1 S) : EvNW Z (tTup (tCons ta (tCons tb tNil))) σ H fun H3 v => ∃ p x y, v = .ref p ∧ H3 p = some (.tup [x, y]) ∧ R H3 x ∧ S H3 y := fun Q q =>
  ha _ fun x H1 w1 r1 => hb H1 w1 _ fun y H2 w2 r2 => by
    refine ⟨sz_of (by show 2 ≤ 100000; decide), fun p hp => ?_⟩
    have w3 := w1.trans w2
    have nt : NoT (.tup [x, y]) := by intro _ z; cases z
    refine q _ _ (w3.ex (Ex.new hp)) fun H3 n => ⟨p, x, y, rfl, n p _ (w3.fr p hp) upd_same nt, ?_, ?_⟩
    · refine r1 H3 fun b o h1 h2 h3 => n b o h1 ?_ h3
      rw [upd_ne (ne_of_none (w2.ext b o h2 h3) hp)]
      exact w2.ext b o h2 h3
    · refine r2 H3 fun b o h1 h2 h3 => n b o (w1.fr b h1) ?_ h3
      rw [upd_ne (ne_of_none h2 hp)]
      exact h2
theorem ew_lc {j : Nat} {vs : List Nat} {a : Addr} {xs : List V} {α : Type} {ys : List α} {R : Hp → V → α → Prop} (t : TabsN Z H) (h : Ev tl σ H (.ref a)) (hx : SqL K H a xs) (hlen : xs.length = ys.length) (hz : xs.length ≤ 40000) (hw : ∀ x, wipe ((wipe σ vs).set j (some x)) vs = wipe σ vs)
    (he : ∀ (i : Nat) (x : V) (y : α) (H' : Hp), Wx Z H H' → xs[i]? = some x → ys[i]? = some y → EvNW Z te ((wipe σ vs).set j (some x)) H' fun H3 v => R H3 v y) :
    EvW Z (tLc (iList K tl) (gName j) tYes te vs) σ H fun v H3 => ∃ b zs, v = .ref b ∧ H b = none ∧ H3 b = some (.lst zs) ∧ All2 (R H3) zs ys := fun Q q => h H (Ex.refl H) _ fun H1 e1 => ⟨a, rfl, ⟨xs, ex_l e1 hx⟩, fun D hD => by
  have w1 := Wx.of t e1
  have hD0 : H D = none := w1.fr D hD
  refine lc_list (K := K) (a := a) (xs := xs) (fun i H' => Wx Z H H' ∧ ∃ zs, H' D = some (.lst zs) ∧ i ≤ xs.length ∧ All2 (fun v y => ∀ H3, (∀ b o, b ≠ D → H b = none → H' b = some o → NoT o → H3 b = some o) → R H3 v y) zs (ys.take i))
    ⟨w1.ex (Ex.new hD), [], upd_same, Nat.zero_le _, .nil⟩ (fun i H' _ p => wx_l p.1 hx) (fun i x H' hi p => ?_) (fun H' p => ?_)
  · obtain ⟨wH, zs, hzs, hle, hA⟩ := p
    have hiy : i < ys.length := by
      rw [← hlen]
      exact (List.getElem?_eq_some_iff.mp hi).1
    obtain ⟨y, hy⟩ : ∃ y, ys[i]? = some y := ⟨_, List.getElem?_eq_getElem hiy⟩
    refine ⟨hw x, ?_⟩
    show te ((wipe σ vs).set j (some x)) H' fun v H4 => ∃ acc, H4 D = some (.lst acc) ∧ acc.length < sizeLine ∧ _
    refine he i x y H' wH hi hy _ fun v H2 w2 r => ?_
    have hD2 : H2 D = some (.lst zs) := w2.at hzs
    refine ⟨zs, hD2, sz_lt (by have := hA.1; rw [List.length_take] at this; omega), (wH.trans w2).mut hD0 hD2, zs ++ [v], upd_same, by omega, ?_⟩
    rw [take_more hy]
    refine All2.snoc (hA.mono fun v' y' z H3 n => z H3 fun b o h1 h2 h3 h4 => n b o h1 h2 (by rw [upd_ne h1]; exact w2.ext b o h3 h4) h4) fun H3 n => r H3 fun b o h1 h2 h3 => ?_
    have hbD : b ≠ D := fun z => by
      rw [z, hzs] at h1
      cases h1
    exact n b o hbD (wH.fr b h1) (by rw [upd_ne hbD]; exact h2) h3
  · obtain ⟨wH, zs, hzs, hle, hA⟩ := p
    rw [hlen, List.take_length] at hA
    exact q _ H' wH ⟨D, zs, rfl, hD0, hzs, hA.mono fun v y z => z H' fun b o _ _ h3 _ => h3⟩⟩
end
/-! ### tell_atom of the types -/
abbrev s_tellK : Stmt := (defBody s_column).getD 1 (.Pass ⟨0, 0, 0, 0⟩)
abbrev qnK : Str := ("column" ++ ".<locals>." : Str) ++ "tell_atom"
abbrev nfK (cells : List (Str × Addr)) (c' : Addr) : NF := NF.of s_tellK "tell_atom" qnK (cloFrom cells (C8.fnScope s_tellK).names []) c'
def spTK (K : PySem.W.Frag) : List (Option V) → Sp := fun ws vs H Q _ => ∃ (va vp : V) (a : Addr) (at_ : List C) (c d : C) (q : Nat), ws = [some va, some (.ref a), some (vN (2 ^ at_.length))] ∧ vs = [vN q, vp] ∧ Row K H va at_ ∧ SqT K H a ((enc c).map vN) ∧ Good at_ ∧ at_.length ≤ 10 ∧ Ok c ∧ Within at_ c ∧
  (q, d) ∈ subsAt 0 c ∧ isAt d = true ∧ RetL ((col at_ d).map V.bl) H Q
abbrev nTellK : List Str := ["place", "parts", "atoms", "concept", "total", "k", "kind"]
def ownK : Str → Bool := fun x => x == ("k" : Str)
theorem ncs_tellK : NSc nTellK ["place", "parts"] ["atoms", "concept", "total"] (C8.fnScope s_tellK) ownK :=
  ⟨rfl, rfl, rfl, by decide +kernel, rfl, by decide +kernel, by decide +kernel, by decide +kernel, by decide +kernel, by decide +kernel⟩
theorem clo_in {cells : List (Str × Addr)} {names : List (Str × NameKind)} {fr : List Str} (h : ∀ y ∈ names, y.2 = .free → y.1 ∈ fr) {y : Str} {c : Addr} (q : (cloFrom cells names []).lookup y = some c) : y ∈ fr := by
  rcases cloFrom_mem (PySem.mem_of_lookup q) with z | ⟨z, _⟩
  · cases z
  · exact h _ z rfl
section
variable {P : Program} {w : World} {K : PySem.W.Frag} {mg : Str → Option Value} {base : Heap}
theorem subs_of_at {c d : C} {q : Nat} (h : (q, d) ∈ subsAt 0 c) : d ∈ subs c := by
  rw [← subsAt_snd c 0]
  exact List.mem_map.mpr ⟨(q, d), h, rfl⟩
theorem nn40 {m k : Nat} (h : m ≤ k) (hk : k ≤ 40000) : (0 : Int) ≤ (m : Int) ∧ (m : Int) ≤ 40000 := by omega
theorem ok_tellK {g c' : Addr} {cells : List (Str × Addr)} (T : Txt K mg) (uPA : Use P w K mg base 3 "part_at" ["concept", "place"] (spPA K)) (uAH : Use P w K mg base 1 "has_bit" ["number", "k"] spAH) :
    NOk P w K mg base CX0 4 g (nfK cells c') ["place", "parts"] ["atoms", "concept", "total"] (spTK K) := by
  refine nok_own (N := nTellK) ncs_tellK (fun y c q => clo_in ncs_tellK.free q) (fun doc pm ctv us hl => match us, hl with | [_, _], _ => rfl) (fun ws vs H Q E h => ?_) (fun A outer s H vs ws Q E hr hws h => ⟨_,
    pss_cons (ps_set (i := 5) ncs_tellK.nd rfl (.inr rfl) (pe_bm PySem.F.plainAttrs_list PySem.F.slot_list_index PySem.F.type_list_index (mt_indexD (by have := hr.un; show A.units + 3 + 65 < cLine; have q : A.units + 3 + 16 * 3 + 200 < cLine := this; omega)) (pv 2) (pa_cons (pe_use uPA hr (pa_cons (pv 3) (pa_cons (pv 0) pa_nil))) pa_nil)))
    (pss_one (ps_ret (pe_lc (own := [("kind", 6)]) (g := gName 6) (tt := tYes) rfl ncs_tellK.nd (pi_range1 rfl T.range (pa_cons (pv 4) pa_nil)) (blkOk_by (own := [("kind", 6)]) (N := nTellK) (sc := C8.fnScope s_tellK) (by decide +kernel)) (fun _ _ _ _ _ => pg_name (i := 6) ncs_tellK.nd rfl (Or.inl rfl)) (fun _ _ _ _ _ => pts_nil)
      (fun _ _ _ _ _ => pe_use uAH (hr.mono (by decide)) (pa_cons (pv 6) (pa_cons (pv 5) pa_nil)))))), ?_⟩)
  · obtain ⟨va, vp, a, at_, c, d, q, rfl, rfl, _⟩ := h
    rfl
  · obtain ⟨va, vp, a, at_, c, d, q, rfl, rfl, hR, ha, hg, hl, oc, hwi, hq, hd, k⟩ := h
    have hds := subs_of_at hq
    have od : Ok d := Ok_subs c d oc hds
    have hp10 := pow_le hl
    obtain ⟨jx, hjx, hj1, hj2⟩ := idx_of (hwi d hds hd)
    refine q_asg (ev_index (ev_var rfl) hR (evp_call (ea_cons (ev_var rfl) (ea_cons (ev_var rfl) ea_nil)) (sp_pa ha oc hq)) hg.ok od hjx hj1 hj2) fun H1 e1 => ?_
    refine s_retL (el_lcR1 (n := ((2 ^ at_.length : Nat) : Int)) (fun _ => true) (fun t => .bl (Oc.bit t jx)) (ea_cons (ev_var rfl) ea_nil) (nn40 hp10 (by decide)) (fun x => rfl) (fun i H1 _ _ => et_yes) fun t Hx ex hx _ => ?_) fun b H2 hb e2 h2 => k b H2 (fresh_back e1 hb) (e1.trans e2) ?_
    · exact ev_callP (ea_cons (ev_var rfl) (ea_cons (ev_var rfl) ea_nil)) sp_ah
    · rw [h2, given_all, Int.toNat_natCast]
      unfold col
      rw [List.map_map]
      congr 2
      apply List.map_congr_left
      intro t _
      show V.bl (Oc.bit t jx) = V.bl (Oc.holds at_ t d)
      rw [holds_atom hd hjx]
end
end Bk

namespace Bk
open PySem PySem.Spec PyProof.Rows L2 Evl LamX NdefX
open Oc (C)
/-- a def of the text whose code object is known -/
structure FunK (K : PySem.W.Frag) (x qual : Str) (st : Stmt) (f : Addr) (fd : FuncData) (c : Addr) : Prop where
  ex : ∃ (oc : Value) (od : Option Addr) (kV doc pm : Value) (an : Option Addr) (ct : Value) (osl : Array (Option Value)),
    fd = PySem.W.fnOf x qual (defArgs st) (defBody st) (defScope st) .none kV doc pm an (.ref c) ct ∧ K.lookup f = some ⟨oc, od, .func fd, osl⟩ ∧ PySem.W.codeIn K (.ref c) qual = true
section
variable {P : Program} {w : World} {K : PySem.W.Frag} {mg : Str → Option Value} {base : Heap}
theorem FunK.ok {x qual : Str} {st : Stmt} {f c : Addr} {fd : FuncData} {N ps : List Str} {k : Nat} {sp : Sp} (F : FunK K x qual st f fd c) (S : FnScope N ps (defScope st)) (len : ∀ vs H Q E, sp vs H Q E → vs.length = ps.length)
    (body : ∀ (A : Around) (outer : List Env) (s : Shared) (H : Hp) (vs : List V) (Q : VK) (E : XK), Room k (A.deeper (envOfC qual (defScope st) s.heap.objs.size f (.ref c))) → sp vs H Q E →
      ∃ t, PSs (cxOf CX0 P w K mg base N qual (defScope st) f (.ref c) A outer s H E).nox (defBody st) t ∧ t { nx := fun _ H' => Q .non H', rt := Q } (start N vs) H) : FnOk P w K mg base CX0 (k + 1) f fd ps sp := by
  obtain ⟨oc, od, kV, doc, pm, an, ct, osl, rfl, lk, hcd⟩ := F.ex
  refine fn_of lk hcd S len fun A outer s H vs Q E hr hsp => ?_
  obtain ⟨t, h, q⟩ := body A outer s H vs Q E hr hsp
  exact ⟨t, h.nox, q⟩
/-- a def that is handed a function, ready to be called -/
structure UseC (P : Program) (w : World) (K : PySem.W.Frag) (mg : Str → Option Value) (base : Heap) (k j : Nat) (x : Str) (ps qs : List Str) (sp : Addr → NF → Sp → Sp) : Prop where
  ex : ∃ (f : Addr) (fd : FuncData), mg x = some (.ref f) ∧ PySem.W.keepIn K (.ref f) = true ∧ Binds K fd ps [] ∧ ∀ (g : Addr) (F : NF) (fr : List Str) (ws : List (Option V)) (spN : List (Option V) → Sp), NOk P w K mg base CX0 j g F qs fr spN → FnC P w K mg base CX0 k f fd ps F.cl fr ws (sp g F (spN ws))
/-! ### column -/
def spCol (K : PySem.W.Frag) (Z : List NTab) : Sp := fun vs H Q _ => ∃ (v va : V) (at_ : List C) (c : C), vs = [v, va] ∧ TabsN Z H ∧ CT K H v c ∧ Row K H va at_ ∧ Good at_ ∧ at_.length ≤ 10 ∧ Ok c ∧ (enc c).length ≤ 1000 ∧ Within at_ c ∧ RetLW Z ((col at_ c).map V.bl) H Q
def NewL (H : Hp) (xs : List V) : V → Hp → Prop := fun v H2 => ∃ p, v = .ref p ∧ H p = none ∧ H2 p = some (.lst xs)
theorem sp_col {Z : List NTab} {H : Hp} {v va : V} {at_ : List C} {c : C} (t : TabsN Z H) (hv : CT K H v c) (ha : Row K H va at_) (hg : Good at_) (hl : at_.length ≤ 10) (oc : Ok c) (hc : (enc c).length ≤ 1000) (hw : Within at_ c) : SpW Z (spCol K Z) [v, va] H (NewL H ((col at_ c).map V.bl)) :=
  fun Q E q => ⟨v, va, at_, c, rfl, t, hv, ha, hg, hl, oc, hc, hw, fun p H2 hp w2 h2 => q _ H2 w2 ⟨p, rfl, hp, h2⟩⟩
abbrev nColumn : List Str := ["concept", "atoms", "tell_atom", "total"]
theorem sc_column : FnScope nColumn ["concept", "atoms"] (defScope s_column) := ⟨rfl, rfl, rfl, by decide +kernel, rfl, by decide +kernel, by decide +kernel⟩
theorem ev_pow {σ : L2.St} {H : Hp} {ta : TE} {at_ : List C} {v : V} (ha : Ev ta σ H v) (h : Row K H v at_) (hl : at_.length ≤ 10) : Ev (tOp (rI (fun i j => 0 ≤ j ∧ j ≤ 1000000 ∧ i.natAbs < 2 ^ 64) (fun i j => .int (i * 2 ^ j.toNat))) (tC (.int 1)) (tCB (rLenS K) (tCons ta tNil))) σ H (vN (2 ^ at_.length)) := by
  obtain ⟨a, vs, rfl, hv, hA⟩ := h
  refine ev_is (ev_op ev_c (ev_len ha (sq_of hv)) (rv_I ⟨by omega, by rw [hA.1]; omega, by decide⟩)) ?_
  show V.int (1 * 2 ^ ((vs.length : Int).toNat)) = V.int ((2 ^ at_.length : Nat) : Int)
  rw [Int.toNat_natCast, hA.1, Int.one_mul, Int.natCast_pow]
  rfl
theorem nd_column : ndefB (defScope s_column) (C8.fnScope s_tellK) ["atoms", "concept", "total"] = true := by decide +kernel
theorem ok_column {Z : List NTab} {f c0 P0 : Addr} {fd : FuncData} (F : FunK K "column" "column" s_column f fd c0) (T : Txt K mg) (TB : TabB base mg c0 P0) (hZ : (P0, fun _ _ => qnK) ∈ Z) (hu : ∀ p ∈ Z, p.1 = P0 → p.2 = fun _ _ => qnK)
    (uPA : Use P w K mg base 3 "part_at" ["concept", "place"] (spPA K)) (uAH : Use P w K mg base 1 "has_bit" ["number", "k"] spAH) (uCB : UseC P w K mg base 5 4 "column_by" ["concept", "total", "tell_atom"] ["place", "parts"] (spCB K)) : FnOk P w K mg base CX0 6 f fd ["concept", "atoms"] (spCol K Z) := by
  obtain ⟨fc, fdc, hmc, hkc, hbc, hFc⟩ := uCB.ex
  refine F.ok sc_column (fun vs H Q E h => ?_) (fun A outer s H vs Q E hr h => ⟨_, pss_cons (ps_set (i := 3) sc_column.nd rfl (.inr rfl) (pe_op op_shl pe_int (pe_len T.len (pv 1))))
    (pss_cons (ps_ndefMS (st := s_tellK) (T := Z) (name := "tell_atom") (i := 2) rfl TB rfl hZ rfl hu (ndef_free nd_column) rfl rfl rfl sc_column.nd rfl (.inl rfl) (.inr rfl))
    (pss_one (ps_ret (pe_callH (js := [1, 0, 3]) (fr := ["atoms", "concept", "total"]) (sp := fun g c' ws => spCB K g (nfK (envOfC "column" (defScope s_column) s.heap.objs.size f (.ref c0)).cells c') (spTK K ws)) (cl := cloFrom (envOfC "column" (defScope s_column) s.heap.objs.size f (.ref c0)).cells (C8.fnScope s_tellK).names [])
      (fun g c' ws => hFc g (nfK (envOfC "column" (defScope s_column) s.heap.objs.size f (.ref c0)).cells c') ["atoms", "concept", "total"] ws (spTK K) (ok_tellK T uPA uAH)) (fun ok => Caps.made ok (ndef_free nd_column) (ndef_fr nd_column) rfl) (fun _ => rfl) hr rfl hmc hkc hbc pass0
      (pa_cons (pv 0) (pa_cons (pv 3) (pa_cons (pv 2) pa_nil))))))), ?_⟩)
  · obtain ⟨v, va, at_, c, rfl, _⟩ := h
    rfl
  · obtain ⟨v, va, at_, c, rfl, t, ⟨a, rfl, ha⟩, hR, hg, hl10, oc, hlen, hwi, k⟩ := h
    have hp10 := pow_le hl10
    refine q_asg (ev_pow (ev_var rfl) hR hl10) fun H1 e1 => ?_
    have t1 := tab_ex t e1
    refine ⟨t1, fun g c' H2 eN nn t2 f0 f1 c1 => ?_⟩
    have w2 : Wx Z H1 H2 := ⟨eN, t2, nn⟩
    have w02 := (Wx.of t e1).trans w2
    refine ⟨_, rfl, _, rfl, _, rfl, g, c', a, c, 2 ^ at_.length, kv at_, rfl, f1, c1, wx_t w02 ha, kv_sem at_, by omega, oc, hlen, ?_, fun p H3 hp e3 h3 => k p H3 (w02.fr p hp) (w02.ex e3) h3⟩
    intro d q pa pvs H3 e3 hq hd hsq hA Q' E' k'
    exact ⟨va, .ref pa, a, at_, c, d, q, rfl, rfl, (hR.w w02).mono e3, ex_t e3 (wx_t w02 ha), hg, hl10, oc, hwi, hq, hd, k'⟩
end
end Bk

namespace Bk
open PySem PySem.Spec PyProof.Rows L2 Evl LamX NdefX
open Oc (C Axiom)
/-! ### more readings: arguments that are new things, methods, fields, enumerate -/
def EvAP (ta : TA) (σ : L2.St) (H : Hp) (Ψ : List V → Hp → Prop) : Prop := ∀ H1, Ex H H1 → ∀ Q : List V → Hp → Prop, (∀ vs H2, Ex H1 H2 → Ψ vs H2 → Q vs H2) → ta σ H1 Q
section
variable {K : PySem.W.Frag} {σ : L2.St} {H H' : Hp} {ta tb te tx : TE} {x y z v : V} {Φ : V → Hp → Prop} {Ψ : List V → Hp → Prop}
theorem eap_consP {tr : TA} {vs : List V} (hm : ∀ v H H', Ex H H' → Φ v H → Φ v H') (h : EvP ta σ H Φ) (hr : EvA tr σ H vs) : EvAP (tCons ta tr) σ H fun ws H' => ∃ v, ws = v :: vs ∧ Φ v H' := fun H1 e Q q =>
  h H1 e _ fun v H2 e2 hv => hr H2 (e.trans e2) _ fun H3 e3 => q _ H3 (e2.trans e3) ⟨v, rfl, hm v H2 H3 e3 hv⟩
theorem eap_cons {tr : TA} (h : Ev ta σ H x) (hr : EvAP tr σ H Ψ) : EvAP (tCons ta tr) σ H fun ws H' => ∃ vs, ws = x :: vs ∧ Ψ vs H' := fun H1 e Q q =>
  h H1 e _ fun H2 e2 => hr H2 (e.trans e2) _ fun vs H3 e3 hv => q _ H3 (e2.trans e3) ⟨vs, rfl, hv⟩
theorem evp_callA {sp : Sp} {E : XK} {ta : TA} (h : EvAP ta σ H Ψ) (hs : ∀ vs H1, Ex H H1 → Ψ vs H1 → SpP sp vs H1 Φ) : EvP (tCall sp [] E ta) σ H Φ := fun H1 e Q q =>
  h H1 e _ fun vs H2 e2 hv => by
    rw [List.append_nil]
    exact hs vs H2 (e.trans e2) hv H2 (Ex.refl H2) Q (fun v H3 e3 hv => q v H3 (e2.trans e3) hv) E
theorem el_callA {sp : Sp} {E : XK} {ta : TA} {xs : List V} (h : EvAP ta σ H Ψ) (hs : ∀ vs H1, Ex H H1 → Ψ vs H1 → SpL sp vs H1 xs) : EvL (tCall sp [] E ta) σ H xs := fun H1 e Q q =>
  h H1 e _ fun vs H2 e2 hv => by
    rw [List.append_nil]
    exact hs vs H2 (e.trans e2) hv H2 (Ex.refl H2) Q (fun p H3 hp e3 h3 => q p H3 (fresh_back e2 hp) (e2.trans e3) h3) E
theorem evp_meth {sp : Sp} {E : XK} {ta : TE} {t : TA} {vs : List V} {a C dx : Addr} {m : Str} {fs : List (Str × V)} (ha : Ev ta σ H (.ref a)) (ho : H a = some (.ins C dx fs)) (hm : fs.lookup m = none) (h : EvA t σ H vs) (hs : SpP sp (.ref a :: vs) H Φ) : EvP (tMeth C m sp [] E ta t) σ H Φ := fun H1 e Q q =>
  ha H1 e _ fun H2 e2 => ⟨a, dx, fs, rfl, (e.trans e2) a _ ho, hm, h H2 (e.trans e2) _ fun H3 e3 => by
    rw [List.append_nil]
    exact hs H3 ((e.trans e2).trans e3) Q (fun v H4 e4 hv => q v H4 ((e2.trans e3).trans e4) hv) E⟩
theorem ev_meth {sp : Sp} {E : XK} {ta : TE} {t : TA} {vs : List V} {a C dx : Addr} {m : Str} {fs : List (Str × V)} (ha : Ev ta σ H (.ref a)) (ho : H a = some (.ins C dx fs)) (hm : fs.lookup m = none) (h : EvA t σ H vs) (hs : SpP sp (.ref a :: vs) H fun w _ => w = z) : Ev (tMeth C m sp [] E ta t) σ H z := ev_evp (evp_meth ha ho hm h hs)
theorem ev_fld {a C dx : Addr} {f : Str} {fs : List (Str × V)} (ha : Ev ta σ H (.ref a)) (ho : H a = some (.ins C dx fs)) (hc : Cls K C) (hn : NoAttr K C f) (hl : fs.lookup f = some v) : Ev (tFld K ta f) σ H v := fun H1 e Q q =>
  ha H1 e _ fun H2 e2 => ⟨a, C, dx, fs, v, rfl, (e.trans e2) a _ ho, hc, hn, hl, q H2 e2⟩
variable {D : Ends} {tu tz : TS}
theorem q_forEnum {a : Addr} {xs : List V} {tl : TE} {j1 j2 : Nat} (h : Ev tl σ H (.ref a)) (hx : SqL K H a xs) (Pv : Nat → L2.St → Hp → Prop) (h0 : ∀ H1, Ex H H1 → Pv 0 σ H1) (hl : ∀ i σ' H', i ≤ xs.length → Pv i σ' H' → SqL K H' a xs)
    (hs : ∀ (i : Nat) x σ' H', xs[i]? = some x → Pv i σ' H' → ∀ H2, Ex H' H2 → tu { D with nx := Pv (i + 1), ct := Pv (i + 1), bk := tz D } ((σ'.set j1 (some (vN i))).set j2 (some x)) H2) (hd : ∀ σ' H', Pv xs.length σ' H' → tz D σ' H') :
    tSeq (tFor (iEnum K (tCons tl tNil)) (gTup K 2 (gCons (gName j1) (gCons (gName j2) gNil))) tu) tz D σ H :=
  h H (Ex.refl H) _ fun H1 e => ⟨a, xs, rfl, ex_l e hx, for_it (walk_enum (K := K) (a := a) (xs := xs)) (D := { D with nx := tz D }) Pv (h0 H1 e) hl (fun i x σ' H' H2 hi p y => by
    obtain ⟨T, x1, y1, rfl, hT, rfl, h1, h2⟩ := y
    cases h1
    exact ⟨T, _, rfl, st_of upd_same, rfl, _, _, rfl, _, _, rfl, rfl, hs i y1 σ' H' h2 p _ (Ex.new hT)⟩) hd⟩
end
/-- what is made anew, and what is so of it wherever the new things stand -/
def EvN (te : TE) (σ : L2.St) (H : Hp) (R : Hp → V → Prop) : Prop := ∀ H1, Ex H H1 → ∀ Q : VK, (∀ v H2, Ex H1 H2 → (∀ H3, Ex H H3 → (∀ b o, H1 b = none → H2 b = some o → H3 b = some o) → R H3 v) → Q v H2) → te σ H1 Q
section
variable {K : PySem.W.Frag} {σ : L2.St} {H H' : Hp} {ta tb te tl : TE}
theorem en_ofL {xs : List V} (h : EvL te σ H xs) : EvN te σ H fun H3 v => ∃ p, v = .ref p ∧ H3 p = some (.lst xs) := fun H1 e Q q =>
  h H1 e _ fun p H2 hp e2 h2 => q _ H2 e2 fun H3 _ n => ⟨p, rfl, n p _ hp h2⟩
theorem EvN.evp {R : Hp → V → Prop} (h : EvN te σ H R) : EvP te σ H fun v H' => R H' v := fun H1 e Q q => h H1 e Q fun v H2 e2 r => q v H2 e2 (r H2 (e.trans e2) fun b o _ z => z)
theorem EvN.mono {R S : Hp → V → Prop} (h : EvN te σ H R) (f : ∀ H v, R H v → S H v) : EvN te σ H S := fun H1 e Q q => h H1 e Q fun v H2 e2 r => q v H2 e2 fun H3 e3 n => f _ _ (r H3 e3 n)
/-- a pair of new things -/
theorem en_tup2 {R S : Hp → V → Prop} (ha : EvN ta σ H R) (hb : EvN tb σ H S) : EvN (tTup (tCons ta (tCons tb tNil))) σ H fun H3 v => ∃ p x y, v = .ref p ∧ H3 p = some (.tup [x, y]) ∧ R H3 x ∧ S H3 y := fun H1 e Q q =>
  ha H1 e _ fun x H2 e2 r => hb H2 (e.trans e2) _ fun y H3 e3 r2 => by
    refine ⟨sz_of (by show 2 ≤ 100000; decide), fun p hp => ?_⟩
    have hp1 : H1 p = none := fresh_back (e2.trans e3) hp
    refine q _ _ ((e2.trans e3).trans (Ex.new hp)) fun H4 e4 n => ⟨p, x, y, rfl, n p _ hp1 upd_same, ?_, ?_⟩
    · refine r H4 e4 fun b o h1 h2 => n b o h1 ?_
      rw [upd_ne (ne_of_none (e3 b _ h2) hp)]
      exact e3 b _ h2
    · refine r2 H4 e4 fun b o h1 h2 => n b o (fresh_back e2 h1) ?_
      rw [upd_ne (ne_of_none h2 hp)]
      exact h2
/-- a list of what is made for each item of another -/
theorem en_lc {j : Nat} {vs : List Nat} {a : Addr} {xs : List V} {α : Type} {ys : List α} {R : Hp → V → α → Prop} (h : Ev tl σ H (.ref a)) (hx : SqL K H a xs) (hlen : xs.length = ys.length) (hz : xs.length ≤ 40000) (hw : ∀ x, wipe ((wipe σ vs).set j (some x)) vs = wipe σ vs)
    (he : ∀ (i : Nat) (x : V) (y : α), xs[i]? = some x → ys[i]? = some y → EvN te ((wipe σ vs).set j (some x)) H fun H3 v => R H3 v y) :
    EvN (tLc (iList K tl) (gName j) tYes te vs) σ H fun H3 v => ∃ b zs, v = .ref b ∧ H3 b = some (.lst zs) ∧ All2 (R H3) zs ys := fun H0 e Q q => h H0 e _ fun H1 e1 => ⟨a, rfl, ⟨xs, ex_l (e.trans e1) hx⟩, fun D hD => by
  have hD0 : H0 D = none := fresh_back e1 hD
  refine lc_list (K := K) (a := a) (xs := xs) (fun i H' => Ex H1 H' ∧ ∃ zs, H' D = some (.lst zs) ∧ i ≤ xs.length ∧ All2 (fun v y => ∀ H3, Ex H H3 → (∀ b o, b ≠ D → H0 b = none → H' b = some o → H3 b = some o) → R H3 v y) zs (ys.take i))
    ⟨Ex.new hD, [], upd_same, Nat.zero_le _, .nil⟩ (fun i H' _ p => ex_l ((e.trans e1).trans p.1) hx) (fun i x H' hi p => ?_) (fun H' p => ?_)
  · obtain ⟨eH, zs, hzs, hle, hA⟩ := p
    have hiy : i < ys.length := by
      rw [← hlen]
      exact (List.getElem?_eq_some_iff.mp hi).1
    obtain ⟨y, hy⟩ : ∃ y, ys[i]? = some y := ⟨_, List.getElem?_eq_getElem hiy⟩
    refine ⟨hw x, ?_⟩
    show te ((wipe σ vs).set j (some x)) H' fun v H4 => ∃ acc, H4 D = some (.lst acc) ∧ acc.length < sizeLine ∧ _
    refine he i x y hi hy H' ((e.trans e1).trans eH) _ fun v H2 e2 r => ?_
    refine ⟨zs, e2 D _ hzs, sz_lt (by have := hA.1; rw [List.length_take] at this; omega), Ex.mut (eH.trans e2) hD, zs ++ [v], upd_same, by omega, ?_⟩
    rw [take_more hy]
    refine All2.snoc (hA.mono fun v' y' z H3 e3 n => z H3 e3 fun b o h1 h2 h3 => n b o h1 h2 (by rw [upd_ne h1]; exact e2 b _ h3)) fun H3 e3 n => r H3 e3 fun b o h1 h2 => ?_
    have hbD : b ≠ D := fun z => by
      rw [z, hzs] at h1
      cases h1
    exact n b o hbD (fresh_back (e1.trans eH) h1) (by rw [upd_ne hbD]; exact h2)
  · obtain ⟨eH, zs, hzs, hle, hA⟩ := p
    rw [hlen, List.take_length] at hA
    exact q _ H' (e1.trans eH) fun H3 e3 n => ⟨D, zs, rfl, n D _ hD0 hzs, hA.mono fun v y z => z H3 e3 fun b o _ h2 h3 => n b o h2 h3⟩⟩
end
section
variable {K : PySem.W.Frag} {σ : L2.St} {H H0 : Hp} {ta tv : TE} {D : Ends} {tz : TS} {a C dx : Addr} {fs : List (Str × V)} {f : Str} {v : V}
/-- o.f = e -/
theorem s_fld (hv : Ev tv σ H0 v) (e : Ex H0 H) (ha : Ev ta σ H0 (.ref a)) (ho : H a = some (.ins C dx fs)) (hc : Cls K C) (hn : NoAttr K C f) (hl : fs.length < 1000) (k : ∀ H2, Ex H H2 → D.nx σ (upd H2 a (.ins C dx (putF f v fs)))) : sFld K ta tv f D σ H :=
  hv H e _ fun H1 e1 => ha H1 (e.trans e1) _ fun H2 e2 => ⟨a, C, dx, fs, rfl, (e1.trans e2) a _ ho, hc, hn, hl, k H2 (e1.trans e2)⟩
theorem q_fld (hv : Ev tv σ H0 v) (e : Ex H0 H) (ha : Ev ta σ H0 (.ref a)) (ho : H a = some (.ins C dx fs)) (hc : Cls K C) (hn : NoAttr K C f) (hl : fs.length < 1000) (k : ∀ H2, Ex H H2 → tz D σ (upd H2 a (.ins C dx (putF f v fs)))) : tSeq (sFld K ta tv f) tz D σ H :=
  s_fld (D := { D with nx := tz D }) hv e ha ho hc hn hl k
theorem s_fldN {R : Hp → V → Prop} (hv : EvN tv σ H0 R) (e : Ex H0 H) (ha : Ev ta σ H0 (.ref a)) (ho : H a = some (.ins C dx fs)) (hc : Cls K C) (hn : NoAttr K C f) (hl : fs.length < 1000)
    (k : ∀ v H2, Ex H H2 → (∀ H3, Ex H0 H3 → (∀ b o, H b = none → H2 b = some o → H3 b = some o) → R H3 v) → D.nx σ (upd H2 a (.ins C dx (putF f v fs)))) : sFld K ta tv f D σ H :=
  hv H e _ fun v H1 e1 r => ha H1 (e.trans e1) _ fun H2 e2 => ⟨a, C, dx, fs, rfl, (e1.trans e2) a _ ho, hc, hn, hl, k v H2 (e1.trans e2) fun H3 e3 n => r H3 e3 fun b o h1 h2 => n b o h1 (e2 b o h2)⟩
end
/-- a method of a class of the module, ready to be called -/
structure MUse (P : Program) (w : World) (K : PySem.W.Frag) (mg : Str → Option Value) (base : Heap) (k : Nat) (C : Addr) (m : Str) (ps : List Str) (sp : Sp) : Prop where
  ex : ∃ (f : Addr) (fd : FuncData), Meth K C m f ∧ Binds K fd ps [] ∧ FnOk P w K mg base CX0 k f fd ps sp
theorem pe_muse {X : Cx} {k : Nat} {C : Addr} {m : Str} {ps : List Str} {sp : Sp} {pos apos : Pos} {e o : Expr} {es : List Expr} {ta : TE} {t : TA} {pl : Sem Bool} (u : MUse X.prog X.w X.K X.mg X.base k C m ps sp) (he : PE X o ta) (c : Cls X.K C) (hr : Room k X.A) (ha : PA X (e :: es) t)
    (hst : starEach (e :: es) X.env = (false, eval e X.env) :: starEach es X.env := by rfl) (hpl : (backTo pos (starEach es X.env)).any (·.1) = false := by rfl)
    (ht : eval (.Call (.Attribute o m apos) (e :: es) [] pos) X.env = (do
      let ov ← eval o X.env
      standAt apos.atName
      let (f, first) ← holding [ov] (getMethod ov m pl)
      callWith pos f first (backTo pos (starEach (e :: es) X.env)) (backToKw pos (keywordEach [] X.env))) := by rfl) :
    PE X (.Call (.Attribute o m apos) (e :: es) [] pos) (tMeth C m sp [] E0 ta t) := by
  obtain ⟨f, fd, h1, h2, h3⟩ := u.ex
  exact pe_meth he c h1 h3 hr h2 .nil pass0 ha hst hpl ht
theorem pe_muse0 {X : Cx} {k : Nat} {C : Addr} {m : Str} {ps : List Str} {sp : Sp} {pos apos : Pos} {o : Expr} {ta : TE} {pl : Sem Bool} (u : MUse X.prog X.w X.K X.mg X.base k C m ps sp) (he : PE X o ta) (c : Cls X.K C) (hr : Room k X.A)
    (ht : eval (.Call (.Attribute o m apos) [] [] pos) X.env = (do
      let ov ← eval o X.env
      standAt apos.atName
      let (f, first) ← holding [ov] (getMethod ov m pl)
      callWith pos f first (backTo pos (starEach [] X.env)) (backToKw pos (keywordEach [] X.env))) := by rfl) :
    PE X (.Call (.Attribute o m apos) [] [] pos) (tMeth C m sp [] E0 ta tNil) := by
  obtain ⟨f, fd, h1, h2, h3⟩ := u.ex
  exact pe_meth0 he c h1 h3 hr h2 .nil pass0 ht
theorem lk_here {k : Str} {v : V} {r : List (Str × V)} : List.lookup k ((k, v) :: r) = some v := by
  have e : (k == k) = true := beq_self_eq_true k
  simp only [List.lookup, e]
theorem lk_past {k g : Str} {v : V} {r : List (Str × V)} (h : (k == g) = false) : List.lookup k ((g, v) :: r) = List.lookup k r := by
  simp only [List.lookup, h]
theorem put_here {f : Str} {v x : V} {r : List (Str × V)} : putF f v ((f, x) :: r) = (f, v) :: r := if_pos rfl
theorem put_past {f g : Str} {v x : V} {r : List (Str × V)} (h : ¬ g = f) : putF f v ((g, x) :: r) = (g, x) :: putF f v r := if_neg h
section
variable {Z : List NTab} {K : PySem.W.Frag} {σ : L2.St} {H H' : Hp} {ta tb te tv : TE} {Φ Ψ : V → Hp → Prop} {D : Ends} {tz tu : TS}
theorem ew_callP {sp : Sp} {E : XK} {ta : TA} {Ξ : List V → Hp → Prop} (t : TabsN Z H) (h : EvAP ta σ H Ξ) (hs : ∀ vs H1, Ex H H1 → Ξ vs H1 → SpW Z sp vs H1 Φ) : EvW Z (tCall sp [] E ta) σ H Φ := fun Q q =>
  h H (Ex.refl H) _ fun vs H1 e hv => by
    rw [List.append_nil]
    exact hs vs H1 e hv Q E fun v H2 w hv => q v H2 ((Wx.of t e).trans w) hv
/-- o.f = e -/
theorem s_fldW {a C dx : Addr} {fs : List (Str × V)} {f : Str} (hm : ∀ v H H', Ex H H' → Φ v H → Φ v H') (hv : EvW Z tv σ H Φ) (ha : ∀ (v : V) (H1 : Hp), Wx Z H H1 → Ev ta σ H1 (.ref a)) (ho : H a = some (.ins C dx fs)) (hc : Cls K C) (hn : NoAttr K C f) (hl : fs.length < 1000)
    (k : ∀ v H2, Wx Z H H2 → Φ v H2 → D.nx σ (upd H2 a (.ins C dx (putF f v fs)))) : sFld K ta tv f D σ H :=
  hv _ fun v H1 w1 hv1 => ha v H1 w1 H1 (Ex.refl H1) _ fun H2 e2 => ⟨a, C, dx, fs, rfl, (w1.ex e2).at ho, hc, hn, hl, k v H2 (w1.ex e2) (hm v H1 H2 e2 hv1)⟩
end
theorem NewL.back {Z : List NTab} {H H1 : Hp} {xs : List V} {v : V} {H2 : Hp} (w : Wx Z H H1) (h : NewL H1 xs v H2) : NewL H xs v H2 := by
  obtain ⟨p, rfl, hp, h2⟩ := h
  exact ⟨p, rfl, w.fr p hp, h2⟩
/-! ### inside_column -/
def isRole : C → Bool
  | .some _ _ => true
  | .all _ _ => true
  | _ => false
/-- what stands for an atom among the insides -/
def inV1 (at_ : List C) (x : C) : List V := if isRole x = true then (col at_ (inner x)).map V.bl else []
def InC (K : PySem.W.Frag) (H : Hp) (at_ : List C) (v : V) (x : C) : Prop := ∃ a, v = .ref a ∧ SqL K H a (inV1 at_ x)
theorem InC.mono {K : PySem.W.Frag} {H H' : Hp} {at_ : List C} {v : V} {x : C} (e : Ex H H') (h : InC K H at_ v x) : InC K H' at_ v x := by
  obtain ⟨a, rfl, q⟩ := h
  exact ⟨a, rfl, ex_l e q⟩
theorem InC.w {Z : List NTab} {K : PySem.W.Frag} {H H' : Hp} {at_ : List C} {v : V} {x : C} (e : Wx Z H H') (h : InC K H at_ v x) : InC K H' at_ v x := by
  obtain ⟨a, rfl, q⟩ := h
  exact ⟨a, rfl, wx_l e q⟩
theorem InC.col {K : PySem.W.Frag} {H : Hp} {at_ : List C} {v : V} {x : C} (hx : isRole x = true) (h : InC K H at_ v x) : Col K H at_ v (inner x) := by
  obtain ⟨a, rfl, q⟩ := h
  unfold inV1 at q
  rw [if_pos hx] at q
  exact ⟨a, rfl, q⟩
section
variable {P : Program} {w : World} {K : PySem.W.Frag} {mg : Str → Option Value} {base : Heap} {Z : List NTab}
def spIC (K : PySem.W.Frag) (Z : List NTab) : Sp := fun vs H Q _ => ∃ (v va : V) (at_ : List C) (x : C), vs = [v, va] ∧ TabsN Z H ∧ CT K H v x ∧ Row K H va at_ ∧ Good at_ ∧ at_.length ≤ 10 ∧ x ∈ at_ ∧ (enc x).length ≤ 1000 ∧ RetLW Z (inV1 at_ x) H Q
theorem sp_ic {H : Hp} {v va : V} {at_ : List C} {x : C} (t : TabsN Z H) (hv : CT K H v x) (ha : Row K H va at_) (hg : Good at_) (hl : at_.length ≤ 10) (hx : x ∈ at_) (hc : (enc x).length ≤ 1000) : SpW Z (spIC K Z) [v, va] H (NewL H (inV1 at_ x)) :=
  fun Q E q => ⟨v, va, at_, x, rfl, t, hv, ha, hg, hl, hx, hc, fun p H2 hp w2 h2 => q _ H2 w2 ⟨p, rfl, hp, h2⟩⟩
theorem sc_inside_column : FnScope ["atom", "atoms"] ["atom", "atoms"] (defScope s_inside_column) := ⟨rfl, rfl, rfl, by decide +kernel, rfl, by decide +kernel, by decide +kernel⟩
theorem enc0 (x : C) : (enc x)[0]? = some ((enc x).headD 0) := by cases x <;> simp [enc]
theorem inner_len (x : C) : (enc (inner x)).length ≤ (enc x).length := by cases x <;> simp [inner, enc] <;> omega
theorem ok_inside_column {f : Addr} {fd : FuncData} (F : Fun K "inside_column" "inside_column" s_inside_column f fd) (T : Txt K mg) (uIN : Use P w K mg base 1 "inside" ["atom"] (spIN K)) (uCol : Use P w K mg base 6 "column" ["concept", "atoms"] (spCol K Z)) : FnOk P w K mg base CX0 7 f fd ["atom", "atoms"] (spIC K Z) := by
  refine F.ok sc_inside_column (fun vs H Q E h => ?_) (fun cdv A outer s H vs Q E hr h => ⟨_, pss_cons (ps_if (pt_cmpR op_eq (pe_ix ix_tup (pv 0) pe_int (fun _ _ => rfl)) (pe_cst T.kNAME) (nomark _)) (pss_one (ps_ret (pe_lst pa_nil))) pss_nil)
    (pss_one (ps_ret (pe_use uCol hr (pa_cons (pe_use uIN (hr.mono (by decide)) (pa_cons (pv 0) pa_nil)) (pa_cons (pv 1) pa_nil))))), ?_⟩)
  · obtain ⟨v, va, at_, x, rfl, _⟩ := h
    rfl
  · obtain ⟨v, va, at_, x, rfl, t, hv, hR, hg, hl, hx, hc, k⟩ := h
    obtain ⟨a, rfl, ha⟩ := id hv
    refine q_when (et_is (et_test (ev_op (ev_op (ev_var rfl) ev_c (rv_ixT ha (atN (i := 0) (enc0 x)))) ev_c (rv_eq rfl))) (dec_nat (a := (enc x).headD 0) (b := 2))) (fun hb H1 e1 => ?_) (fun hb H1 e1 => ?_)
    · refine s_retL (el_lst ea_nil (by decide)) fun p H2 hp e2 h2 => k p H2 (fresh_back e1 hp) (.of t (e1.trans e2)) ?_
      have q2 := of_decide_eq_true hb
      cases x with
      | some r c => simp [enc] at q2
      | all r c => simp [enc] at q2
      | _ => exact h2
    · have hrole : ∃ r d, (x = .some r d ∨ x = .all r d) := by
        have q2 := of_decide_eq_false hb
        have q3 := hg.isa x hx
        cases x with
        | some r c => exact ⟨r, c, .inl rfl⟩
        | all r c => exact ⟨r, c, .inr rfl⟩
        | name a => exact absurd rfl q2
        | _ => cases q3
      have hin : inV1 at_ x = (col at_ (inner x)).map V.bl := by
        rcases hrole with ⟨r, d, rfl | rfl⟩ <;> rfl
      have t1 := tab_ex t e1
      refine s_retW (Z := Z) (Φ := NewL H1 ((col at_ (inner x)).map V.bl)) (ew_callP t1 (eap_consP (Φ := fun v H' => CT K H' v (inner x)) (fun _ _ _ e h => CT.mono e h) (evp_call (ea_cons (ev_var rfl) ea_nil) (sp_in (hv.mono e1) hrole)) (ea_cons (ev_var rfl) ea_nil)) fun vs H2 e2 hvs => ?_) fun v2 H2 w2 hv2 => ?_
      · obtain ⟨u, rfl, hu⟩ := hvs
        intro Q' E' q'
        exact sp_col (tab_ex t1 e2) hu (hR.mono (e1.trans e2)) hg hl (Ok_subs x _ (hg.ok x hx) (inner_subs x)) (Nat.le_trans (inner_len x) hc) ((hg.cl x hx).sub (inner_subs x)) Q' E' fun v3 H3 w3 h3 => q' v3 H3 w3 (h3.back (.of t1 e2))
      · obtain ⟨p, rfl, hp, h2⟩ := hv2
        exact k p H2 (fresh_back e1 hp) ((Wx.of t e1).trans w2) (by rw [hin]; exact h2)
end
section
variable {K : PySem.W.Frag} {Z : List NTab}
/-! ### axioms in the heap, and their columns -/
def AxP (K : PySem.W.Frag) (H : Hp) (v : V) (a : Axiom) : Prop := ∃ p x y, v = .ref p ∧ SqT K H p [x, y] ∧ CT K H x a.1 ∧ CT K H y a.2
def Axs (K : PySem.W.Frag) (H : Hp) (v : V) (ax : List Axiom) : Prop := ∃ a vs, v = .ref a ∧ H a = some (.lst vs) ∧ All2 (AxP K H) vs ax
def ColP (K : PySem.W.Frag) (H : Hp) (n : Nat) (val : Vl) (v : V) (a : Axiom) : Prop := ∃ p x y, v = .ref p ∧ SqT K H p [x, y] ∧ ColG K H n val x a.1 ∧ ColG K H n val y a.2
theorem AxP.mono {H H' : Hp} {v : V} {a : Axiom} (e : Ex H H') (h : AxP K H v a) : AxP K H' v a := by
  obtain ⟨p, x, y, rfl, h1, h2, h3⟩ := h
  exact ⟨p, x, y, rfl, ex_t e h1, h2.mono e, h3.mono e⟩
theorem AxP.w {H H' : Hp} {v : V} {a : Axiom} (e : Wx Z H H') (h : AxP K H v a) : AxP K H' v a := by
  obtain ⟨p, x, y, rfl, h1, h2, h3⟩ := h
  exact ⟨p, x, y, rfl, wx_t e h1, h2.w e, h3.w e⟩
theorem Axs.mono {H H' : Hp} {v : V} {ax : List Axiom} (e : Ex H H') (h : Axs K H v ax) : Axs K H' v ax := by
  obtain ⟨a, vs, rfl, h1, h2⟩ := h
  exact ⟨a, vs, rfl, e a _ h1, h2.mono fun _ _ z => z.mono e⟩
theorem Axs.w {H H' : Hp} {v : V} {ax : List Axiom} (e : Wx Z H H') (h : Axs K H v ax) : Axs K H' v ax := by
  obtain ⟨a, vs, rfl, h1, h2⟩ := h
  exact ⟨a, vs, rfl, e.at h1, h2.mono fun _ _ z => z.w e⟩
theorem ColP.mono {H H' : Hp} {n : Nat} {val : Vl} {v : V} {a : Axiom} (e : Ex H H') (h : ColP K H n val v a) : ColP K H' n val v a := by
  obtain ⟨p, x, y, rfl, h1, h2, h3⟩ := h
  exact ⟨p, x, y, rfl, ex_t e h1, h2.mono e, h3.mono e⟩
theorem ColP.w {H H' : Hp} {n : Nat} {val : Vl} {v : V} {a : Axiom} (e : Wx Z H H') (h : ColP K H n val v a) : ColP K H' n val v a := by
  obtain ⟨p, x, y, rfl, h1, h2, h3⟩ := h
  exact ⟨p, x, y, rfl, wx_t e h1, h2.w e, h3.w e⟩
end
section
variable {P : Program} {w : World} {K : PySem.W.Frag} {mg : Str → Option Value} {base : Heap} {Z : List NTab}
/-- a new list of pairs of columns -/
def NewP (K : PySem.W.Frag) (H : Hp) (n : Nat) (val : Vl) (ax : List Axiom) : V → Hp → Prop := fun v H2 => ∃ b zs, v = .ref b ∧ H b = none ∧ H2 b = some (.lst zs) ∧ All2 (ColP K H2 n val) zs ax
/-- axioms whose concepts are made of some atoms -/
structure AxOk (at_ : List C) (ax : List Axiom) : Prop where
  len : ax.length ≤ 100
  ok : ∀ a ∈ ax, (Ok a.1 ∧ (enc a.1).length ≤ 1000 ∧ Within at_ a.1) ∧ (Ok a.2 ∧ (enc a.2).length ≤ 1000 ∧ Within at_ a.2)
def spAXC (K : PySem.W.Frag) (Z : List NTab) : Sp := fun vs H Q _ => ∃ (v va : V) (at_ : List C) (ax : List Axiom), vs = [v, va] ∧ TabsN Z H ∧ Axs K H v ax ∧ Row K H va at_ ∧ Good at_ ∧ at_.length ≤ 10 ∧ AxOk at_ ax ∧ RetW Z H Q (NewP K H (2 ^ at_.length) (kv at_) ax)
theorem sp_axc {H : Hp} {v va : V} {at_ : List C} {ax : List Axiom} (t : TabsN Z H) (hv : Axs K H v ax) (ha : Row K H va at_) (hg : Good at_) (hl : at_.length ≤ 10) (hx : AxOk at_ ax) : SpW Z (spAXC K Z) [v, va] H (NewP K H (2 ^ at_.length) (kv at_) ax) :=
  fun Q E q => ⟨v, va, at_, ax, rfl, t, hv, ha, hg, hl, hx, q⟩
theorem NewP.back {H H1 : Hp} {n : Nat} {val : Vl} {ax : List Axiom} {v : V} {H2 : Hp} (w : Wx Z H H1) (h : NewP K H1 n val ax v H2) : NewP K H n val ax v H2 := by
  obtain ⟨b, zs, rfl, hb, h2, h3⟩ := h
  exact ⟨b, zs, rfl, w.fr b hb, h2, h3⟩
abbrev nAxiomColumns : List Str := ["axioms", "atoms", "axiom"]
theorem sc_axiom_columns : FnScope nAxiomColumns ["axioms", "atoms"] (defScope s_axiom_columns) := ⟨rfl, rfl, rfl, by decide +kernel, rfl, by decide +kernel, by decide +kernel⟩
theorem ok_axiom_columns {f : Addr} {fd : FuncData} (F : Fun K "axiom_columns" "axiom_columns" s_axiom_columns f fd) (uCol : Use P w K mg base 6 "column" ["concept", "atoms"] (spCol K Z)) : FnOk P w K mg base CX0 7 f fd ["axioms", "atoms"] (spAXC K Z) := by
  refine F.ok sc_axiom_columns (fun vs H Q E h => ?_) (fun cdv A outer s H vs Q E hr h => ⟨_,
    pss_one (ps_ret (pe_lc (own := [("axiom", 2)]) (g := gName 2) (tt := tYes) rfl sc_axiom_columns.nd (pi_list (pv 0)) (blkOk_by (own := [("axiom", 2)]) (N := nAxiomColumns) (sc := defScope s_axiom_columns) (by decide +kernel)) (fun _ _ _ _ _ => pg_name (i := 2) sc_axiom_columns.nd rfl (Or.inl rfl)) (fun _ _ _ _ _ => pts_nil)
      (fun _ _ _ _ _ => pe_tup (pa_cons (pe_use uCol hr (pa_cons (pe_ix (r := rIxT K) ix_tup (pv 2) pe_int (fun _ _ => rfl)) (pa_cons (pv 1) pa_nil))) (pa_cons (pe_use uCol hr (pa_cons (pe_ix (r := rIxT K) ix_tup (pv 2) pe_int (fun _ _ => rfl)) (pa_cons (pv 1) pa_nil))) pa_nil))))), ?_⟩)
  · obtain ⟨v, va, at_, ax, rfl, _⟩ := h
    rfl
  · obtain ⟨v, va, at_, ax, rfl, t, ⟨a, xvs, rfl, ha, hA⟩, hR, hg, hl, hx, k⟩ := h
    refine s_retW (ew_lc (K := K) (Z := Z) (ys := ax) (R := fun H3 v (a : Axiom) => ∃ p x y, v = .ref p ∧ H3 p = some (.tup [x, y]) ∧ (∃ p, x = .ref p ∧ H3 p = some (.lst ((col at_ a.1).map V.bl))) ∧ (∃ p, y = .ref p ∧ H3 p = some (.lst ((col at_ a.2).map V.bl)))) t (ev_var rfl) (sq_of ha) hA.1 (by have := hx.len; rw [hA.1]; omega) (fun _ => rfl) fun i x y H1 w1 hi hy => ?_) fun cv H1 w1 hcv => ?_
    · obtain ⟨p, x1, x2, rfl, hp, c1, c2⟩ := hA.2 i x y hi hy
      obtain ⟨⟨o1, l1, i1⟩, ⟨o2, l2, i2⟩⟩ := hx.ok y (List.mem_of_getElem? hy)
      have one : ∀ (c : C) (n : Nat) (xc : V) (H2 : Hp), Wx Z H H2 → CT K H xc c → ([x1, x2] : List V)[n]? = some xc → Ok c → (enc c).length ≤ 1000 → Within at_ c → EvNW Z (tCall (spCol K Z) [] E0 (tCons (tOp (rIxT K) (tVar 2) (tC (.int (n : Int)))) (tCons (tVar 1) tNil))) [some (.ref a), some va, some (.ref p)] H2 fun H3 v => ∃ p, v = .ref p ∧ H3 p = some (.lst ((col at_ c).map V.bl)) := fun c n xc H2 w2 hc hn o l i =>
        en_ofW (ew_call w2.tab (ea_cons (ev_op (ev_var rfl) ev_c (rv_ixT (wx_t w2 hp) (atI_nat hn))) (ea_cons (ev_var rfl) ea_nil)) fun H3 e3 Q' E' q' => sp_col (tab_ex w2.tab e3) ((hc.w w2).mono e3) ((hR.w w2).mono e3) hg hl o l i Q' E' fun v3 H4 w4 h4 => q' v3 H4 w4 (NewL.back (.of w2.tab e3) h4))
      exact en_tupW (one y.1 0 x1 H1 w1 c1 rfl o1 l1 i1) fun H2 w2 => one y.2 1 x2 H2 (w1.trans w2) c2 rfl o2 l2 i2
    · obtain ⟨cb, cvs, rfl, hcb0, hcb, hC⟩ := hcv
      refine k _ H1 w1 ⟨cb, cvs, rfl, hcb0, hcb, hC.mono fun v a z => ?_⟩
      obtain ⟨p, x, y, rfl, h1, ⟨px, rfl, h2⟩, ⟨py, rfl, h3⟩⟩ := z
      exact ⟨p, _, _, rfl, st_of h1, ⟨px, rfl, sq_of h2⟩, ⟨py, rfl, sq_of h3⟩⟩
/-- a number, or -1 -/
def orNo (o : Option Nat) : Int := match o with
  | some k => (k : Int)
  | none => -1
/-! ### lowest_holding -/
def spLH (K : PySem.W.Frag) (Z : List NTab) : Sp := fun vs H Q _ => ∃ (v va : V) (b : Addr) (at_ : List C) (c : C) (l : List Nat), vs = [v, va, .ref b] ∧ TabsN Z H ∧ CT K H v c ∧ Row K H va at_ ∧ Good at_ ∧ at_.length ≤ 10 ∧ Ok c ∧ (enc c).length ≤ 1000 ∧ Within at_ c ∧ SqL K H b (l.map vN) ∧ (∀ u ∈ l, u < 2 ^ at_.length) ∧ RetW Z H Q fun v _ => v = .int (orNo (l.find? fun t => Oc.holds at_ t c))
theorem sp_lh {H : Hp} {v va : V} {b : Addr} {at_ : List C} {c : C} {l : List Nat} (t : TabsN Z H) (hv : CT K H v c) (ha : Row K H va at_) (hg : Good at_) (hl : at_.length ≤ 10) (oc : Ok c) (hc : (enc c).length ≤ 1000) (hw : Within at_ c) (hb : SqL K H b (l.map vN)) (hu : ∀ u ∈ l, u < 2 ^ at_.length) :
    SpW Z (spLH K Z) [v, va, .ref b] H fun v _ => v = .int (orNo (l.find? fun t => Oc.holds at_ t c)) := fun Q E q => ⟨v, va, b, at_, c, l, rfl, t, hv, ha, hg, hl, oc, hc, hw, hb, hu, q⟩
theorem sc_lowest_holding : FnScope ["concept", "atoms", "there", "holding", "kind"] ["concept", "atoms", "there"] (defScope s_lowest_holding) := ⟨rfl, rfl, rfl, by decide +kernel, rfl, by decide +kernel, by decide +kernel⟩
theorem find_take {α : Type} {l : List α} {p : α → Bool} {i : Nat} {x : α} (h : l[i]? = some x) (hp : (l.take i).find? p = none) (hx : p x = true) : l.find? p = some x := by
  have e : l = l.take i ++ x :: l.drop (i + 1) := by
    obtain ⟨hl, e⟩ := List.getElem?_eq_some_iff.mp h
    rw [← e, ← List.drop_eq_getElem_cons hl, List.take_append_drop]
  rw [e, List.find?_append, hp]
  show (x :: l.drop (i + 1)).find? p = some x
  rw [List.find?_cons_of_pos hx]
theorem find_take_no {α : Type} {l : List α} {p : α → Bool} {i : Nat} {x : α} (h : l[i]? = some x) (hp : (l.take i).find? p = none) (hx : p x = false) : (l.take (i + 1)).find? p = none := by
  rw [take_more h, List.find?_append, hp]
  show [x].find? p = none
  rw [List.find?_cons_of_neg (by rw [hx]; exact Bool.false_ne_true)]
  rfl
theorem ok_lowest_holding {f : Addr} {fd : FuncData} (F : Fun K "lowest_holding" "lowest_holding" s_lowest_holding f fd) (uCol : Use P w K mg base 6 "column" ["concept", "atoms"] (spCol K Z)) : FnOk P w K mg base CX0 7 f fd ["concept", "atoms", "there"] (spLH K Z) := by
  refine F.ok sc_lowest_holding (fun vs H Q E h => ?_) (fun cdv A outer s H vs Q E hr h => ⟨_,
    pss_cons (ps_set (i := 3) sc_lowest_holding.nd rfl (.inl rfl) (pe_use uCol hr (pa_cons (pv 0) (pa_cons (pv 1) pa_nil))))
    (pss_cons (ps_for PassesOwn.never rfl (pi_list (pv 2)) (pg_name (i := 4) sc_lowest_holding.nd rfl (.inl rfl)) (pss_one (ps_if (pt_val (pe_ix ix_list (pv 3) (pv 4) (fun _ _ => rfl))) (pss_one (ps_ret (pv 4))) pss_nil)))
    (pss_one (ps_ret (pe_un un_neg pe_int)))), ?_⟩)
  · obtain ⟨v, va, b, at_, c, l, rfl, _⟩ := h
    rfl
  · obtain ⟨v, va, b, at_, c, l, rfl, t, hv, hR, hg, hl, oc, hc, hwi, hb, hu, k⟩ := h
    refine q_asgW (Z := Z) (Φ := NewL H ((col at_ c).map V.bl)) (ew_call t (ea_cons (ev_var rfl) (ea_cons (ev_var rfl) ea_nil)) fun H1 e1 Q' E' q' => sp_col (tab_ex t e1) (hv.mono e1) (hR.mono e1) hg hl oc hc hwi Q' E' fun v3 H3 w3 h3 => q' v3 H3 w3 (h3.back (.of t e1))) fun cv H1 w1 hcv => ?_
    obtain ⟨cb, rfl, hc0, h1⟩ := hcv
    refine q_forLn (K := K) (ev_var rfl) (wx_l w1 hb) (fun i σ' H' => ∃ x4 : Option V, σ' = [some v, some va, some (.ref b), some (.ref cb), x4] ∧ Ex H1 H' ∧ (l.take i).find? (fun t => Oc.holds at_ t c) = none)
      (fun H2 e2 => ⟨none, rfl, e2, rfl⟩) (fun i σ' H' _ ⟨_, _, e, _⟩ => ex_l e (wx_l w1 hb)) ?_ ?_
    · rintro i x σ' H' hi ⟨x4, rfl, e, hp⟩
      rw [List.getElem?_map] at hi
      obtain ⟨u, hui, rfl⟩ := Option.map_eq_some_iff.mp hi
      have hul := hu u (List.mem_of_getElem? hui)
      refine s_when (et_B (ev_op (ev_var rfl) (ev_var rfl) (rv_ixL (sq_of (e cb _ h1)) (col_at hul)))) (fun hb2 H3 e3 => ?_) (fun hb2 H3 e3 => ?_)
      · refine s_ret (ev_var rfl) fun H4 e4 => k _ H4 (w1.ex (e.trans (e3.trans e4))) ?_
        rw [find_take hui hp hb2]
        rfl
      · exact ⟨_, rfl, e.trans e3, find_take_no hui hp hb2⟩
    · rintro σ' H' ⟨x4, rfl, e, hp⟩
      rw [List.length_map, List.take_length] at hp
      refine s_ret (ev_un ev_c ru_neg) fun H4 e4 => k _ H4 (w1.ex (e.trans e4)) ?_
      rw [hp]
      rfl
end
/-! ### Kinds -/
abbrev s_Kinds_init : Stmt := inClass (top 31) 0
abbrev s_fits : Stmt := inClass (top 31) 1
abbrev s_is_due : Stmt := inClass (top 31) 2
abbrev s_bears_out : Stmt := inClass (top 31) 3
abbrev s_lowest_bearing : Stmt := inClass (top 31) 4
abbrev s_is_unborne : Stmt := inClass (top 31) 5
abbrev s_lowest_unborne : Stmt := inClass (top 31) 6
def kF (va : V) (n : Nat) (vi : V) : List (Str × V) := [("atoms", va), ("total", vN n), ("insides", vi)]
theorem kF_atoms {va vi : V} {n : Nat} : (kF va n vi).lookup ("atoms" : Str) = some va := lk_here
theorem kF_total {va vi : V} {n : Nat} : (kF va n vi).lookup ("total" : Str) = some (vN n) := (lk_past (by decide +kernel)).trans lk_here
theorem kF_insides {va vi : V} {n : Nat} : (kF va n vi).lookup ("insides" : Str) = some vi := (lk_past (by decide +kernel)).trans ((lk_past (by decide +kernel)).trans lk_here)
theorem kF_no {va vi : V} {n : Nat} {m : Str} (h1 : (m == ("atoms" : Str)) = false) (h2 : (m == ("total" : Str)) = false) (h3 : (m == ("insides" : Str)) = false) : (kF va n vi).lookup m = none := (lk_past h1).trans ((lk_past h2).trans ((lk_past h3).trans rfl))
structure ClsK (K : PySem.W.Frag) (CK : Addr) : Prop where
  cl : Cls K CK
  nA : NoAttr K CK "atoms"
  nT : NoAttr K CK "total"
  nI : NoAttr K CK "insides"
/-- an object of all kinds by some atoms -/
def KindsAt (K : PySem.W.Frag) (CK : Addr) (H : Hp) (a : Addr) (at_ : List C) : Prop := ∃ (dx : Addr) (va : V) (ai : Addr) (ivs : List V), H a = some (.ins CK dx (kF va (2 ^ at_.length) (.ref ai))) ∧ Row K H va at_ ∧ SqL K H ai ivs ∧ All2 (InC K H at_) ivs at_
theorem KindsAt.mono {K : PySem.W.Frag} {CK : Addr} {H H' : Hp} {a : Addr} {at_ : List C} (e : Ex H H') (h : KindsAt K CK H a at_) : KindsAt K CK H' a at_ := by
  obtain ⟨dx, va, ai, ivs, h1, h2, h3, h4⟩ := h
  exact ⟨dx, va, ai, ivs, e a _ h1, h2.mono e, ex_l e h3, h4.mono fun _ _ z => z.mono e⟩
theorem KindsAt.w {Z : List NTab} {K : PySem.W.Frag} {CK : Addr} {H H' : Hp} {a : Addr} {at_ : List C} (e : Wx Z H H') (h : KindsAt K CK H a at_) : KindsAt K CK H' a at_ := by
  obtain ⟨dx, va, ai, ivs, h1, h2, h3, h4⟩ := h
  exact ⟨dx, va, ai, ivs, e.at h1, h2.w e, wx_l e h3, h4.mono fun _ _ z => z.w e⟩
section
variable {P : Program} {w : World} {K : PySem.W.Frag} {mg : Str → Option Value} {base : Heap} {CK : Addr} {Z : List NTab}
def spKI (K : PySem.W.Frag) (CK : Addr) (Z : List NTab) : Sp := fun vs H Q _ => ∃ (p dx : Addr) (va : V) (at_ : List C), vs = [.ref p, va] ∧ TabsN Z H ∧ H p = some (.ins CK dx []) ∧ Row K H va at_ ∧ Good at_ ∧ at_.length ≤ 10 ∧ (∀ x ∈ at_, (enc x).length ≤ 1000) ∧
  ∀ H' : Hp, KindsAt K CK H' p at_ → (∀ b o, H b = some o → b ≠ p → NoT o → H' b = some o) → TabsN Z H' → (∀ b, H' b = none → H b = none) → Q .non H'
theorem sc_Kinds_init : FnScope ["self", "atoms", "atom"] ["self", "atoms"] (defScope s_Kinds_init) := ⟨rfl, rfl, rfl, by decide +kernel, rfl, by decide +kernel, by decide +kernel⟩
/-- a heap without one address -/
def del (H : Hp) (p : Addr) : Hp := fun b => if b = p then none else H b
theorem del_ex (H : Hp) (p : Addr) : Ex (del H p) H := fun b o h => by
  unfold del at h
  split at h
  · cases h
  · exact h
theorem del_at (H : Hp) (p : Addr) : del H p p = none := if_pos rfl
theorem del_ne {H : Hp} {p b : Addr} (h : b ≠ p) : del H p b = H b := if_neg h
theorem del_keep {H H' : Hp} {p : Addr} (h : ∀ b o, H b = some o → b ≠ p → H' b = some o) : Ex (del H p) H' := fun b o q => by
  by_cases z : b = p
  · rw [z, del_at] at q
    cases q
  · rw [del_ne z] at q
    exact h b o q z
theorem keep_del {H H' : Hp} {p : Addr} (e : Ex (del H p) H') : ∀ b o, H b = some o → b ≠ p → H' b = some o := fun b o h z => e b o (by rw [del_ne z]; exact h)
theorem sqT_del {H : Hp} {p C dx a : Addr} {fs : List (Str × V)} {xs : List V} (hp : H p = some (.ins C dx fs)) (h : SqT K H a xs) : SqT K (del H p) a xs := by
  rcases h with (h | ⟨o, h⟩) | h
  · exact .inl (.inl (by rw [del_ne (ne_of h hp (by intro q; cases q))]; exact h))
  · exact .inl (.inr ⟨o, by rw [del_ne (ne_of h hp (by intro q; cases q))]; exact h⟩)
  · exact .inr h
theorem sqL_del {H : Hp} {p C dx a : Addr} {fs : List (Str × V)} {xs : List V} (hp : H p = some (.ins C dx fs)) (h : SqL K H a xs) : SqL K (del H p) a xs := by
  rcases h with (h | ⟨o, h⟩) | h
  · exact .inl (.inl (by rw [del_ne (ne_of h hp (by intro q; cases q))]; exact h))
  · exact .inl (.inr ⟨o, by rw [del_ne (ne_of h hp (by intro q; cases q))]; exact h⟩)
  · exact .inr h
theorem CT.del {H : Hp} {p C' dx : Addr} {fs : List (Str × V)} {v : V} {c : C} (hp : H p = some (.ins C' dx fs)) (h : CT K H v c) : CT K (del H p) v c := by
  obtain ⟨a, rfl, q⟩ := h
  exact ⟨a, rfl, sqT_del hp q⟩
theorem Row.del {H : Hp} {p C' dx : Addr} {fs : List (Str × V)} {v : V} {cs : List C} (hp : H p = some (.ins C' dx fs)) (h : Row K H v cs) : Row K (del H p) v cs := by
  obtain ⟨a, vs, rfl, h1, h2⟩ := h
  exact ⟨a, vs, rfl, by rw [del_ne (ne_of h1 hp (by intro q; cases q))]; exact h1, h2.mono fun _ _ z => z.del hp⟩
theorem row_upd {H : Hp} {p C' dx : Addr} {fs : List (Str × V)} {v : V} {cs : List C} {o : HO} (hp : H p = some (.ins C' dx fs)) (h : Row K H v cs) : Row K (upd H p o) v cs := by
  have e : Ex (del H p) (upd H p o) := fun b u q => by
    by_cases z : b = p
    · rw [z, del_at] at q
      cases q
    · rw [del_ne z] at q
      rw [upd_ne z]
      exact q
  exact (h.del hp).mono e
theorem ok_Kinds_init {f : Addr} {fd : FuncData} (F : Fun K "__init__" "Kinds.__init__" s_Kinds_init f fd) (T : Txt K mg) (TK : ClsK K CK) (uIC : Use P w K mg base 7 "inside_column" ["atom", "atoms"] (spIC K Z)) : FnOk P w K mg base CX0 8 f fd ["self", "atoms"] (spKI K CK Z) := by
  refine F.ok sc_Kinds_init (fun vs H Q E h => ?_) (fun cdv A outer s H vs Q E hr h => ⟨_, pss_cons (ps_fld (pv 0) (pv 1) rfl) (pss_cons (ps_fld (pv 0) (pe_op op_shl pe_int (pe_len T.len (pv 1))) rfl)
    (pss_one (ps_fld (pv 0) (pe_lc (own := [("atom", 2)]) (g := gName 2) (tt := tYes) rfl sc_Kinds_init.nd (pi_list (pv 1)) (blkOk_by (own := [("atom", 2)]) (N := ["self", "atoms", "atom"]) (sc := defScope s_Kinds_init) (by decide +kernel)) (fun _ _ _ _ _ => pg_name (i := 2) sc_Kinds_init.nd rfl (Or.inl rfl)) (fun _ _ _ _ _ => pts_nil)
      (fun _ _ _ _ _ => pe_use uIC hr (pa_cons (pv 2) (pa_cons (pv 1) pa_nil)))) rfl))), ?_⟩)
  · obtain ⟨p, dx, va, at_, rfl, _⟩ := h
    rfl
  · obtain ⟨p, dx, va, at_, rfl, t, hp, hR, hg, hl, hc, k⟩ := h
    refine q_fld (H0 := H) (ev_var rfl) (Ex.refl H) (ev_var rfl) hp TK.cl TK.nA (by show 0 < 1000; decide) fun H1 e1 => ?_
    have hp1 := e1 p _ hp
    have t1 : TabsN Z (upd H1 p (.ins CK dx (putF "atoms" va []))) := tab_upd (tab_ex t e1) hp1
    have hR1 : Row K (upd H1 p (.ins CK dx (putF "atoms" va []))) va at_ := row_upd hp1 (hR.mono e1)
    refine q_fld (H0 := upd H1 p (.ins CK dx (putF "atoms" va []))) (ev_pow (ev_var rfl) hR1 hl) (Ex.refl _) (ev_var rfl) upd_same TK.cl TK.nT (by show 1 < 1000; decide) fun H2 e2 => ?_
    have hp2 := e2 p _ upd_same
    generalize hG : upd H2 p (.ins CK dx (putF "total" (vN (2 ^ at_.length)) (putF "atoms" va []))) = G
    have hpG : G p = some (.ins CK dx (putF "total" (vN (2 ^ at_.length)) (putF "atoms" va []))) := by rw [← hG]; exact upd_same
    have tG : TabsN Z G := by rw [← hG]; exact tab_upd (tab_ex t1 e2) hp2
    have hRG : Row K G va at_ := by rw [← hG]; exact row_upd hp2 (hR1.mono e2)
    have kG : ∀ b o, H b = some o → b ≠ p → G b = some o := fun b o h n => by
      rw [← hG, upd_ne n]
      refine e2 b o ?_
      rw [upd_ne n]
      exact e1 b o h
    have fG : ∀ b, G b = none → H b = none := fun b h => by
      by_cases z : b = p
      · rw [z, hpG] at h
        cases h
      · cases q : H b with
        | none => rfl
        | some o =>
          rw [kG b o q z] at h
          cases h
    obtain ⟨a, avs, rfl, ha, hA⟩ := id hRG
    refine s_fldW (Z := Z) (Φ := fun v H3 => ∃ b zs, v = .ref b ∧ G b = none ∧ H3 b = some (.lst zs) ∧ All2 (InC K H3 at_) zs at_) (fun v H H' e ⟨b, zs, h1, h2, h3, h4⟩ => ⟨b, zs, h1, h2, e b _ h3, h4.mono fun _ _ z => z.mono e⟩)
      (EvW.imp (ew_lc (K := K) (Z := Z) (ys := at_) (R := fun H3 v x => ∃ p, v = .ref p ∧ H3 p = some (.lst (inV1 at_ x))) tG (ev_var rfl) (sq_of ha) hA.1 (by rw [hA.1]; omega) (fun _ => rfl) fun i x y H3 w3 hx hy => en_ofW (ew_call w3.tab (ea_cons (ev_var rfl) (ea_cons (ev_var rfl) ea_nil)) fun H4 e4 Q' E' q' =>
        sp_ic (tab_ex w3.tab e4) (((hA.2 i x y hx hy).w w3).mono e4) ((hRG.w w3).mono e4) hg hl (List.mem_of_getElem? hy) (hc y (List.mem_of_getElem? hy)) Q' E' fun v5 H5 w5 h5 => q' v5 H5 w5 (NewL.back (.of w3.tab e4) h5)))
        fun v H3 w3 ⟨b, zs, h1, h2, h3, h4⟩ => ⟨b, zs, h1, h2, h3, h4.mono fun v x ⟨q, e, z⟩ => ⟨q, e, sq_of z⟩⟩)
      (fun v H3 w3 => ev_var rfl) hpG TK.cl TK.nI (by show 2 < 1000; decide) fun v H4 w4 hv => ?_
    obtain ⟨b, zs, rfl, hb0, hb, hZ⟩ := hv
    have hp4 := w4.at hpG
    have hbp : b ≠ p := fun z => by
      rw [z, hpG] at hb0
      cases hb0
    have insU : ∀ {v : V} {x : C} {o : HO}, InC K H4 at_ v x → InC K (upd H4 p o) at_ v x := fun {v x o} ⟨q, e, h⟩ => ⟨q, e, by
      rcases h with (h | ⟨o', h⟩) | h
      · exact .inl (.inl (by rw [upd_ne (ne_of h hp4 (by intro z; cases z))]; exact h))
      · exact .inl (.inr ⟨o', by rw [upd_ne (ne_of h hp4 (by intro z; cases z))]; exact h⟩)
      · exact .inr h⟩
    refine k _ ⟨dx, .ref a, b, zs, ?_, row_upd hp4 (hRG.w w4), sq_of (by rw [upd_ne hbp]; exact hb), hZ.mono fun v x z => insU z⟩ (fun c o h n nt => ?_) (tab_upd w4.tab hp4) fun c h => fG c (w4.fr c (upd_none h))
    · rw [upd_same]
      rfl
    · rw [upd_ne n]
      exact w4.ext c o (kG c o h n) nt
end
end Bk

namespace Bk
open PySem PySem.Spec PyProof.Rows L2 Evl LamX NdefX
open Oc (C)
theorem idx_nodup {at_ : List C} (hn : at_.Nodup) {k : Nat} {x : C} (h : at_[k]? = some x) : at_.idxOf? x = some k := by
  obtain ⟨j, h1, h2, _⟩ := idx_of (List.mem_of_getElem? h)
  obtain ⟨l1, e1⟩ := List.getElem?_eq_some_iff.mp h
  obtain ⟨l2, e2⟩ := List.getElem?_eq_some_iff.mp h2
  have : k = j := (List.getElem_inj hn).mp (e1.trans e2.symm)
  rw [this, h1]
theorem holds_nth {at_ : List C} (g : Good at_) {k t : Nat} {x : C} (h : at_[k]? = some x) : Oc.holds at_ t x = Oc.bit t k := holds_atom (g.isa x (List.mem_of_getElem? h)) (idx_nodup g.nd h)
/-- one atom of fits -/
def fp (at_ : List C) (r t u : Nat) (x : C) : Bool := match x with
  | .some s c => s != r || (Oc.holds at_ t x || !Oc.holds at_ u c)
  | .all s c => s != r || (!Oc.holds at_ t x || Oc.holds at_ u c)
  | _ => true
theorem fits_eq (at_ : List C) (r t u : Nat) : Oc.fits at_ r t u = at_.all (fp at_ r t u) := rfl
theorem all_take {α : Type} {l : List α} {p : α → Bool} {i : Nat} {x : α} (h : l[i]? = some x) : (l.take (i + 1)).all p = ((l.take i).all p && p x) := by
  rw [take_more h, List.all_append]
  simp
theorem all_false {α : Type} {l : List α} {p : α → Bool} {i : Nat} {x : α} (h : l[i]? = some x) (hp : p x = false) : l.all p = false := by
  rw [List.all_eq_false]
  exact ⟨x, List.mem_of_getElem? h, by rw [hp]; exact Bool.false_ne_true⟩
section
variable {P : Program} {w : World} {K : PySem.W.Frag} {mg : Str → Option Value} {base : Heap} {CK : Addr}
section
variable {σ : L2.St} {H : Hp} {ta tb : TE}
theorem ev_atI {v : V} {c : C} {i : Int} {n h : Nat} (hv : CT K H v c) (ha : Ev ta σ H v) (hb : Ev tb σ H (.int i)) (hi : i = (n : Int)) (h0 : (enc c)[n]? = some h) : Ev (tOp (rIxT K) ta tb) σ H (vN h) := by
  obtain ⟨a, rfl, q⟩ := hv
  subst hi
  exact ev_op ha hb (rv_ixT q (atN h0))
theorem ev_ins {a : Addr} {at_ : List C} {x : C} {k u : Nat} {tk tu : TE} (TK : ClsK K CK) (hK : KindsAt K CK H a at_) (ha : Ev ta σ H (.ref a)) (hk : Ev tk σ H (vN k)) (hu : Ev tu σ H (vN u)) (hx : at_[k]? = some x) (hr : isRole x = true) (hlt : u < 2 ^ at_.length) :
    Ev (tOp (rIxL K) (tOp (rIxL K) (tFld K ta "insides") tk) tu) σ H (.bl (Oc.holds at_ u (inner x))) := by
  obtain ⟨dx, va, ai, ivs, h1, h2, h3, h4⟩ := hK
  obtain ⟨v, hv, hI⟩ := h4.get hx
  obtain ⟨b, rfl, hb⟩ := hI.col hr
  exact ev_op (ev_op (ev_fld ha h1 TK.cl TK.nI kF_insides) hk (rv_ixL h3 (atI_nat hv))) hu (rv_ixL hb (col_at hlt))
end
/-! ### fits -/
def spFits (K : PySem.W.Frag) (CK : Addr) : Sp := fun vs H Q _ => ∃ (a : Addr) (at_ : List C) (t u r : Nat), vs = [.ref a, vN t, vN u, vN r] ∧ KindsAt K CK H a at_ ∧ Good at_ ∧ u < 2 ^ at_.length ∧ Ret H Q fun v _ => v = .bl (Oc.fits at_ r t u)
theorem sp_fits {H : Hp} {a : Addr} {at_ : List C} {t u r : Nat} (hK : KindsAt K CK H a at_) (hg : Good at_) (hu : u < 2 ^ at_.length) : SpP (spFits K CK) [.ref a, vN t, vN u, vN r] H fun v _ => v = .bl (Oc.fits at_ r t u) := fun H1 e Q q E => ⟨a, at_, t, u, r, rfl, hK.mono e, hg, hu, q⟩
theorem sc_fits : FnScope ["self", "kind", "other", "role", "k", "atom", "held"] ["self", "kind", "other", "role"] (defScope s_fits) := ⟨rfl, rfl, rfl, by decide +kernel, rfl, by decide +kernel, by decide +kernel⟩
theorem ok_fits {f : Addr} {fd : FuncData} (F : Fun K "fits" "Kinds.fits" s_fits f fd) (T : Txt K mg) (TK : ClsK K CK) (uAH : Use P w K mg base 1 "has_bit" ["number", "k"] spAH) : FnOk P w K mg base CX0 2 f fd ["self", "kind", "other", "role"] (spFits K CK) := by
  refine F.ok sc_fits (fun vs H Q E h => ?_) (fun cdv A outer s H vs Q E hr h => ⟨_,
    pss_cons (ps_for PassesOwn.never rfl (pi_enum rfl T.enumerate (pa_cons (pe_fld (pv 0) rfl) pa_nil)) (pg_tup rfl (pgs_cons (pg_name (i := 4) sc_fits.nd rfl (.inl rfl)) (pgs_cons (pg_name (i := 5) sc_fits.nd rfl (.inl rfl)) pgs_nil)))
      (pss_one (ps_if (PW.pt (pw_and (pt_cmpR op_ne (pe_ix ix_tup (pv 5) pe_int (fun _ _ => rfl)) (pe_cst T.kNAME) (nomark _)) (pw_and1 (pt_cmpR op_eq (pe_ix ix_tup (pv 5) pe_int (fun _ _ => rfl)) (pv 3) (nomark _)))))
        (pss_cons (ps_set (i := 6) sc_fits.nd rfl (.inl rfl) (pe_use uAH hr (pa_cons (pv 1) (pa_cons (pv 4) pa_nil))))
        (pss_cons (ps_if (PW.pt (pw_and (pt_cmpR op_eq (pe_ix ix_tup (pv 5) pe_int (fun _ _ => rfl)) (pe_cst T.kSOME) (nomark _)) (pw_and (pt_not (pt_val (pv 6))) (pw_and1 (pt_val (pe_ix ix_list (pe_ix ix_list (pe_fld (pv 0) rfl) (pv 4) (fun _ _ => rfl)) (pv 2) (fun _ _ => rfl))))))) (pss_one (ps_ret pe_bl)) pss_nil)
        (pss_one (ps_if (PW.pt (pw_and (pt_cmpR op_eq (pe_ix ix_tup (pv 5) pe_int (fun _ _ => rfl)) (pe_cst T.kALL) (nomark _)) (pw_and (pt_val (pv 6)) (pw_and1 (pt_not (pt_val (pe_ix ix_list (pe_ix ix_list (pe_fld (pv 0) rfl) (pv 4) (fun _ _ => rfl)) (pv 2) (fun _ _ => rfl)))))))) (pss_one (ps_ret pe_bl)) pss_nil)))) pss_nil)))
    (pss_one (ps_ret pe_bl)), ?_⟩)
  · obtain ⟨a, at_, t, u, r, rfl, _⟩ := h
    rfl
  · obtain ⟨a, at_, t, u, r, rfl, hK, hg, hu, k⟩ := h
    obtain ⟨dx, va, ai, ivs, h1, ⟨la, avs, rfl, hla, hA⟩, h3, h4⟩ := id hK
    refine q_forEnum (K := K) (ev_fld (ev_var rfl) h1 TK.cl TK.nA kF_atoms) (sq_of hla) (fun i σ' H' => ∃ x4 x5 x6 : Option V, σ' = [some (.ref a), some (vN t), some (vN u), some (vN r), x4, x5, x6] ∧ Ex H H' ∧ (at_.take i).all (fp at_ r t u) = true)
      (fun H1 e1 => ⟨none, none, none, rfl, e1, rfl⟩) (fun i σ' H' _ ⟨_, _, _, _, e, _⟩ => sq_of (e la _ hla)) ?_ ?_
    · rintro i v σ' H' hi ⟨x4, x5, x6, rfl, e, hp⟩ H2 e2
      obtain ⟨x, hx, hv⟩ := hA.got hi
      have e' := e.trans e2
      have hv2 := hv.mono e'
      have hhold := fun t => holds_nth (t := t) hg hx
      have nxt : fp at_ r t u x = true → ∀ (H3 : Hp) (x6' : Option V), Ex H2 H3 → ∃ y4 y5 y6 : Option V, [some (.ref a), some (vN t), some (vN u), some (vN r), some (vN i), some v, x6'] = [some (.ref a), some (vN t), some (vN u), some (vN r), y4, y5, y6] ∧ Ex H H3 ∧ (at_.take (i + 1)).all (fp at_ r t u) = true :=
        fun q H3 x6' e3 => ⟨_, _, _, rfl, e'.trans e3, by rw [all_take hx, hp, q]; rfl⟩
      cases hc : isRole x with
      | false =>
        have hnm : ∃ n, x = .name n := by
          have q := hg.isa x (List.mem_of_getElem? hx)
          cases x with
          | name n => exact ⟨n, rfl⟩
          | some r c => cases hc
          | all r c => cases hc
          | _ => cases q
        obtain ⟨n, rfl⟩ := hnm
        refine s_when (b := false) (et_is (et_and (a := false) (b := false) (et_is (et_test (ev_op (ev_atI hv2 (ev_var rfl) ev_c (n := 0) rfl rfl) ev_c (rv_ne rfl))) rfl) fun q => by cases q) rfl) (fun q => by cases q) (fun _ H3 e3 => ?_)
        exact nxt rfl H3 _ e3
      | true =>
        obtain ⟨r0, hr0⟩ : ∃ r0, (enc x)[1]? = some r0 := by
          cases x with
          | some r c => exact ⟨r, rfl⟩
          | all r c => exact ⟨r, rfl⟩
          | _ => cases hc
        have h2 : (enc x).headD 0 ≠ 2 := by
          cases x with
          | some r c => simp [enc]
          | all r c => simp [enc]
          | _ => cases hc
        refine s_when (et_and (et_is (et_test (ev_op (ev_atI hv2 (ev_var rfl) ev_c (n := 0) rfl (enc0 x)) ev_c (rv_ne rfl))) (show (!decide (V.int (((enc x).headD 0 : Nat) : Int) = V.int ((2 : Nat) : Int))) = true by rw [dec_nat, decide_eq_false h2]; rfl)) fun _ => et_is (et_test (ev_op (ev_atI hv2 (ev_var rfl) ev_c (n := 1) rfl hr0) (ev_var rfl) (rv_eq rfl))) (dec_nat (a := r0) (b := r))) (fun hb3 H3 e3 => ?_) (fun hb H3 e3 => ?_)
        · have hrr : r0 = r := by simpa using hb3
          clear hb3
          subst hrr
          refine q_asg (ev_callP (ea_cons (ev_var rfl) (ea_cons (ev_var rfl) ea_nil)) sp_ah) fun H4 e4 => ?_
          have hv4 := hv2.mono (e3.trans e4)
          have hK4 := hK.mono (e'.trans (e3.trans e4))
          refine q_when (et_and (et_is (et_test (ev_op (ev_atI hv4 (ev_var rfl) ev_c (n := 0) rfl (enc0 x)) ev_c (rv_eq rfl))) (dec_nat (a := (enc x).headD 0) (b := 6))) fun _ => et_and (et_not (et_B (ev_var rfl))) fun _ => et_B (ev_ins TK hK4 (ev_var rfl) (ev_var rfl) (ev_var rfl) hx hc hu)) (fun hb H5 e5 => ?_) (fun hb5 H5 e5 => ?_)
          · refine s_ret ev_c fun H6 e6 => k _ H6 (e'.trans (e3.trans (e4.trans (e5.trans e6)))) ?_
            rw [fits_eq, all_false hx]
            cases x with
            | some s c =>
              have e9 : s = r0 := by simpa [enc] using hr0
              subst e9
              rw [← hhold t] at hb
              simp [enc, inner] at hb
              simp [fp, hb]
            | all s c => simp [enc] at hb
            | _ => cases hc
          · have hv5 := hv4.mono e5
            have hK5 := hK4.mono e5
            refine s_when (et_and (et_is (et_test (ev_op (ev_atI hv5 (ev_var rfl) ev_c (n := 0) rfl (enc0 x)) ev_c (rv_eq rfl))) (dec_nat (a := (enc x).headD 0) (b := 7))) fun _ => et_and (et_B (ev_var rfl)) fun _ => et_not (et_B (ev_ins TK hK5 (ev_var rfl) (ev_var rfl) (ev_var rfl) hx hc hu))) (fun hb H6 e6 => ?_) (fun hb H6 e6 => ?_)
            · refine s_ret ev_c fun H7 e7 => k _ H7 (e'.trans (e3.trans (e4.trans (e5.trans (e6.trans e7))))) ?_
              rw [fits_eq, all_false hx]
              cases x with
              | some s c => simp [enc] at hb
              | all s c =>
                have e9 : s = r0 := by simpa [enc] using hr0
                subst e9
                rw [← hhold t] at hb
                simp [enc, inner] at hb
                simp [fp, hb]
              | _ => cases hc
            · refine nxt ?_ H6 _ (e3.trans (e4.trans (e5.trans e6)))
              rw [← hhold t] at hb hb5
              cases x with
              | some s c =>
                simp [enc, inner] at hb5
                simp only [fp, Bool.or_eq_true, Bool.not_eq_true']
                cases q : Oc.holds at_ t (.some s c) with
                | true => exact .inr (.inl rfl)
                | false => exact .inr (.inr (hb5 q))
              | all s c =>
                simp [enc, inner] at hb
                simp only [fp, Bool.or_eq_true, Bool.not_eq_true']
                cases q : Oc.holds at_ t (.all s c) with
                | true => exact .inr (.inr (hb q))
                | false => exact .inr (.inl rfl)
              | _ => cases hc
        · refine nxt ?_ H3 _ e3
          have hne : r0 ≠ r := by simpa using hb
          cases x with
          | some s c =>
            have e9 : s = r0 := by simpa [enc] using hr0
            subst e9
            simp [fp, hne]
          | all s c =>
            have e9 : s = r0 := by simpa [enc] using hr0
            subst e9
            simp [fp, hne]
          | _ => cases hc
    · rintro σ' H' ⟨x4, x5, x6, rfl, e, hp⟩
      rw [hA.1, List.take_length] at hp
      refine s_ret ev_c fun H2 e2 => k _ H2 (e.trans e2) ?_
      rw [fits_eq, hp]
end
end Bk

namespace Bk
open PySem PySem.Spec PyProof.Rows L2 Evl LamX NdefX
open Oc (C)
theorem borne_due (at_ : List C) (l : List Nat) (t : Nat) (x : C) : (!Oc12.borne at_ l t x) = (due at_ t x && !l.any (bo at_ t x)) := by
  cases x with
  | some r c =>
    show (!(!Oc.holds at_ t (.some r c) || l.any fun u => Oc.fits at_ r t u && Oc.holds at_ u c)) = (Oc.holds at_ t (.some r c) && !l.any fun u => Oc.fits at_ r t u && Oc.holds at_ u c)
    rw [Bool.not_or, Bool.not_not]
  | all r c =>
    show (!(Oc.holds at_ t (.all r c) || l.any fun u => Oc.fits at_ r t u && !Oc.holds at_ u c)) = (!Oc.holds at_ t (.all r c) && !l.any fun u => Oc.fits at_ r t u && !Oc.holds at_ u c)
    rw [Bool.not_or]
  | _ => rfl
theorem due_role {at_ : List C} {t : Nat} {x : C} (h : due at_ t x = true) : isRole x = true := by
  cases x with
  | some r c => rfl
  | all r c => rfl
  | _ => cases h
theorem find_some {n k : Nat} {p : Nat → Bool} (hk : k < n) (h1 : ∀ j, j < k → p j = false) (h2 : p k = true) : (List.range n).find? p = some k := by
  rw [List.find?_range_eq_some]
  exact ⟨h2, List.mem_range.mpr hk, fun j hj => by rw [h1 j hj]; rfl⟩
theorem find_none {n : Nat} {p : Nat → Bool} (h1 : ∀ j, j < n → p j = false) : (List.range n).find? p = none := by
  rw [List.find?_eq_none]
  intro j hj
  rw [h1 j (List.mem_range.mp hj)]
  exact Bool.false_ne_true
section
variable {P : Program} {w : World} {K : PySem.W.Frag} {mg : Str → Option Value} {base : Heap} {CK : Addr}
theorem ev_atom {σ : L2.St} {H : Hp} {ta tk : TE} {a : Addr} {at_ : List C} {x : C} {k : Nat} (TK : ClsK K CK) (hK : KindsAt K CK H a at_) (ha : Ev ta σ H (.ref a)) (hk : Ev tk σ H (vN k)) (hx : at_[k]? = some x) : ∃ v, CT K H v x ∧ Ev (tOp (rIxL K) (tFld K ta "atoms") tk) σ H v := by
  obtain ⟨dx, va, ai, ivs, h1, ⟨la, avs, rfl, hla, hA⟩, h3, h4⟩ := hK
  obtain ⟨v, hv, hC⟩ := hA.get hx
  exact ⟨v, hC, ev_op (ev_fld ha h1 TK.cl TK.nA kF_atoms) hk (rv_ixL (sq_of hla) (atI_nat hv))⟩
/-! ### is_due -/
def spDue (K : PySem.W.Frag) (CK : Addr) : Sp := fun vs H Q _ => ∃ (a : Addr) (at_ : List C) (t k : Nat) (x : C), vs = [.ref a, vN t, vN k] ∧ KindsAt K CK H a at_ ∧ Good at_ ∧ at_[k]? = some x ∧ Ret H Q fun v _ => v = .bl (due at_ t x)
theorem sp_due {H : Hp} {a : Addr} {at_ : List C} {t k : Nat} {x : C} (hK : KindsAt K CK H a at_) (hg : Good at_) (hx : at_[k]? = some x) : SpP (spDue K CK) [.ref a, vN t, vN k] H fun v _ => v = .bl (due at_ t x) := fun H1 e Q q E => ⟨a, at_, t, k, x, rfl, hK.mono e, hg, hx, q⟩
theorem sc_is_due : FnScope ["self", "kind", "k", "head"] ["self", "kind", "k"] (defScope s_is_due) := ⟨rfl, rfl, rfl, by decide +kernel, rfl, by decide +kernel, by decide +kernel⟩
theorem ok_is_due {f : Addr} {fd : FuncData} (F : Fun K "is_due" "Kinds.is_due" s_is_due f fd) (T : Txt K mg) (TK : ClsK K CK) (uAH : Use P w K mg base 1 "has_bit" ["number", "k"] spAH) : FnOk P w K mg base CX0 2 f fd ["self", "kind", "k"] (spDue K CK) := by
  refine F.ok sc_is_due (fun vs H Q E h => ?_) (fun cdv A outer s H vs Q E hr h => ⟨_,
    pss_cons (ps_set (i := 3) sc_is_due.nd rfl (.inl rfl) (pe_ix ix_tup (pe_ix ix_list (pe_fld (pv 0) rfl) (pv 2) (fun _ _ => rfl)) pe_int (fun _ _ => rfl)))
    (pss_cons (ps_if (pt_cmpR op_eq (pv 3) (pe_cst T.kSOME) (nomark _)) (pss_one (ps_ret (pe_use uAH hr (pa_cons (pv 1) (pa_cons (pv 2) pa_nil))))) pss_nil)
    (pss_one (ps_ret (pe_and (pe_cmpR op_eq (pv 3) (pe_cst T.kALL) (nomark _)) (pe_one (pe_not (pe_use uAH hr (pa_cons (pv 1) (pa_cons (pv 2) pa_nil))))))))), ?_⟩)
  · obtain ⟨a, at_, t, k, x, rfl, _⟩ := h
    rfl
  · obtain ⟨a, at_, t, k, x, rfl, hK, hg, hx, q⟩ := h
    obtain ⟨v, hv, hE⟩ := ev_atom (σ := start ["self", "kind", "k", "head"] [.ref a, vN t, vN k]) (ta := tVar 0) (tk := tVar 2) TK hK (ev_var rfl) (ev_var rfl) hx
    have hh := holds_nth (t := t) hg hx
    refine q_asg (ev_atI hv hE ev_c (n := 0) rfl (enc0 x)) fun H1 e1 => ?_
    refine q_when (et_is (et_test (ev_op (ev_var rfl) ev_c (rv_eq rfl))) (dec_nat (a := (enc x).headD 0) (b := 6))) (fun hb H2 e2 => ?_) (fun hb H2 e2 => ?_)
    · refine s_ret (ev_callP (ea_cons (ev_var rfl) (ea_cons (ev_var rfl) ea_nil)) sp_ah) fun H3 e3 => q _ H3 (e1.trans (e2.trans e3)) ?_
      rw [← hh]
      cases x with
      | some r c => rfl
      | _ => simp [enc] at hb
    · refine s_ret (v := .bl (due at_ t x)) (ev_is (ev_andV (ev_is (ev_op (ev_var rfl) ev_c (rv_eq rfl)) (congrArg V.bl (dec_nat (a := (enc x).headD 0) (b := 7)))) fun _ => ev_notV (ev_callP (ea_cons (ev_var rfl) (ea_cons (ev_var rfl) ea_nil)) sp_ah)) ?_) fun H3 e3 => q _ H3 (e1.trans (e2.trans e3)) rfl
      rw [← hh]
      cases x with
      | some r c => exact absurd rfl (of_decide_eq_false hb)
      | all r c => rfl
      | _ => rfl
/-! ### bears_out -/
def spBO (K : PySem.W.Frag) (CK : Addr) : Sp := fun vs H Q _ => ∃ (a : Addr) (at_ : List C) (u t k : Nat) (x : C), vs = [.ref a, vN u, vN t, vN k] ∧ KindsAt K CK H a at_ ∧ Good at_ ∧ at_[k]? = some x ∧ isRole x = true ∧ u < 2 ^ at_.length ∧ Ret H Q fun v _ => v = .bl (bo at_ t x u)
theorem sp_bo {H : Hp} {a : Addr} {at_ : List C} {u t k : Nat} {x : C} (hK : KindsAt K CK H a at_) (hg : Good at_) (hx : at_[k]? = some x) (hr : isRole x = true) (hu : u < 2 ^ at_.length) : SpP (spBO K CK) [.ref a, vN u, vN t, vN k] H fun v _ => v = .bl (bo at_ t x u) := fun H1 e Q q E => ⟨a, at_, u, t, k, x, rfl, hK.mono e, hg, hx, hr, hu, q⟩
theorem sc_bears_out : FnScope ["self", "other", "kind", "k", "atom"] ["self", "other", "kind", "k"] (defScope s_bears_out) := ⟨rfl, rfl, rfl, by decide +kernel, rfl, by decide +kernel, by decide +kernel⟩
theorem dec_bl {a b : Bool} : decide (V.bl a = V.bl b) = (a == b) := by cases a <;> cases b <;> decide
theorem ok_bears_out {f : Addr} {fd : FuncData} (F : Fun K "bears_out" "Kinds.bears_out" s_bears_out f fd) (T : Txt K mg) (TK : ClsK K CK) (uF : MUse P w K mg base 2 CK "fits" ["self", "kind", "other", "role"] (spFits K CK)) : FnOk P w K mg base CX0 3 f fd ["self", "other", "kind", "k"] (spBO K CK) := by
  refine F.ok sc_bears_out (fun vs H Q E h => ?_) (fun cdv A outer s H vs Q E hr h => ⟨_,
    pss_cons (ps_set (i := 4) sc_bears_out.nd rfl (.inl rfl) (pe_ix ix_list (pe_fld (pv 0) rfl) (pv 3) (fun _ _ => rfl)))
    (pss_one (ps_ret (pe_and (pe_cmpR op_eq (pe_ix ix_list (pe_ix ix_list (pe_fld (pv 0) rfl) (pv 3) (fun _ _ => rfl)) (pv 1) (fun _ _ => rfl)) (pe_cmpR op_eq (pe_ix ix_tup (pv 4) pe_int (fun _ _ => rfl)) (pe_cst T.kSOME) (nomark _)) (nomark _))
      (pe_one (pe_muse uF (pv 0) TK.cl hr (pa_cons (pv 2) (pa_cons (pv 1) (pa_cons (pe_ix ix_tup (pv 4) pe_int (fun _ _ => rfl)) pa_nil)))))))), ?_⟩)
  · obtain ⟨a, at_, u, t, k, x, rfl, _⟩ := h
    rfl
  · obtain ⟨a, at_, u, t, k, x, rfl, hK, hg, hx, hc, hu, q⟩ := h
    obtain ⟨v, hv, hE⟩ := ev_atom (σ := start ["self", "other", "kind", "k", "atom"] [.ref a, vN u, vN t, vN k]) (ta := tVar 0) (tk := tVar 3) TK hK (ev_var rfl) (ev_var rfl) hx
    refine q_asg hE fun H1 e1 => ?_
    have hK1 := hK.mono e1
    have hv1 := hv.mono e1
    obtain ⟨r0, hr0⟩ : ∃ r0, (enc x)[1]? = some r0 := by
      cases x with
      | some r c => exact ⟨r, rfl⟩
      | all r c => exact ⟨r, rfl⟩
      | _ => cases hc
    obtain ⟨dx, va, ai, ivs, h1, _⟩ := id hK1
    refine s_ret (v := .bl (bo at_ t x u)) (ev_is (ev_andV (ev_is (ev_op (ev_ins TK hK1 (ev_var rfl) (ev_var rfl) (ev_var rfl) hx hc hu) (ev_is (ev_op (ev_atI hv1 (ev_var rfl) ev_c (n := 0) rfl (enc0 x)) ev_c (rv_eq rfl)) (congrArg V.bl (dec_nat (a := (enc x).headD 0) (b := 6)))) (rv_eq rfl)) (congrArg V.bl dec_bl))
      fun _ => ev_meth (ev_var rfl) h1 (kF_no (by decide +kernel) (by decide +kernel) (by decide +kernel)) (ea_cons (ev_var rfl) (ea_cons (ev_var rfl) (ea_cons (ev_atI hv1 (ev_var rfl) ev_c (n := 1) rfl hr0) ea_nil))) (sp_fits (t := t) (u := u) (r := r0) hK1 hg hu)) ?_) fun H3 e3 => q _ H3 (e1.trans e3) rfl
    congr 1
    cases x with
    | some s c =>
      have e9 : s = r0 := by simpa [enc] using hr0
      subst e9
      show (Oc.holds at_ u c == decide ((enc (.some s c)).headD 0 = 6) && Oc.fits at_ s t u) = (Oc.fits at_ s t u && Oc.holds at_ u c)
      rw [decide_eq_true (show (enc (.some s c)).headD 0 = 6 from rfl), Bool.and_comm]
      congr 1
      cases Oc.holds at_ u c <;> rfl
    | all s c =>
      have e9 : s = r0 := by simpa [enc] using hr0
      subst e9
      show (Oc.holds at_ u c == decide ((enc (.all s c)).headD 0 = 6) && Oc.fits at_ s t u) = (Oc.fits at_ s t u && !Oc.holds at_ u c)
      rw [decide_eq_false (show ¬ (enc (.all s c)).headD 0 = 6 by simp [enc]), Bool.and_comm]
      congr 1
      cases Oc.holds at_ u c <;> rfl
    | _ => cases hc
/-! ### lowest_bearing -/
def spLBr (K : PySem.W.Frag) (CK : Addr) : Sp := fun vs H Q _ => ∃ (a : Addr) (at_ : List C) (t k : Nat) (x : C) (b : Addr) (l : List Nat), vs = [.ref a, vN t, vN k, .ref b] ∧ KindsAt K CK H a at_ ∧ Good at_ ∧ at_[k]? = some x ∧ isRole x = true ∧ SqL K H b (l.map vN) ∧ (∀ u ∈ l, u < 2 ^ at_.length) ∧ Ret H Q fun v _ => v = .int (orNo (l.find? (bo at_ t x)))
theorem sp_lbr {H : Hp} {a : Addr} {at_ : List C} {t k : Nat} {x : C} {b : Addr} {l : List Nat} (hK : KindsAt K CK H a at_) (hg : Good at_) (hx : at_[k]? = some x) (hr : isRole x = true) (hb : SqL K H b (l.map vN)) (hl : ∀ u ∈ l, u < 2 ^ at_.length) :
    SpP (spLBr K CK) [.ref a, vN t, vN k, .ref b] H fun v _ => v = .int (orNo (l.find? (bo at_ t x))) := fun H1 e Q q E => ⟨a, at_, t, k, x, b, l, rfl, hK.mono e, hg, hx, hr, ex_l e hb, hl, q⟩
theorem sc_lowest_bearing : FnScope ["self", "kind", "k", "there", "other"] ["self", "kind", "k", "there"] (defScope s_lowest_bearing) := ⟨rfl, rfl, rfl, by decide +kernel, rfl, by decide +kernel, by decide +kernel⟩
theorem any_take {α : Type} {l : List α} {p : α → Bool} {i : Nat} {x : α} (h : l[i]? = some x) : (l.take (i + 1)).any p = ((l.take i).any p || p x) := by
  rw [take_more h, List.any_append]
  simp
theorem ok_lowest_bearing {f : Addr} {fd : FuncData} (F : Fun K "lowest_bearing" "Kinds.lowest_bearing" s_lowest_bearing f fd) (TK : ClsK K CK) (uB : MUse P w K mg base 3 CK "bears_out" ["self", "other", "kind", "k"] (spBO K CK)) : FnOk P w K mg base CX0 4 f fd ["self", "kind", "k", "there"] (spLBr K CK) := by
  refine F.ok sc_lowest_bearing (fun vs H Q E h => ?_) (fun cdv A outer s H vs Q E hr h => ⟨_,
    pss_cons (ps_for PassesOwn.never rfl (pi_list (pv 3)) (pg_name (i := 4) sc_lowest_bearing.nd rfl (.inl rfl)) (pss_one (ps_if (pt_val (pe_muse uB (pv 0) TK.cl hr (pa_cons (pv 4) (pa_cons (pv 1) (pa_cons (pv 2) pa_nil))))) (pss_one (ps_ret (pv 4))) pss_nil)))
    (pss_one (ps_ret (pe_un un_neg pe_int))), ?_⟩)
  · obtain ⟨a, at_, t, k, x, b, l, rfl, _⟩ := h
    rfl
  · obtain ⟨a, at_, t, k, x, b, l, rfl, hK, hg, hx, hc, hb, hl, q⟩ := h
    refine q_forLn (K := K) (ev_var rfl) hb (fun i σ' H' => ∃ x4 : Option V, σ' = [some (.ref a), some (vN t), some (vN k), some (.ref b), x4] ∧ Ex H H' ∧ (l.take i).find? (bo at_ t x) = none)
      (fun H1 e1 => ⟨none, rfl, e1, rfl⟩) (fun i σ' H' _ ⟨_, _, e, _⟩ => ex_l e hb) ?_ ?_
    · rintro i v σ' H' hi ⟨x4, rfl, e, hp⟩
      rw [List.getElem?_map] at hi
      obtain ⟨u, hu, rfl⟩ := Option.map_eq_some_iff.mp hi
      have hK1 := hK.mono e
      obtain ⟨dx, va, ai, ivs, h1, _⟩ := id hK1
      refine s_when (et_B (ev_meth (ev_var rfl) h1 (kF_no (by decide +kernel) (by decide +kernel) (by decide +kernel)) (ea_cons (ev_var rfl) (ea_cons (ev_var rfl) (ea_cons (ev_var rfl) ea_nil))) (sp_bo (u := u) (t := t) hK1 hg hx hc (hl u (List.mem_of_getElem? hu))))) (fun hb2 H2 e2 => ?_) (fun hb2 H2 e2 => ?_)
      · refine s_ret (ev_var rfl) fun H3 e3 => q _ H3 (e.trans (e2.trans e3)) ?_
        rw [find_take hu hp hb2]
        rfl
      · exact ⟨_, rfl, e.trans e2, find_take_no hu hp hb2⟩
    · rintro σ' H' ⟨x4, rfl, e, hp⟩
      rw [List.length_map, List.take_length] at hp
      refine s_ret (ev_un ev_c ru_neg) fun H2 e2 => q _ H2 (e.trans e2) ?_
      rw [hp]
      rfl
/-! ### is_unborne -/
def spIU (K : PySem.W.Frag) (CK : Addr) : Sp := fun vs H Q _ => ∃ (a : Addr) (at_ : List C) (t k : Nat) (x : C) (b : Addr) (l : List Nat), vs = [.ref a, vN t, vN k, .ref b] ∧ KindsAt K CK H a at_ ∧ Good at_ ∧ at_[k]? = some x ∧ SqL K H b (l.map vN) ∧ (∀ u ∈ l, u < 2 ^ at_.length) ∧ Ret H Q fun v _ => v = .bl (!Oc12.borne at_ l t x)
theorem sp_iu {H : Hp} {a : Addr} {at_ : List C} {t k : Nat} {x : C} {b : Addr} {l : List Nat} (hK : KindsAt K CK H a at_) (hg : Good at_) (hx : at_[k]? = some x) (hb : SqL K H b (l.map vN)) (hl : ∀ u ∈ l, u < 2 ^ at_.length) :
    SpP (spIU K CK) [.ref a, vN t, vN k, .ref b] H fun v _ => v = .bl (!Oc12.borne at_ l t x) := fun H1 e Q q E => ⟨a, at_, t, k, x, b, l, rfl, hK.mono e, hg, hx, ex_l e hb, hl, q⟩
theorem sc_is_unborne : FnScope ["self", "kind", "k", "there"] ["self", "kind", "k", "there"] (defScope s_is_unborne) := ⟨rfl, rfl, rfl, by decide +kernel, rfl, by decide +kernel, by decide +kernel⟩
theorem find_neg {l : List Nat} {p : Nat → Bool} : decide (orNo (l.find? p) < 0) = !l.any p := by
  cases h : l.find? p with
  | some k =>
    have h1 := List.find?_some h
    have h2 := List.mem_of_find?_eq_some h
    rw [List.any_eq_true.mpr ⟨k, h2, h1⟩]
    show decide ((k : Int) < 0) = false
    rw [decide_eq_false (by omega)]
  | none =>
    have h1 : l.any p = false := by
      rw [List.any_eq_false]
      intro x hx
      exact List.find?_eq_none.mp h x hx
    rw [h1]
    rfl
theorem ok_is_unborne {f : Addr} {fd : FuncData} (F : Fun K "is_unborne" "Kinds.is_unborne" s_is_unborne f fd) (TK : ClsK K CK) (uD : MUse P w K mg base 2 CK "is_due" ["self", "kind", "k"] (spDue K CK)) (uB : MUse P w K mg base 4 CK "lowest_bearing" ["self", "kind", "k", "there"] (spLBr K CK)) : FnOk P w K mg base CX0 5 f fd ["self", "kind", "k", "there"] (spIU K CK) := by
  refine F.ok sc_is_unborne (fun vs H Q E h => ?_) (fun cdv A outer s H vs Q E hr h => ⟨_,
    pss_one (ps_ret (pe_and (pe_muse uD (pv 0) TK.cl (hr.mono (by decide)) (pa_cons (pv 1) (pa_cons (pv 2) pa_nil))) (pe_one (pe_cmpR op_lt (pe_muse uB (pv 0) TK.cl hr (pa_cons (pv 1) (pa_cons (pv 2) (pa_cons (pv 3) pa_nil)))) pe_int (nomark _))))), ?_⟩)
  · obtain ⟨a, at_, t, k, x, b, l, rfl, _⟩ := h
    rfl
  · obtain ⟨a, at_, t, k, x, b, l, rfl, hK, hg, hx, hb, hl, q⟩ := h
    obtain ⟨dx, va, ai, ivs, h1, _⟩ := id hK
    refine s_ret (v := .bl (!Oc12.borne at_ l t x)) (ev_is (ev_andV (b := !l.any (bo at_ t x)) (ev_meth (ev_var rfl) h1 (kF_no (by decide +kernel) (by decide +kernel) (by decide +kernel)) (ea_cons (ev_var rfl) (ea_cons (ev_var rfl) ea_nil)) (sp_due (t := t) hK hg hx))
      fun hd => ev_is (ev_op (ev_meth (ev_var rfl) h1 (kF_no (by decide +kernel) (by decide +kernel) (by decide +kernel)) (ea_cons (ev_var rfl) (ea_cons (ev_var rfl) (ea_cons (ev_var rfl) ea_nil))) (sp_lbr (t := t) hK hg hx (due_role hd) hb hl)) ev_c rv_I0) (congrArg V.bl find_neg)) ?_) fun H3 e3 => q _ H3 e3 rfl
    rw [borne_due]
/-! ### lowest_unborne -/
def spLU (K : PySem.W.Frag) (CK : Addr) : Sp := fun vs H Q _ => ∃ (a : Addr) (at_ : List C) (t : Nat) (b : Addr) (l : List Nat), vs = [.ref a, vN t, .ref b] ∧ KindsAt K CK H a at_ ∧ Good at_ ∧ at_.length ≤ 10 ∧ SqL K H b (l.map vN) ∧ (∀ u ∈ l, u < 2 ^ at_.length) ∧ Ret H Q fun v _ => v = .int (orNo (lowAt at_ l t))
theorem sp_lu {H : Hp} {a : Addr} {at_ : List C} {t : Nat} {b : Addr} {l : List Nat} (hK : KindsAt K CK H a at_) (hg : Good at_) (h10 : at_.length ≤ 10) (hb : SqL K H b (l.map vN)) (hl : ∀ u ∈ l, u < 2 ^ at_.length) :
    SpP (spLU K CK) [.ref a, vN t, .ref b] H fun v _ => v = .int (orNo (lowAt at_ l t)) := fun H1 e Q q E => ⟨a, at_, t, b, l, rfl, hK.mono e, hg, h10, ex_l e hb, hl, q⟩
theorem sc_lowest_unborne : FnScope ["self", "kind", "there", "k"] ["self", "kind", "there"] (defScope s_lowest_unborne) := ⟨rfl, rfl, rfl, by decide +kernel, rfl, by decide +kernel, by decide +kernel⟩
theorem ok_lowest_unborne {f : Addr} {fd : FuncData} (F : Fun K "lowest_unborne" "Kinds.lowest_unborne" s_lowest_unborne f fd) (T : Txt K mg) (TK : ClsK K CK) (uU : MUse P w K mg base 5 CK "is_unborne" ["self", "kind", "k", "there"] (spIU K CK)) :
    FnOk P w K mg base CX0 6 f fd ["self", "kind", "there"] (spLU K CK) := by
  refine F.ok sc_lowest_unborne (fun vs H Q E h => ?_) (fun cdv A outer s H vs Q E hr h => ⟨_,
    pss_cons (ps_for PassesOwn.never rfl (pi_range1 rfl T.range (pa_cons (pe_len T.len (pe_fld (pv 0) rfl)) pa_nil)) (pg_name (i := 3) sc_lowest_unborne.nd rfl (.inl rfl))
      (pss_one (ps_if (pt_val (pe_muse uU (pv 0) TK.cl hr (pa_cons (pv 1) (pa_cons (pv 3) (pa_cons (pv 2) pa_nil))))) (pss_one (ps_ret (pv 3))) pss_nil)))
    (pss_one (ps_ret (pe_un un_neg pe_int))), ?_⟩)
  · obtain ⟨a, at_, t, b, l, rfl, _⟩ := h
    rfl
  · obtain ⟨a, at_, t, b, l, rfl, hK, hg, h10, hb, hl, q⟩ := h
    obtain ⟨dx, va, ai, ivs, h1, ⟨la, avs, rfl, hla, hA⟩, h3, h4⟩ := id hK
    refine q_forR1 (n := (at_.length : Int)) (by rw [← hA.1]; exact ea_cons (ev_len (ev_fld (ev_var rfl) h1 TK.cl TK.nA kF_atoms) (sq_of hla)) ea_nil) ⟨by omega, by omega⟩ (fun i σ' H' => ∃ x3 : Option V, σ' = [some (.ref a), some (vN t), some (.ref b), x3] ∧ Ex H H' ∧ ∀ j, j < i → (match at_[j]? with | some x => !Oc12.borne at_ l t x | none => false) = false)
      (fun H1 e1 => ⟨none, rfl, e1, fun j hj => absurd hj (by omega)⟩) ?_ ?_
    · rintro i σ' H' hi ⟨x3, rfl, e, hp⟩
      have hi' : i < at_.length := by omega
      obtain ⟨x, hx⟩ : ∃ x, at_[i]? = some x := ⟨_, List.getElem?_eq_getElem hi'⟩
      have hK1 := hK.mono e
      obtain ⟨dx1, va1, ai1, ivs1, h11, _⟩ := id hK1
      refine s_when (et_B (ev_meth (ev_var rfl) h11 (kF_no (by decide +kernel) (by decide +kernel) (by decide +kernel)) (ea_cons (ev_var rfl) (ea_cons (ev_var rfl) (ea_cons (ev_var rfl) ea_nil))) (sp_iu (t := t) hK1 hg hx (ex_l e hb) hl))) (fun hb2 H2 e2 => ?_) (fun hb2 H2 e2 => ?_)
      · refine s_ret (ev_var rfl) fun H3 e3 => q _ H3 (e.trans (e2.trans e3)) ?_
        have : lowAt at_ l t = some i := find_some hi' hp (by rw [hx]; exact hb2)
        rw [this]
        rfl
      · refine ⟨_, rfl, e.trans e2, fun j hj => ?_⟩
        by_cases hji : j = i
        · subst hji
          rw [hx]
          exact hb2
        · exact hp j (by omega)
    · rintro σ' H' ⟨x3, rfl, e, hp⟩
      refine s_ret (ev_un ev_c ru_neg) fun H2 e2 => q _ H2 (e.trans e2) ?_
      have : lowAt at_ l t = none := find_none fun j hj => hp j (by omega)
      rw [this]
      rfl
end
end Bk

namespace Bk
open PySem PySem.Spec PyProof.Rows L2 Evl LamX NdefX
open Oc (C Axiom)
abbrev s_axiom_steps : Stmt := top 57
abbrev s_round_steps : Stmt := top 58
abbrev s_without : Stmt := top 59
abbrev s_house_steps : Stmt := top 60
abbrev s_left_after : Stmt := top 61
structure TxtP (mg : Str → Option Value) : Prop where
  kBY_AXIOM : Cst mg "BY_AXIOM" (.int 0)
  kBY_ATOM : Cst mg "BY_ATOM" (.int 1)
/-! ### a new list -/
def EvF (te : TE) (σ : L2.St) (H : Hp) (Φ : Addr → Hp → Prop) : Prop := ∀ H1, Ex H H1 → ∀ Q : VK, (∀ p H2, H1 p = none → Ex H1 H2 → Φ p H2 → Q (.ref p) H2) → te σ H1 Q
def SpF (sp : Sp) (vs : List V) (H : Hp) (Φ : Addr → Hp → Prop) : Prop := ∀ H1, Ex H H1 → ∀ Q : VK, (∀ p H2, H1 p = none → Ex H1 H2 → Φ p H2 → Q (.ref p) H2) → ∀ E : XK, sp vs H1 Q E
def RetF (H : Hp) (Q : VK) (Φ : Addr → Hp → Prop) : Prop := ∀ p H2, H p = none → Ex H H2 → Φ p H2 → Q (.ref p) H2
section
variable {K : PySem.W.Frag} {σ : L2.St} {H H' : Hp} {ta tb te tx : TE} {v : V} {Φ : Addr → Hp → Prop} {Ψ : List V → Hp → Prop} {D : Ends} {tz : TS}
theorem ef_call {sp : Sp} {vs : List V} {E : XK} {ta : TA} (h : EvA ta σ H vs) (hs : SpF sp vs H Φ) : EvF (tCall sp [] E ta) σ H Φ := fun H1 e Q q =>
  h H1 e _ fun H2 e2 => by
    rw [List.append_nil]
    exact hs H2 (e.trans e2) Q (fun p H3 hp e3 hv => q p H3 (fresh_back e2 hp) (e2.trans e3) hv) E
theorem ef_callA {sp : Sp} {E : XK} {ta : TA} (h : EvAP ta σ H Ψ) (hs : ∀ vs H1, Ex H H1 → Ψ vs H1 → SpF sp vs H1 Φ) : EvF (tCall sp [] E ta) σ H Φ := fun H1 e Q q =>
  h H1 e _ fun vs H2 e2 hv => by
    rw [List.append_nil]
    exact hs vs H2 (e.trans e2) hv H2 (Ex.refl H2) Q (fun p H3 hp e3 hv => q p H3 (fresh_back e2 hp) (e2.trans e3) hv) E
theorem q_asgF {i : Nat} (h : EvF te σ H Φ) (k : ∀ p H1, H p = none → Ex H H1 → Φ p H1 → tz D (σ.set i (some (.ref p))) H1) : tSeq (tAsg te (gName i)) tz D σ H := h H (Ex.refl H) _ k
theorem s_asgF {i : Nat} (h : EvF te σ H Φ) (k : ∀ p H1, H p = none → Ex H H1 → Φ p H1 → D.nx (σ.set i (some (.ref p))) H1) : tAsg te (gName i) D σ H := h H (Ex.refl H) _ k
theorem evp_ofL {xs : List V} (h : EvL te σ H xs) : EvP te σ H fun v H' => ∃ p, v = .ref p ∧ H' p = some (.lst xs) := fun H1 e Q q => h H1 e _ fun p H2 _ e2 h2 => q _ H2 e2 ⟨p, rfl, h2⟩
theorem ofL_mono {xs : List V} : ∀ (v : V) (H H' : Hp), Ex H H' → (∃ p, v = .ref p ∧ H p = some (.lst xs)) → ∃ p, v = .ref p ∧ H' p = some (.lst xs) := fun _ _ _ e ⟨p, h1, h2⟩ => ⟨p, h1, e p _ h2⟩
end
/-! ### steps in the heap -/
def stV (s : Oc12.Step) : List V := [vN s.type, vN (if s.byAtom = true then 1 else 0), vN s.i]
def StT (K : PySem.W.Frag) (H : Hp) (v : V) (s : Oc12.Step) : Prop := ∃ p, v = .ref p ∧ SqT K H p (stV s)
def StL (K : PySem.W.Frag) (H : Hp) (p : Addr) (ss : List Oc12.Step) : Prop := ∃ vs, H p = some (.lst vs) ∧ All2 (StT K H) vs ss
section
variable {K : PySem.W.Frag} {H H' : Hp} {Z : List NTab}
theorem StT.mono {v : V} {s : Oc12.Step} (e : Ex H H') (h : StT K H v s) : StT K H' v s := by
  obtain ⟨p, rfl, h1⟩ := h
  exact ⟨p, rfl, ex_t e h1⟩
theorem StT.upd {l : Addr} {xs ys : List V} {v : V} {s : Oc12.Step} (hl : H l = some (.lst xs)) (h : StT K H v s) : StT K (upd H l (.lst ys)) v s := by
  obtain ⟨p, rfl, h1⟩ := h
  exact ⟨p, rfl, sqT_upd hl h1⟩
theorem StL.mono {p : Addr} {ss : List Oc12.Step} (e : Ex H H') (h : StL K H p ss) : StL K H' p ss := by
  obtain ⟨vs, h1, h2⟩ := h
  exact ⟨vs, e p _ h1, h2.mono fun _ _ z => z.mono e⟩
theorem StT.w {v : V} {s : Oc12.Step} (e : Wx Z H H') (h : StT K H v s) : StT K H' v s := by
  obtain ⟨p, rfl, h1⟩ := h
  exact ⟨p, rfl, wx_t e h1⟩
theorem StL.w {p : Addr} {ss : List Oc12.Step} (e : Wx Z H H') (h : StL K H p ss) : StL K H' p ss := by
  obtain ⟨vs, h1, h2⟩ := h
  exact ⟨vs, e.at h1, h2.mono fun _ _ z => z.w e⟩
end
/-- a new list of which something is so -/
def NewA (H : Hp) (Φ : Addr → Hp → Prop) : V → Hp → Prop := fun v H2 => ∃ p, v = .ref p ∧ H p = none ∧ Φ p H2
theorem NewA.back {Z : List NTab} {H H1 : Hp} {Φ : Addr → Hp → Prop} {v : V} {H2 : Hp} (w : Wx Z H H1) (h : NewA H1 Φ v H2) : NewA H Φ v H2 := by
  obtain ⟨p, rfl, hp, h2⟩ := h
  exact ⟨p, rfl, w.fr p hp, h2⟩
section
variable {P : Program} {w : World} {K : PySem.W.Frag} {mg : Str → Option Value} {base : Heap} {CK : Addr} {Z : List NTab}
/-! ### is_broken, lowest_broken -/
/-- whether an axiom is broken at a place -/
def brk (val : Vl) (t : Nat) (a : Axiom) : Bool := val a.1 t && !val a.2 t
def lowG (val : Vl) (ax : List Axiom) (t : Nat) : Option Nat := (List.range ax.length).find? fun i => match ax[i]? with
  | some a => brk val t a
  | none => false
theorem lowAx_eq (at_ : List C) (ax : List Axiom) (t : Nat) : lowAx at_ ax t = lowG (kv at_) ax t := rfl
def spBk (K : PySem.W.Frag) : Sp := fun vs H Q _ => ∃ (v : V) (n : Nat) (val : Vl) (a : Axiom) (t : Nat), vs = [v, vN t] ∧ ColP K H n val v a ∧ t < n ∧ Ret H Q fun v _ => v = .bl (brk val t a)
theorem sp_bk {H : Hp} {v : V} {n : Nat} {val : Vl} {a : Axiom} {t : Nat} (h : ColP K H n val v a) (ht : t < n) : SpP (spBk K) [v, vN t] H fun v _ => v = .bl (brk val t a) := fun H1 e Q q E => ⟨v, n, val, a, t, rfl, h.mono e, ht, q⟩
theorem sc_is_broken : FnScope ["pair", "which"] ["pair", "which"] (defScope s_is_broken) := ⟨rfl, rfl, rfl, by decide +kernel, rfl, by decide +kernel, by decide +kernel⟩
theorem ok_is_broken {f : Addr} {fd : FuncData} (F : Fun K "is_broken" "is_broken" s_is_broken f fd) : FnOk P w K mg base CX0 1 f fd ["pair", "which"] (spBk K) := by
  refine F.ok sc_is_broken (fun vs H Q E h => ?_) (fun cdv A outer s H vs Q E hr h => ⟨_,
    pss_one (ps_ret (pe_and (pe_ix ix_list (pe_ix ix_tup (pv 0) pe_int (fun _ _ => rfl)) (pv 1) (fun _ _ => rfl)) (pe_one (pe_not (pe_ix ix_list (pe_ix ix_tup (pv 0) pe_int (fun _ _ => rfl)) (pv 1) (fun _ _ => rfl)))))), ?_⟩)
  · obtain ⟨v, n, val, a, t, rfl, _⟩ := h
    rfl
  · obtain ⟨v, n, val, a, t, rfl, ⟨p, x, y, rfl, hP, ⟨a1, rfl, h1⟩, ⟨a2, rfl, h2⟩⟩, ht, q⟩ := h
    exact s_ret (ev_andV (ev_op (ev_op (ev_var rfl) ev_c (rv_ixT hP (atI_nat (j := 0) rfl))) (ev_var rfl) (rv_ixL h1 (colG_at ht))) fun _ => ev_notV (ev_op (ev_op (ev_var rfl) ev_c (rv_ixT hP (atI_nat (j := 1) rfl))) (ev_var rfl) (rv_ixL h2 (colG_at ht)))) fun H1 e => q _ H1 e rfl
def spLB (K : PySem.W.Frag) : Sp := fun vs H Q _ => ∃ (a : Addr) (cvs : List V) (n : Nat) (val : Vl) (ax : List Axiom) (t : Nat), vs = [.ref a, vN t] ∧ SqL K H a cvs ∧ All2 (ColP K H n val) cvs ax ∧ t < n ∧ Ret H Q fun v _ => v = .int (orNo (lowG val ax t))
theorem sp_lb {H : Hp} {a : Addr} {cvs : List V} {n : Nat} {val : Vl} {ax : List Axiom} {t : Nat} (ha : SqL K H a cvs) (hA : All2 (ColP K H n val) cvs ax) (ht : t < n) : SpP (spLB K) [.ref a, vN t] H fun v _ => v = .int (orNo (lowG val ax t)) :=
  fun H1 e Q q E => ⟨a, cvs, n, val, ax, t, rfl, ex_l e ha, hA.mono fun _ _ z => z.mono e, ht, q⟩
theorem sc_lowest_broken : FnScope ["pairs", "which", "axiom", "pair"] ["pairs", "which"] (defScope s_lowest_broken) := ⟨rfl, rfl, rfl, by decide +kernel, rfl, by decide +kernel, by decide +kernel⟩
theorem ok_lowest_broken {f : Addr} {fd : FuncData} (F : Fun K "lowest_broken" "lowest_broken" s_lowest_broken f fd) (T : Txt K mg) (uBk : Use P w K mg base 1 "is_broken" ["pair", "which"] (spBk K)) : FnOk P w K mg base CX0 2 f fd ["pairs", "which"] (spLB K) := by
  refine F.ok sc_lowest_broken (fun vs H Q E h => ?_) (fun cdv A outer s H vs Q E hr h => ⟨_,
    pss_cons (ps_for PassesOwn.never rfl (pi_enum rfl T.enumerate (pa_cons (pv 0) pa_nil)) (pg_tup rfl (pgs_cons (pg_name (i := 2) sc_lowest_broken.nd rfl (.inl rfl)) (pgs_cons (pg_name (i := 3) sc_lowest_broken.nd rfl (.inl rfl)) pgs_nil)))
      (pss_one (ps_if (pt_val (pe_use uBk hr (pa_cons (pv 3) (pa_cons (pv 1) pa_nil)))) (pss_one (ps_ret (pv 2))) pss_nil)))
    (pss_one (ps_ret (pe_un un_neg pe_int))), ?_⟩)
  · obtain ⟨a, cvs, n, val, ax, t, rfl, _⟩ := h
    rfl
  · obtain ⟨a, cvs, n, val, ax, t, rfl, ha, hA, ht, q⟩ := h
    refine q_forEnum (K := K) (ev_var rfl) ha (fun i σ' H' => ∃ x2 x3 : Option V, σ' = [some (.ref a), some (vN t), x2, x3] ∧ Ex H H' ∧ ∀ j, j < i → (match ax[j]? with | some a => brk val t a | none => false) = false)
      (fun H1 e1 => ⟨none, none, rfl, e1, fun j hj => absurd hj (by omega)⟩) (fun i σ' H' _ ⟨_, _, _, e, _⟩ => ex_l e ha) ?_ ?_
    · rintro i v σ' H' hi ⟨x2, x3, rfl, e, hp⟩ H2 e2
      obtain ⟨y, hy, hP⟩ := hA.got hi
      have e' := e.trans e2
      have hi' : i < ax.length := (List.getElem?_eq_some_iff.mp hy).1
      refine s_when (et_B (ev_callP (ea_cons (ev_var rfl) (ea_cons (ev_var rfl) ea_nil)) (sp_bk (hP.mono e') ht))) (fun hb H3 e3 => ?_) (fun hb H3 e3 => ?_)
      · refine s_ret (ev_var rfl) fun H4 e4 => q _ H4 (e'.trans (e3.trans e4)) ?_
        have : lowG val ax t = some i := find_some hi' hp (by rw [hy]; exact hb)
        rw [this]
        rfl
      · refine ⟨_, _, rfl, e'.trans e3, fun j hj => ?_⟩
        by_cases hji : j = i
        · subst hji
          rw [hy]
          exact hb
        · exact hp j (by omega)
    · rintro σ' H' ⟨x2, x3, rfl, e, hp⟩
      refine s_ret (ev_un ev_c ru_neg) fun H2 e2 => q _ H2 (e.trans e2) ?_
      have : lowG val ax t = none := find_none fun j hj => hp j (by rw [hA.1]; exact hj)
      rw [this]
      rfl
/-! ### axiom_steps -/
def spAS (K : PySem.W.Frag) (Z : List NTab) : Sp := fun vs H Q _ => ∃ (v va : V) (at_ : List C) (ax : List Axiom), vs = [v, va] ∧ TabsN Z H ∧ Axs K H v ax ∧ Row K H va at_ ∧ Good at_ ∧ at_.length ≤ 10 ∧ AxOk at_ ax ∧ RetW Z H Q (NewA H fun p H' => StL K H' p (Oc12.broken at_ ax))
theorem sp_as {H : Hp} {v va : V} {at_ : List C} {ax : List Axiom} (t : TabsN Z H) (hv : Axs K H v ax) (ha : Row K H va at_) (hg : Good at_) (hl : at_.length ≤ 10) (hx : AxOk at_ ax) : SpW Z (spAS K Z) [v, va] H (NewA H fun p H' => StL K H' p (Oc12.broken at_ ax)) :=
  fun Q E q => ⟨v, va, at_, ax, rfl, t, hv, ha, hg, hl, hx, q⟩
abbrev nAxiomSteps : List Str := ["axioms", "atoms", "pairs", "steps", "kind", "axiom"]
theorem sc_axiom_steps : FnScope nAxiomSteps ["axioms", "atoms"] (defScope s_axiom_steps) := ⟨rfl, rfl, rfl, by decide +kernel, rfl, by decide +kernel, by decide +kernel⟩
theorem fm_len {α β : Type} (f : α → Option β) (l : List α) : (l.filterMap f).length ≤ l.length := List.length_filterMap_le f l
theorem range_more (n : Nat) {β : Type} (f : Nat → Option β) : (List.range (n + 1)).filterMap f = (List.range n).filterMap f ++ (f n).toList := by
  rw [List.range_succ, List.filterMap_append]
  cases h : f n <;> simp [h]
theorem ok_axiom_steps {f : Addr} {fd : FuncData} (F : Fun K "axiom_steps" "axiom_steps" s_axiom_steps f fd) (T : Txt K mg) (TP : TxtP mg) (uAXC : Use P w K mg base 7 "axiom_columns" ["axioms", "atoms"] (spAXC K Z)) (uLB : Use P w K mg base 2 "lowest_broken" ["pairs", "which"] (spLB K)) :
    FnOk P w K mg base CX0 8 f fd ["axioms", "atoms"] (spAS K Z) := by
  refine F.ok sc_axiom_steps (fun vs H Q E h => ?_) (fun cdv A outer s H vs Q E hr h => ⟨_,
    pss_cons (ps_set (i := 2) sc_axiom_steps.nd rfl (.inl rfl) (pe_use uAXC hr (pa_cons (pv 0) (pa_cons (pv 1) pa_nil))))
    (pss_cons (ps_set (i := 3) sc_axiom_steps.nd rfl (.inl rfl) (pe_lst pa_nil))
    (pss_cons (ps_for PassesOwn.never rfl (pi_range1 rfl T.range (pa_cons (pe_op op_shl pe_int (pe_len T.len (pv 1))) pa_nil)) (pg_name (i := 4) sc_axiom_steps.nd rfl (.inl rfl))
      (pss_cons (ps_set (i := 5) sc_axiom_steps.nd rfl (.inl rfl) (pe_use uLB (hr.mono (by decide)) (pa_cons (pv 2) (pa_cons (pv 4) pa_nil))))
      (pss_one (ps_if (pt_cmpR op_ge (pv 5) pe_int (nomark _)) (pss_one (ps_expr (pe_bm PySem.F.plainAttrs_list PySem.F.slot_list_append PySem.F.type_list_append mt_append (pv 3) (pa_cons (pe_tup (pa_cons (pv 4) (pa_cons (pe_cst TP.kBY_AXIOM) (pa_cons (pv 5) pa_nil)))) pa_nil)))) pss_nil))))
    (pss_one (ps_ret (pv 3))))), ?_⟩)
  · obtain ⟨v, va, at_, ax, rfl, _⟩ := h
    rfl
  · obtain ⟨v, va, at_, ax, rfl, t, hv, hR, hg, hl, hx, k⟩ := h
    have hp10 := pow_le hl
    refine q_asgW (Z := Z) (Φ := NewP K H (2 ^ at_.length) (kv at_) ax) (ew_call t (ea_cons (ev_var rfl) (ea_cons (ev_var rfl) ea_nil)) fun H1 e1 Q' E' q' => sp_axc (tab_ex t e1) (hv.mono e1) (hR.mono e1) hg hl hx Q' E' fun v3 H3 w3 h3 => q' v3 H3 w3 (h3.back (.of t e1))) fun cv H1 w1 hcv => ?_
    obtain ⟨cb, cvs, rfl, hcb0, hcb, hC1⟩ := hcv
    refine q_asgL (el_lst ea_nil (by decide)) fun l H2 hl2 e2 hd2 => ?_
    have hl0 : H l = none := w1.fr l hl2
    refine q_forR1 (n := ((2 ^ at_.length : Nat) : Int)) (ea_cons (ev_pow (ev_var rfl) ((hR.w w1).mono e2) hl) ea_nil) ⟨Int.natCast_nonneg _, by omega⟩ (fun i σ' H' => ∃ (x4 x5 : Option V) (vs : List V), σ' = [some v, some va, some (.ref cb), some (.ref l), x4, x5] ∧ Ex H1 H' ∧ H' l = some (.lst vs) ∧ All2 (StT K H') vs ((List.range i).filterMap fun t => (lowAx at_ ax t).map fun i => (⟨t, false, i⟩ : Oc12.Step)))
      (fun H3 e3 => ⟨none, none, [], rfl, e2.trans e3, e3 l _ hd2, .nil⟩) ?_ ?_
    · rintro i σ' H' hi ⟨x4, x5, vs, rfl, e, hL, hS⟩
      have hi' : i < 2 ^ at_.length := by omega
      refine q_asg (ev_callP (ea_cons (ev_var rfl) (ea_cons (ev_var rfl) ea_nil)) (sp_lb (t := i) (sq_of (e cb _ hcb)) (hC1.mono fun _ _ z => z.mono e) hi')) fun H3 e3 => ?_
      rw [← lowAx_eq]
      refine s_when (et_test (ev_op (ev_var rfl) ev_c rv_I0)) (fun hb H4 e4 => ?_) (fun hb H4 e4 => ?_)
      · cases hlo : lowAx at_ ax i with
        | none =>
          rw [hlo] at hb
          exact absurd (of_decide_eq_true hb) (by show ¬ (0 : Int) ≤ -1; decide)
        | some j =>
          have hvl : vs.length < 100000 := by
            rw [hS.1]
            have := fm_len (fun t => (lowAx at_ ax t).map fun i => (⟨t, false, i⟩ : Oc12.Step)) (List.range i)
            rw [List.length_range] at this
            omega
          refine s_appU ((e3.trans e4) l _ hL) (ev_var rfl) (eu_tup (ea_cons (ev_var rfl) (ea_cons ev_c (ea_cons (ev_var rfl) ea_nil))) (by show 3 ≤ 100000; decide)) hvl fun b H5 hb5 e5 h5 => ?_
          have hL5 := (e3.trans (e4.trans e5)) l _ hL
          refine ⟨_, _, vs ++ [.ref b], rfl, Ex.mut (e.trans (e3.trans (e4.trans e5))) hl2, upd_same, ?_⟩
          rw [range_more, hlo]
          exact (hS.mono fun _ _ z => StT.upd hL5 (z.mono (e3.trans (e4.trans e5)))).snoc (StT.upd hL5 ⟨b, rfl, st_of h5⟩)
      · cases hlo : lowAx at_ ax i with
        | some j =>
          rw [hlo] at hb
          exact absurd (show (0 : Int) ≤ (j : Int) by omega) (of_decide_eq_false hb)
        | none =>
          refine ⟨_, _, vs, rfl, e.trans (e3.trans e4), (e3.trans e4) l _ hL, ?_⟩
          rw [range_more, hlo]
          show All2 _ _ (_ ++ [])
          rw [List.append_nil]
          exact hS.mono fun _ _ z => z.mono (e3.trans e4)
    · rintro σ' H' ⟨x4, x5, vs, rfl, e, hL, hS⟩
      refine s_ret (ev_var rfl) fun H3 e3 => k _ H3 (w1.ex (e.trans e3)) ⟨l, rfl, hl0, vs, e3 l _ hL, ?_⟩
      rw [Int.toNat_natCast] at hS
      exact hS.mono fun _ _ z => z.mono e3
/-! ### round_steps -/
def spRS (K : PySem.W.Frag) (CK : Addr) : Sp := fun vs H Q _ => ∃ (a : Addr) (at_ : List C) (b : Addr) (l : List Nat), vs = [.ref a, .ref b] ∧ KindsAt K CK H a at_ ∧ Good at_ ∧ at_.length ≤ 10 ∧ SqL K H b (l.map vN) ∧ (∀ u ∈ l, u < 2 ^ at_.length) ∧ l.length ≤ 10000 ∧ RetF H Q fun p H' => StL K H' p (round at_ l)
theorem sp_rs {H : Hp} {a : Addr} {at_ : List C} {b : Addr} {l : List Nat} (hK : KindsAt K CK H a at_) (hg : Good at_) (h10 : at_.length ≤ 10) (hb : SqL K H b (l.map vN)) (hl : ∀ u ∈ l, u < 2 ^ at_.length) (hz : l.length ≤ 10000) :
    SpF (spRS K CK) [.ref a, .ref b] H fun p H' => StL K H' p (round at_ l) := fun H1 e Q q E => ⟨a, at_, b, l, rfl, hK.mono e, hg, h10, ex_l e hb, hl, hz, q⟩
theorem sc_round_steps : FnScope ["kinds", "there", "steps", "kind", "atom"] ["kinds", "there"] (defScope s_round_steps) := ⟨rfl, rfl, rfl, by decide +kernel, rfl, by decide +kernel, by decide +kernel⟩
theorem take_fm {α β : Type} (f : α → Option β) {l : List α} {i : Nat} {x : α} (h : l[i]? = some x) : (l.take (i + 1)).filterMap f = (l.take i).filterMap f ++ (f x).toList := by
  rw [take_more h, List.filterMap_append]
  cases h : f x <;> simp [h]
theorem ok_round_steps {f : Addr} {fd : FuncData} (F : Fun K "round_steps" "round_steps" s_round_steps f fd) (TK : ClsK K CK) (TP : TxtP mg) (uLU : MUse P w K mg base 6 CK "lowest_unborne" ["self", "kind", "there"] (spLU K CK)) : FnOk P w K mg base CX0 7 f fd ["kinds", "there"] (spRS K CK) := by
  refine F.ok sc_round_steps (fun vs H Q E h => ?_) (fun cdv A outer s H vs Q E hr h => ⟨_, pss_cons (ps_set (i := 2) sc_round_steps.nd rfl (.inl rfl) (pe_lst pa_nil))
    (pss_cons (ps_for PassesOwn.never rfl (pi_list (pv 1)) (pg_name (i := 3) sc_round_steps.nd rfl (.inl rfl)) (pss_cons (ps_set (i := 4) sc_round_steps.nd rfl (.inl rfl) (pe_muse uLU (pv 0) TK.cl hr (pa_cons (pv 3) (pa_cons (pv 1) pa_nil))))
      (pss_one (ps_if (pt_cmpR op_ge (pv 4) pe_int (nomark _)) (pss_one (ps_expr (pe_bm PySem.F.plainAttrs_list PySem.F.slot_list_append PySem.F.type_list_append mt_append (pv 2) (pa_cons (pe_tup (pa_cons (pv 3) (pa_cons (pe_cst TP.kBY_ATOM) (pa_cons (pv 4) pa_nil)))) pa_nil)))) pss_nil))))
    (pss_one (ps_ret (pv 2)))), ?_⟩)
  · obtain ⟨a, at_, b, l, rfl, _⟩ := h
    rfl
  · obtain ⟨a, at_, b, l, rfl, hK, hg, h10, hb, hl, hz, k⟩ := h
    refine q_asgL (el_lst ea_nil (by decide)) fun sl H1 hs0 e1 h1 => ?_
    refine q_forLn (K := K) (ev_var rfl) (ex_l e1 hb) (fun i σ' H' => ∃ (x3 x4 : Option V) (vs : List V), σ' = [some (.ref a), some (.ref b), some (.ref sl), x3, x4] ∧ Ex H H' ∧ H' sl = some (.lst vs) ∧ All2 (StT K H') vs ((l.take i).filterMap fun t => (lowAt at_ l t).map fun k => (⟨t, true, k⟩ : Oc12.Step)))
      (fun H2 e2 => ⟨none, none, [], rfl, e1.trans e2, e2 sl _ h1, .nil⟩) (fun i σ' H' _ ⟨_, _, _, _, e, _⟩ => ex_l e hb) ?_ ?_
    · rintro i v σ' H' hi ⟨x3, x4, vs, rfl, e, hL, hS⟩
      rw [List.getElem?_map] at hi
      obtain ⟨t, ht, rfl⟩ := Option.map_eq_some_iff.mp hi
      have hK1 := hK.mono e
      obtain ⟨dx, va, ai, ivs, hk1, _⟩ := id hK1
      refine q_asg (ev_meth (ev_var rfl) hk1 (kF_no (by decide +kernel) (by decide +kernel) (by decide +kernel)) (ea_cons (ev_var rfl) (ea_cons (ev_var rfl) ea_nil)) (sp_lu (t := t) hK1 hg h10 (ex_l e hb) hl)) fun H3 e3 => ?_
      refine s_when (et_test (ev_op (ev_var rfl) ev_c rv_I0)) (fun hb2 H4 e4 => ?_) (fun hb2 H4 e4 => ?_)
      · cases hlo : lowAt at_ l t with
        | none =>
          rw [hlo] at hb2
          exact absurd (of_decide_eq_true hb2) (by show ¬ (0 : Int) ≤ -1; decide)
        | some j =>
          have hvl : vs.length < 100000 := by
            rw [hS.1]
            have := fm_len (fun t => (lowAt at_ l t).map fun k => (⟨t, true, k⟩ : Oc12.Step)) (l.take i)
            have q2 : (l.take i).length ≤ l.length := List.length_take_le' _ _
            omega
          refine s_appU ((e3.trans e4) sl _ hL) (ev_var rfl) (eu_tup (ea_cons (ev_var rfl) (ea_cons ev_c (ea_cons (ev_var rfl) ea_nil))) (by show 3 ≤ 100000; decide)) hvl fun b5 H5 hb5 e5 h5 => ?_
          have hL5 := (e3.trans (e4.trans e5)) sl _ hL
          refine ⟨_, _, vs ++ [.ref b5], rfl, Ex.mut (e.trans (e3.trans (e4.trans e5))) hs0, upd_same, ?_⟩
          rw [take_fm _ ht, hlo]
          exact (hS.mono fun _ _ z => StT.upd hL5 (z.mono (e3.trans (e4.trans e5)))).snoc (StT.upd hL5 ⟨b5, rfl, st_of h5⟩)
      · cases hlo : lowAt at_ l t with
        | some j =>
          rw [hlo] at hb2
          exact absurd (show (0 : Int) ≤ (j : Int) by omega) (of_decide_eq_false hb2)
        | none =>
          refine ⟨_, _, vs, rfl, e.trans (e3.trans e4), (e3.trans e4) sl _ hL, ?_⟩
          rw [take_fm _ ht, hlo]
          show All2 _ _ (_ ++ [])
          rw [List.append_nil]
          exact hS.mono fun _ _ z => z.mono (e3.trans e4)
    · rintro σ' H' ⟨x3, x4, vs, rfl, e, hL, hS⟩
      refine s_ret (ev_var rfl) fun H3 e3 => k sl H3 hs0 (e.trans e3) ⟨vs, e3 sl _ hL, ?_⟩
      rw [List.length_map, List.take_length] at hS
      exact hS.mono fun _ _ z => z.mono e3
end
end Bk

namespace Bk
open PySem PySem.Spec PyProof.Rows L2 Evl LamX NdefX
open Oc (C Axiom)
theorem inV_nat (t : Nat) : ∀ ns : List Nat, inV (vN t) (ns.map vN) = ns.contains t
  | [] => rfl
  | n :: ns => by
    have ih := inV_nat t ns
    unfold inV at ih ⊢
    rw [List.map_cons, List.any_cons, ih, List.contains_cons]
    congr 1
    show ((n : Int) == (t : Int)) = (t == n)
    by_cases h : n = t
    · subst h
      simp
    · rw [beq_eq_false_iff_ne.mpr (show ¬ (n : Int) = (t : Int) by omega), beq_eq_false_iff_ne.mpr fun z => h z.symm]
theorem flat_nat (ns : List Nat) : (ns.map vN).all flatV = true := by
  rw [List.all_eq_true]
  intro x hx
  obtain ⟨n, _, rfl⟩ := List.mem_map.mp hx
  rfl
theorem left_has (l : List Nat) (ss : List Oc12.Step) : left l ss = l.filter fun t => !(ss.map (·.type)).contains t := by
  unfold left
  apply List.filter_congr
  intro t _
  congr 1
  rw [Bool.eq_iff_iff]
  simp
theorem rounds_len (at_ : List C) : ∀ (n : Nat) (l : List Nat), (Oc12.rounds at_ n l).length ≤ n * l.length
  | 0, l => by simp [Oc12.rounds]
  | n + 1, l => by
    rw [rounds_succ]
    split
    · simp
    · have h1 := rounds_len at_ n (left l (round at_ l))
      have h2 : (round at_ l).length ≤ l.length := fm_len _ _
      have h3 : (left l (round at_ l)).length ≤ l.length := List.length_filter_le _ _
      have h4 : n * (left l (round at_ l)).length ≤ n * l.length := Nat.mul_le_mul_left n h3
      rw [List.length_append, Nat.add_mul]
      omega
section
variable {K : PySem.W.Frag} {σ : L2.St} {H H' : Hp} {te tl : TE} {t : TT}
theorem given_take {α : Type} {ys : List α} {p : α → Bool} {h : α → V} : ∀ (n : Nat), n ≤ ys.length → given n (fun i => match ys[i]? with | some y => p y | none => false) (fun i => match ys[i]? with | some y => h y | none => .non) = ((ys.take n).filter p).map h
  | 0, _ => rfl
  | n + 1, hn => by
    have ih := given_take (ys := ys) (p := p) (h := h) n (by omega)
    obtain ⟨y, hy⟩ : ∃ y, ys[n]? = some y := ⟨_, List.getElem?_eq_getElem (show n < ys.length by omega)⟩
    rw [take_more hy, List.filter_append, List.map_append, ← ih]
    cases hp : p y with
    | true =>
      rw [given_yes (by simp only [hy]; exact hp)]
      simp [hp, hy]
    | false =>
      rw [given_no (by simp only [hy]; exact hp)]
      simp [hp]
/-- a comprehension over a list whose items stand for others -/
theorem el_lcM {α : Type} {ys : List α} {p : α → Bool} {h : α → V} {j : Nat} {vs : List Nat} {a : Addr} {xs : List V} (ha : Ev tl σ H (.ref a)) (hx : SqL K H a xs) (hlen : xs.length = ys.length) (hz : xs.length ≤ 40000) (hw : ∀ x, wipe ((wipe σ vs).set j (some x)) vs = wipe σ vs)
    (ht : ∀ (i : Nat) (x : V) (y : α) H1, Ex H H1 → xs[i]? = some x → ys[i]? = some y → EvT t ((wipe σ vs).set j (some x)) H1 (p y)) (he : ∀ (i : Nat) (x : V) (y : α) H1, Ex H H1 → xs[i]? = some x → ys[i]? = some y → p y = true → Ev te ((wipe σ vs).set j (some x)) H1 (h y)) :
    EvL (tLc (iList K tl) (gName j) t te vs) σ H ((ys.filter p).map h) := by
  have q := el_lcL (K := K) (te := te) (t := t) (fun i => match ys[i]? with | some y => p y | none => false) (fun i => match ys[i]? with | some y => h y | none => .non) ha hx hz hw (fun i x H1 e hi => ?_) (fun i x H1 e hi hp => ?_)
  · rw [hlen, given_take _ (Nat.le_refl _), List.take_length] at q
    exact q
  · obtain ⟨y, hy⟩ : ∃ y, ys[i]? = some y := ⟨_, List.getElem?_eq_getElem (by rw [← hlen]; exact (List.getElem?_eq_some_iff.mp hi).1)⟩
    simp only [hy]
    exact ht i x y H1 e hi hy
  · obtain ⟨y, hy⟩ : ∃ y, ys[i]? = some y := ⟨_, List.getElem?_eq_getElem (by rw [← hlen]; exact (List.getElem?_eq_some_iff.mp hi).1)⟩
    simp only [hy] at hp ⊢
    exact he i x y H1 e hi hy hp
end
/-- a class of the module, ready to make -/
structure MkUse (P : Program) (w : World) (K : PySem.W.Frag) (mg : Str → Option Value) (base : Heap) (k : Nat) (x : Str) (C : Addr) (ps : List Str) (sp : Sp) : Prop where
  ex : ∃ (f : Addr) (fd : FuncData), mg x = some (.ref C) ∧ Mk K C f ∧ Binds K fd ps [] ∧ FnOk P w K mg base CX0 k f fd ps sp
theorem pe_mkuse {X : Cx} {k : Nat} {x : Str} {C : Addr} {ps : List Str} {sp : Sp} {p pos : Pos} {e : Expr} {es : List Expr} {t : TA} (u : MkUse X.prog X.w X.K X.mg X.base k x C ps sp) (hr : Room (k + 1) X.A) (ha : PA X (e :: es) t) (hg : Gl X x := by rfl)
    (hdb : (x == ("__debug__" : Str)) = false := by decide) (he : starEach (e :: es) X.env = (false, eval e X.env) :: starEach es X.env := by rfl) (hpl : (backTo pos (starEach es X.env)).any (·.1) = false := by rfl) :
    PE X (.Call (.Name x p) (e :: es) [] pos) (tMake C sp [] E0 t) := by
  obtain ⟨f, fd, h1, h2, h3, h4⟩ := u.ex
  exact pe_make h2 h4 hr hg h1 h3 .nil pass0 ha hdb he hpl
theorem pe_mkuse0 {X : Cx} {k : Nat} {x : Str} {C : Addr} {ps : List Str} {sp : Sp} {p pos : Pos} (u : MkUse X.prog X.w X.K X.mg X.base k x C ps sp) (hr : Room (k + 1) X.A) (hg : Gl X x := by rfl)
    (hdb : (x == ("__debug__" : Str)) = false := by decide) : PE X (.Call (.Name x p) [] [] pos) (tMake C sp [] E0 tNil) := by
  obtain ⟨f, fd, h1, h2, h3, h4⟩ := u.ex
  exact pe_make0 h2 h4 hr hg h1 h3 .nil pass0 hdb
section
variable {P : Program} {w : World} {K : PySem.W.Frag} {mg : Str → Option Value} {base : Heap} {CK : Addr} {Z : List NTab}
/-! ### without -/
def spW (K : PySem.W.Frag) : Sp := fun vs H Q _ => ∃ (b : Addr) (l : List Nat) (p : Addr) (ss : List Oc12.Step), vs = [.ref b, .ref p] ∧ SqL K H b (l.map vN) ∧ StL K H p ss ∧ l.length ≤ 10000 ∧ ss.length ≤ 10000 ∧ RetL ((left l ss).map vN) H Q
theorem sp_w {H : Hp} {b : Addr} {l : List Nat} {p : Addr} {ss : List Oc12.Step} (hb : SqL K H b (l.map vN)) (hs : StL K H p ss) (hl : l.length ≤ 10000) (hz : ss.length ≤ 10000) : SpL (spW K) [.ref b, .ref p] H ((left l ss).map vN) := fun H1 e Q q E => ⟨b, l, p, ss, rfl, ex_l e hb, hs.mono e, hl, hz, q⟩
abbrev nWithout : List Str := ["there", "steps", "gone", "step", "kind"]
theorem sc_without : FnScope nWithout ["there", "steps"] (defScope s_without) := ⟨rfl, rfl, rfl, by decide +kernel, rfl, by decide +kernel, by decide +kernel⟩
theorem ok_without {f : Addr} {fd : FuncData} (F : Fun K "without" "without" s_without f fd) : FnOk P w K mg base CX0 1 f fd ["there", "steps"] (spW K) := by
  refine F.ok sc_without (fun vs H Q E h => ?_) (fun cdv A outer s H vs Q E hr h => ⟨_,
    pss_cons (ps_set (i := 2) sc_without.nd rfl (.inr rfl) (pe_lc (own := [("step", 3)]) (g := gName 3) (tt := tYes) rfl sc_without.nd (pi_list (pv 1)) (blkOk_by (own := [("step", 3)]) (N := nWithout) (sc := defScope s_without) (by decide +kernel)) (fun _ _ _ _ _ => pg_name (i := 3) sc_without.nd rfl (Or.inl rfl)) (fun _ _ _ _ _ => pts_nil)
      (fun _ _ _ _ _ => pe_ix (r := rIxT K) ix_tup (pv 3) pe_int (fun _ _ => rfl))))
    (pss_one (ps_ret (pe_lc (own := [("kind", 4)]) (g := gName 4) (tt := tTest (tOp (rIn K true) (tVar 4) (tVar 2))) rfl sc_without.nd (pi_list (pv 0)) (blkOk_by (own := [("kind", 4)]) (N := nWithout) (sc := defScope s_without) (by decide +kernel)) (fun _ _ _ _ _ => pg_name (i := 4) sc_without.nd rfl (Or.inl rfl))
      (fun _ _ _ _ _ => pts_one (pt_cmpR op_notIn_seq (pv 4) (pv 2) rfl)) (fun _ _ _ _ _ => pv 4)))), ?_⟩)
  · obtain ⟨b, l, p, ss, rfl, _⟩ := h
    rfl
  · obtain ⟨b, l, p, ss, rfl, hb, ⟨svs, hp, hS⟩, hl, hz, k⟩ := h
    refine q_asgL (el_lcM (K := K) (ys := ss) (p := fun _ => true) (h := fun s => vN s.type) (ev_var rfl) (sq_of hp) hS.1 (by rw [hS.1]; omega) (fun _ => rfl) (fun i x y H1 _ _ _ => et_yes) fun i x y H1 e hi hy _ => ?_) fun g H1 hg e1 h1 => ?_
    · obtain ⟨q, rfl, hq⟩ := hS.2 i x y hi hy
      exact ev_op (ev_var rfl) ev_c (rv_ixT (ex_t e hq) (atI_nat (j := 0) rfl))
    · have h1' : H1 g = some (.lst ((ss.map (·.type)).map vN)) := by
        rw [h1, List.filter_eq_self.mpr fun _ _ => rfl, List.map_map]
        rfl
      refine s_retL (el_lcM (K := K) (ys := l) (p := fun t => !(ss.map (·.type)).contains t) (h := vN) (ev_var rfl) (ex_l e1 hb) (by rw [List.length_map]) (by rw [List.length_map]; omega) (fun _ => rfl) (fun i x y H2 e hi hy => ?_) fun i x y H2 e hi hy _ => ?_) fun q H2 hq e2 h2 => k q H2 (fresh_back e1 hq) (e1.trans e2) (by rw [left_has]; exact h2)
      · have ex : x = vN y := by
          rw [List.getElem?_map, hy] at hi
          exact (Option.some.inj hi).symm
        subst ex
        refine et_is (et_test (ev_op (ev_var rfl) (ev_var rfl) (rv_niL (sq_of (e g _ h1')) rfl (flat_nat _)))) ?_
        rw [inV_nat]
      · have ex : x = vN y := by
          rw [List.getElem?_map, hy] at hi
          exact (Option.some.inj hi).symm
        subst ex
        exact ev_var rfl
/-! ### house_steps -/
theorem ew_kinds {σ : L2.St} {H : Hp} {ta : TE} {va : V} {at_ : List C} (t : TabsN Z H) (ha : Ev ta σ H va) (hR : Row K H va at_) (hg : Good at_) (hl : at_.length ≤ 10) (hc : ∀ x ∈ at_, (enc x).length ≤ 1000) : EvW Z (tMake CK (spKI K CK Z) [] E0 (tCons ta tNil)) σ H (NewA H fun p H' => KindsAt K CK H' p at_) := fun Q q =>
  ha H (Ex.refl H) _ fun H2 e2 x dx hx hdx hne => by
    have ex : Ex H2 (upd (upd H2 dx (.own x)) x (.ins CK dx [])) := fun b o h => by
      rw [upd_ne (ne_of_none h hx), upd_ne (ne_of_none h hdx)]
      exact h
    refine ⟨x, dx, va, at_, rfl, tab_ex t (e2.trans ex), upd_same, hR.mono (e2.trans ex), hg, hl, hc, fun H3 hK hk t3 f3 => ⟨rfl, q _ H3 ⟨fun b o h n => ?_, t3, fun b h => fresh_back e2 (upd_none (upd_none (f3 b h)))⟩ ⟨x, rfl, fresh_back e2 hx, hK⟩⟩⟩
    exact hk b o (ex b o (e2 b o h)) (ne_of_none (e2 b o h) hx) n
def spHS (K : PySem.W.Frag) (Z : List NTab) : Sp := fun vs H Q _ => ∃ (v va : V) (at_ : List C) (ax : List Axiom), vs = [v, va] ∧ TabsN Z H ∧ Axs K H v ax ∧ Row K H va at_ ∧ Good at_ ∧ at_.length ≤ 5 ∧ (∀ x ∈ at_, (enc x).length ≤ 1000) ∧ AxOk at_ ax ∧ RetW Z H Q (NewA H fun p H' => StL K H' p (ownSteps at_ ax))
theorem sp_hs {H : Hp} {v va : V} {at_ : List C} {ax : List Axiom} (t : TabsN Z H) (hv : Axs K H v ax) (ha : Row K H va at_) (hg : Good at_) (hl : at_.length ≤ 5) (hc : ∀ x ∈ at_, (enc x).length ≤ 1000) (hx : AxOk at_ ax) : SpW Z (spHS K Z) [v, va] H (NewA H fun p H' => StL K H' p (ownSteps at_ ax)) :=
  fun Q E q => ⟨v, va, at_, ax, rfl, t, hv, ha, hg, hl, hc, hx, q⟩
theorem sc_house_steps : FnScope ["axioms", "atoms", "kinds", "steps", "there", "latest"] ["axioms", "atoms"] (defScope s_house_steps) := ⟨rfl, rfl, rfl, by decide +kernel, rfl, by decide +kernel, by decide +kernel⟩
theorem pow_le5 {n : Nat} (h : n ≤ 5) : 2 ^ n ≤ 32 := Nat.le_trans (Nat.pow_le_pow_right (by decide) h) (by decide)
theorem broken_len (at_ : List C) (ax : List Axiom) : (Oc12.broken at_ ax).length ≤ 2 ^ at_.length := by
  have := fm_len (fun t => (lowAx at_ ax t).map fun i => (⟨t, false, i⟩ : Oc12.Step)) (List.range (2 ^ at_.length))
  rw [List.length_range] at this
  exact this
theorem own_len {at_ : List C} {ax : List Axiom} (h : at_.length ≤ 5) : (ownSteps at_ ax).length ≤ 2000 := by
  unfold ownSteps
  have h1 := broken_len at_ ax
  have h2 := rounds_len at_ (2 ^ at_.length + 1) (left (List.range (2 ^ at_.length)) (Oc12.broken at_ ax))
  have h3 : (left (List.range (2 ^ at_.length)) (Oc12.broken at_ ax)).length ≤ 2 ^ at_.length := by
    have := List.length_filter_le (fun t => !(Oc12.broken at_ ax).any fun x => x.type == t) (List.range (2 ^ at_.length))
    rw [List.length_range] at this
    exact this
  have h4 := pow_le5 h
  have h5 : (2 ^ at_.length + 1) * (left (List.range (2 ^ at_.length)) (Oc12.broken at_ ax)).length ≤ 33 * 32 := Nat.mul_le_mul (by omega) (by omega)
  rw [List.length_append]
  omega
theorem ok_house_steps {f : Addr} {fd : FuncData} (F : Fun K "house_steps" "house_steps" s_house_steps f fd) (T : Txt K mg) (TK : ClsK K CK) (uMK : MkUse P w K mg base 8 "Kinds" CK ["self", "atoms"] (spKI K CK Z)) (uAS : Use P w K mg base 8 "axiom_steps" ["axioms", "atoms"] (spAS K Z)) (uW : Use P w K mg base 1 "without" ["there", "steps"] (spW K))
    (uRS : Use P w K mg base 7 "round_steps" ["kinds", "there"] (spRS K CK)) : FnOk P w K mg base CX0 10 f fd ["axioms", "atoms"] (spHS K Z) := by
  refine F.ok sc_house_steps (fun vs H Q E h => ?_) (fun cdv A outer s H vs Q E hr h => ⟨_,
    pss_cons (ps_set (i := 2) sc_house_steps.nd rfl (.inl rfl) (pe_mkuse uMK hr (pa_cons (pv 1) pa_nil)))
    (pss_cons (ps_set (i := 3) sc_house_steps.nd rfl (.inl rfl) (pe_use uAS (hr.mono (by decide)) (pa_cons (pv 0) (pa_cons (pv 1) pa_nil))))
    (pss_cons (ps_set (i := 4) sc_house_steps.nd rfl (.inl rfl) (pe_use uW (hr.mono (by decide)) (pa_cons (pe_listRg rfl rfl T.list (prg_1 rfl T.range (pe_fld (pv 2) rfl))) (pa_cons (pv 3) pa_nil))))
    (pss_cons (ps_set (i := 5) sc_house_steps.nd rfl (.inl rfl) (pe_use uRS (hr.mono (by decide)) (pa_cons (pv 2) (pa_cons (pv 4) pa_nil))))
    (pss_cons (ps_while PassesOwn.never (pt_cmpR op_gt (pe_len T.len (pv 5)) pe_int (nomark _))
      (pss_cons (ps_expr (pe_bm PySem.F.plainAttrs_list PySem.F.slot_list_extend PySem.F.type_list_extend mt_extend (pv 3) (pa_cons (pv 5) pa_nil)))
      (pss_cons (ps_set (i := 4) sc_house_steps.nd rfl (.inl rfl) (pe_use uW (hr.mono (by decide)) (pa_cons (pv 4) (pa_cons (pv 5) pa_nil))))
      (pss_one (ps_set (i := 5) sc_house_steps.nd rfl (.inl rfl) (pe_use uRS (hr.mono (by decide)) (pa_cons (pv 2) (pa_cons (pv 4) pa_nil))))))))
    (pss_one (ps_ret (pv 3))))))), ?_⟩)
  · obtain ⟨v, va, at_, ax, rfl, _⟩ := h
    rfl
  · obtain ⟨v, va, at_, ax, rfl, t, hv, hR, hg, hl, hc, hx, k⟩ := h
    have hp5 := pow_le5 hl
    refine q_asgW (ew_kinds (Z := Z) (CK := CK) t (ev_var rfl) hR hg (by omega) hc) fun kv1 H0 w0 hkv => ?_
    obtain ⟨kp, rfl, hk0, hK⟩ := hkv
    refine q_asgW (Z := Z) (Φ := NewA H0 fun p H' => StL K H' p (Oc12.broken at_ ax)) (ew_call w0.tab (ea_cons (ev_var rfl) (ea_cons (ev_var rfl) ea_nil)) fun H1 e1 Q' E' q' => sp_as (tab_ex w0.tab e1) ((hv.w w0).mono e1) ((hR.w w0).mono e1) hg (by omega) hx Q' E' fun v3 H3 w3 h3 => q' v3 H3 w3 (h3.back (.of w0.tab e1))) fun sv H2 w2 hsv => ?_
    obtain ⟨sp, rfl, hs0, hS⟩ := hsv
    have hK2 := hK.w w2
    obtain ⟨dx, va', ai, ivs, hk2, _⟩ := id hK2
    have hsub : ∀ (l : List Nat), (∀ u ∈ l, u < 2 ^ at_.length) → ∀ ss, ∀ u ∈ left l ss, u < 2 ^ at_.length := fun l hl ss u hu => hl u (List.mem_filter.mp hu).1
    have hlr : ∀ u ∈ List.range (2 ^ at_.length), u < 2 ^ at_.length := fun u hu => List.mem_range.mp hu
    have hll : (left (List.range (2 ^ at_.length)) (Oc12.broken at_ ax)).length ≤ 2 ^ at_.length := by
      have := List.length_filter_le (fun t => !(Oc12.broken at_ ax).any fun x => x.type == t) (List.range (2 ^ at_.length))
      rw [List.length_range] at this
      exact this
    have hbl := broken_len at_ ax
    have hol := own_len (at_ := at_) (ax := ax) hl
    refine q_asgL (xs := (left (List.range (2 ^ at_.length)) (Oc12.broken at_ ax)).map vN) (el_callA (eap_consP ofL_mono (evp_ofL (el_listRg (n := 2 ^ at_.length) (ev_fld (ev_var rfl) hk2 TK.cl TK.nT kF_total) (by omega))) (ea_cons (ev_var rfl) ea_nil)) fun vs H3 e3 hvs => ?_) fun tp H3 ht0 e3 h3 => ?_
    · obtain ⟨u, rfl, p, rfl, hp⟩ := hvs
      exact sp_w (sq_of hp) (hS.mono e3) (by rw [List.length_range]; omega) (by omega)
    have hK3 := hK2.mono e3
    refine q_asgF (ef_call (ea_cons (ev_var rfl) (ea_cons (ev_var rfl) ea_nil)) (sp_rs hK3 hg (by omega) (sq_of h3) (hsub _ hlr _) (by omega))) fun lp H4 hl0 e4 hL => ?_
    have ntp : tp ≠ sp := fun z => by
      obtain ⟨vs, h1, _⟩ := hS
      rw [z, h1] at ht0
      cases ht0
    have nlp : lp ≠ sp := fun z => by
      obtain ⟨vs, h1, _⟩ := hS.mono e3
      rw [z, h1] at hl0
      cases hl0
    refine q_while (fun m σ' H' => ∃ (l : List Nat) (G : Nat) (ss : List Oc12.Step) (tp lp : Addr), σ' = [some v, some va, some (.ref kp), some (.ref sp), some (.ref tp), some (.ref lp)] ∧ Wx Z H0 H' ∧ StL K H' sp ss ∧ tp ≠ sp ∧ lp ≠ sp ∧ H' tp = some (.lst (l.map vN)) ∧ StL K H' lp (round at_ l) ∧ l.length < G ∧ ss ++ Oc12.rounds at_ G l = ownSteps at_ ax ∧ (∀ u ∈ l, u < 2 ^ at_.length) ∧ l.length ≤ 2 ^ at_.length ∧ m = l.length) _
      ⟨left (List.range (2 ^ at_.length)) (Oc12.broken at_ ax), 2 ^ at_.length + 1, Oc12.broken at_ ax, tp, lp, rfl, w2.ex (e3.trans e4), hS.mono (e3.trans e4), ntp, nlp, e4 tp _ h3, hL, by omega, rfl, hsub _ hlr _, hll, rfl⟩ ?_
    rintro m σ' H5 ⟨l, G, ss, tp, lp, rfl, e5, hS5, ntp, nlp, h5, hL5, hG, hown, hlb, hlen, rfl⟩
    obtain ⟨lvs, hlv, hLA⟩ := id hL5
    obtain ⟨svs, hsv, hSA⟩ := id hS5
    have hsl : ss.length ≤ 2000 := by
      have := congrArg List.length hown
      rw [List.length_append] at this
      omega
    have hrl : (round at_ l).length ≤ l.length := fm_len _ _
    obtain ⟨G, rfl⟩ : ∃ g, G = g + 1 := ⟨G - 1, by omega⟩
    refine ⟨_, et_test (ev_op (ev_len (ev_var rfl) (sq_of hlv)) ev_c rv_I0), fun hb H6 e6 => ?_, fun hb H6 e6 => ?_⟩
    · have hne : round at_ l ≠ [] := fun z => by
        have q := of_decide_eq_true hb
        rw [hLA.1, z] at q
        exact absurd q (by decide)
      refine ⟨_, fun σ2 H2 n => n, ?_⟩
      have hsv6 := e6 sp _ hsv
      have hlv6 := e6 lp _ hlv
      refine ⟨_, rfl, Or.inl ⟨rfl, svs, sq_of hsv6⟩, _, rfl, sp, lp, svs, lvs, rfl, rfl, hsv6, hlv6, sz_of (by rw [hSA.1, hLA.1]; omega), ?_⟩
      have e7 : Wx Z H0 (upd H6 sp (.lst (svs ++ lvs))) := (e5.ex e6).mut hs0 hsv6
      have hL7 : StL K (upd H6 sp (.lst (svs ++ lvs))) lp (round at_ l) := ⟨lvs, by rw [upd_ne nlp]; exact hlv6, hLA.mono fun _ _ z => StT.upd hsv6 (z.mono e6)⟩
      have hS7 : StL K (upd H6 sp (.lst (svs ++ lvs))) sp (ss ++ round at_ l) := ⟨svs ++ lvs, upd_same, (hSA.mono fun _ _ z => StT.upd hsv6 (z.mono e6)).append (hLA.mono fun _ _ z => StT.upd hsv6 (z.mono e6))⟩
      have ht7 : upd H6 sp (.lst (svs ++ lvs)) tp = some (.lst (l.map vN)) := by
        rw [upd_ne ntp]
        exact e6 tp _ h5
      refine q_asgL (el_call (ea_cons (ev_var rfl) (ea_cons (ev_var rfl) ea_nil)) (sp_w (sq_of ht7) hL7 (by omega) (by omega))) fun tp' H8 ht8 e8 h8 => ?_
      have hlt := round_less hne
      refine s_asgF (ef_call (ea_cons (ev_var rfl) (ea_cons (ev_var rfl) ea_nil)) (sp_rs (hK.w (e7.ex e8)) hg (by omega) (sq_of h8) (hsub _ hlb _) (by omega))) fun lp' H9 hl9 e9 h9 => ?_
      refine ⟨_, hlt, left l (round at_ l), G, ss ++ round at_ l, tp', lp', rfl, e7.ex (e8.trans e9), hS7.mono (e8.trans e9), ?_, ?_, e9 tp' _ h8, h9, by omega, ?_, hsub _ hlb _, by omega, rfl⟩
      · rintro rfl
        rw [upd_same] at ht8
        cases ht8
      · rintro rfl
        obtain ⟨vs, h1, _⟩ := hS7.mono e8
        rw [h1] at hl9
        cases hl9
      · rw [← hown, rounds_succ, if_neg hne, List.append_assoc]
    · have hnil : round at_ l = [] := by
        have q := of_decide_eq_false hb
        rw [hLA.1] at q
        cases hq : round at_ l with
        | nil => rfl
        | cons a t =>
          rw [hq, List.length_cons] at q
          exact absurd (by omega) q
      rw [rounds_succ, if_pos hnil, List.append_nil] at hown
      subst hown
      exact s_ret (ev_var rfl) fun H7 e7 => k _ H7 (w0.trans (e5.ex (e6.trans e7))) ⟨sp, rfl, w0.fr sp hs0, hS5.mono (e6.trans e7)⟩
/-! ### left_after -/
def spLA (K : PySem.W.Frag) : Sp := fun vs H Q _ => ∃ (p : Addr) (va : V) (at_ : List C) (ss : List Oc12.Step), vs = [.ref p, va] ∧ StL K H p ss ∧ Row K H va at_ ∧ at_.length ≤ 5 ∧ ss.length ≤ 10000 ∧ RetL ((left (List.range (2 ^ at_.length)) ss).map vN) H Q
theorem sp_la {H : Hp} {p : Addr} {va : V} {at_ : List C} {ss : List Oc12.Step} (hs : StL K H p ss) (ha : Row K H va at_) (hl : at_.length ≤ 5) (hz : ss.length ≤ 10000) : SpL (spLA K) [.ref p, va] H ((left (List.range (2 ^ at_.length)) ss).map vN) := fun H1 e Q q E => ⟨p, va, at_, ss, rfl, hs.mono e, ha.mono e, hl, hz, q⟩
theorem sc_left_after : FnScope ["steps", "atoms"] ["steps", "atoms"] (defScope s_left_after) := ⟨rfl, rfl, rfl, by decide +kernel, rfl, by decide +kernel, by decide +kernel⟩
theorem ok_left_after {f : Addr} {fd : FuncData} (F : Fun K "left_after" "left_after" s_left_after f fd) (T : Txt K mg) (uW : Use P w K mg base 1 "without" ["there", "steps"] (spW K)) : FnOk P w K mg base CX0 2 f fd ["steps", "atoms"] (spLA K) := by
  refine F.ok sc_left_after (fun vs H Q E h => ?_) (fun cdv A outer s H vs Q E hr h => ⟨_,
    pss_one (ps_ret (pe_use uW hr (pa_cons (pe_listRg rfl rfl T.list (prg_1 rfl T.range (pe_op op_shl pe_int (pe_len T.len (pv 1))))) (pa_cons (pv 0) pa_nil)))), ?_⟩)
  · obtain ⟨p, va, at_, ss, rfl, _⟩ := h
    rfl
  · obtain ⟨p, va, at_, ss, rfl, hS, hR, hl, hz, k⟩ := h
    have hp5 := pow_le5 hl
    refine s_retL (xs := (left (List.range (2 ^ at_.length)) ss).map vN) (el_callA (eap_consP ofL_mono (evp_ofL (el_listRg (n := 2 ^ at_.length) (ev_pow (ev_var rfl) hR (by omega)) (by omega))) (ea_cons (ev_var rfl) ea_nil)) fun vs H3 e3 hvs => ?_) k
    obtain ⟨u, rfl, q, rfl, hq⟩ := hvs
    exact sp_w (sq_of hq) (hS.mono e3) (by rw [List.length_range]; omega) hz
end
end Bk

namespace Bk
open PySem PySem.Spec PyProof.Rows L2 Evl LamX NdefX
open Oc (C Axiom)
open Oc01 (Thing)
abbrev s_has_atom : Stmt := top 33
abbrev s_thing_column : Stmt := top 34
structure TxtB (mg : Str → Option Value) : Prop where
  any : mg "any" = none
  all : mg "all" = none
  zip : mg "zip" = none
/-! ### things in the heap -/
def WyP (K : PySem.W.Frag) (H : Hp) (v : V) (e : Nat × Nat) : Prop := ∃ p, v = .ref p ∧ SqT K H p [vN e.1, vN e.2]
def ThP (K : PySem.W.Frag) (H : Hp) (v : V) (th : Thing) : Prop := ∃ p b wvs, v = .ref p ∧ SqT K H p [vN th.names, .ref b] ∧ SqL K H b wvs ∧ All2 (WyP K H) wvs th.to
def ThL (K : PySem.W.Frag) (H : Hp) (v : V) (m : List Thing) : Prop := ∃ a vs, v = .ref a ∧ SqL K H a vs ∧ All2 (ThP K H) vs m
section
variable {K : PySem.W.Frag} {H H' : Hp} {Z : List NTab}
theorem WyP.mono {v : V} {e : Nat × Nat} (x : Ex H H') (h : WyP K H v e) : WyP K H' v e := by
  obtain ⟨p, rfl, q⟩ := h
  exact ⟨p, rfl, ex_t x q⟩
theorem WyP.w {v : V} {e : Nat × Nat} (x : Wx Z H H') (h : WyP K H v e) : WyP K H' v e := by
  obtain ⟨p, rfl, q⟩ := h
  exact ⟨p, rfl, wx_t x q⟩
theorem ThP.mono {v : V} {th : Thing} (x : Ex H H') (h : ThP K H v th) : ThP K H' v th := by
  obtain ⟨p, b, wvs, rfl, h1, h2, h3⟩ := h
  exact ⟨p, b, wvs, rfl, ex_t x h1, ex_l x h2, h3.mono fun _ _ z => z.mono x⟩
theorem ThP.w {v : V} {th : Thing} (x : Wx Z H H') (h : ThP K H v th) : ThP K H' v th := by
  obtain ⟨p, b, wvs, rfl, h1, h2, h3⟩ := h
  exact ⟨p, b, wvs, rfl, wx_t x h1, wx_l x h2, h3.mono fun _ _ z => z.w x⟩
theorem ThL.mono {v : V} {m : List Thing} (x : Ex H H') (h : ThL K H v m) : ThL K H' v m := by
  obtain ⟨a, vs, rfl, h1, h2⟩ := h
  exact ⟨a, vs, rfl, ex_l x h1, h2.mono fun _ _ z => z.mono x⟩
theorem ThL.w {v : V} {m : List Thing} (x : Wx Z H H') (h : ThL K H v m) : ThL K H' v m := by
  obtain ⟨a, vs, rfl, h1, h2⟩ := h
  exact ⟨a, vs, rfl, wx_l x h1, h2.mono fun _ _ z => z.w x⟩
end
/-- a model whose ways lead to things of it -/
structure MOk (m : List Thing) : Prop where
  len : m.length ≤ 100
  to : ∀ th ∈ m, ∀ e ∈ th.to, e.2 < m.length
  few : ∀ th ∈ m, th.to.length ≤ 1000
section
variable {P : Program} {w : World} {K : PySem.W.Frag} {mg : Str → Option Value} {base : Heap} {Z : List NTab}
section
variable {σ : L2.St} {H : Hp} {ta : TE}
theorem ev_any {a : Addr} {bs : List Bool} (ha : Ev ta σ H (.ref a)) (h : SqL K H a (bs.map V.bl)) : Ev (tCB (rAny K) (tCons ta tNil)) σ H (.bl (bs.any id)) := fun H1 e Q q =>
  ha H1 e _ fun H2 e2 => ⟨a, bs, rfl, ex_l (e.trans e2) h, q H2 e2⟩
theorem ev_all {a : Addr} {bs : List Bool} (ha : Ev ta σ H (.ref a)) (h : SqL K H a (bs.map V.bl)) : Ev (tCB (rAll K) (tCons ta tNil)) σ H (.bl (bs.all id)) := fun H1 e Q q =>
  ha H1 e _ fun H2 e2 => ⟨a, bs, rfl, ex_l (e.trans e2) h, q H2 e2⟩
end
/-! ### has_atom -/
def spHA (K : PySem.W.Frag) : Sp := fun vs H Q _ => ∃ (v : V) (m : List Thing) (d : C) (i x : Nat) (th : Thing) (pa : Addr) (pvs : List V), vs = [v, vN ((enc d).headD 0), vN x, .ref pa] ∧ isAt d = true ∧ (enc d)[1]? = some x ∧ m[i]? = some th ∧ MOk m ∧ ThP K H v th ∧ SqL K H pa pvs ∧ All2 (ColG K H m.length (tv m)) pvs (partsOf d) ∧ Ret H Q fun v _ => v = .bl (tv m d i)
theorem sp_ha {H : Hp} {v : V} {m : List Thing} {d : C} {i x : Nat} {th : Thing} {pa : Addr} {pvs : List V} (hd : isAt d = true) (hx : (enc d)[1]? = some x) (hi : m[i]? = some th) (hm : MOk m) (hv : ThP K H v th) (hp : SqL K H pa pvs) (hA : All2 (ColG K H m.length (tv m)) pvs (partsOf d)) :
    SpP (spHA K) [v, vN ((enc d).headD 0), vN x, .ref pa] H fun v _ => v = .bl (tv m d i) := fun H1 e Q q E => ⟨v, m, d, i, x, th, pa, pvs, rfl, hd, hx, hi, hm, hv.mono e, ex_l e hp, hA.mono fun _ _ z => z.mono e, q⟩
abbrev nHasAtom : List Str := ["thing", "head", "choice", "parts", "reached", "way"]
theorem sc_has_atom : FnScope nHasAtom ["thing", "head", "choice", "parts"] (defScope s_has_atom) := ⟨rfl, rfl, rfl, by decide +kernel, rfl, by decide +kernel, by decide +kernel⟩
theorem any_some {l : List (Nat × Nat)} {r : Nat} {f : Nat → Bool} : (((l.filter fun e => e.1 == r).map fun e => f e.2).any id) = l.any fun e => e.1 == r && f e.2 := by
  rw [List.any_map, List.any_filter]
  rfl
theorem all_all {l : List (Nat × Nat)} {r : Nat} {f : Nat → Bool} : (((l.filter fun e => e.1 == r).map fun e => f e.2).all id) = l.all fun e => e.1 != r || f e.2 := by
  rw [List.all_map, List.all_filter]
  rfl
theorem ok_has_atom {f : Addr} {fd : FuncData} (F : Fun K "has_atom" "has_atom" s_has_atom f fd) (T : Txt K mg) (TB : TxtB mg) (uAH : Use P w K mg base 1 "has_bit" ["number", "k"] spAH) : FnOk P w K mg base CX0 2 f fd ["thing", "head", "choice", "parts"] (spHA K) := by
  refine F.ok sc_has_atom (fun vs H Q E h => ?_) (fun cdv A outer s H vs Q E hr h => ⟨_,
    pss_cons (ps_if (pt_cmpR op_eq (pv 1) (pe_cst T.kNAME) (nomark _)) (pss_one (ps_ret (pe_use uAH hr (pa_cons (pe_ix ix_tup (pv 0) pe_int (fun _ _ => rfl)) (pa_cons (pv 2) pa_nil))))) pss_nil)
    (pss_cons (ps_setLc (i := 4) (own := [("way", 5)]) (g := gName 5) (tt := tTest (tOp rEq (tOp (rIxT K) (tVar 5) (tC (.int 0))) (tVar 2))) rfl sc_has_atom.nd rfl rfl (sw_true rfl rfl rfl (by decide +kernel)) (pi_list (pe_ix ix_tup (pv 0) pe_int (fun _ _ => rfl))) (blkOk_by (own := [("way", 5)]) (N := nHasAtom) (sc := defScope s_has_atom) (by decide +kernel))
      (fun _ _ _ _ _ => pg_name (i := 5) sc_has_atom.nd rfl (Or.inl rfl)) (fun _ _ _ _ _ => pts_one (pt_cmpR op_eq (pe_ix (r := rIxT K) ix_tup (pv 5) pe_int (fun _ _ => rfl)) (pv 2) (nomark _)))
      (fun _ _ _ _ _ => pe_ix (r := rIxL K) ix_list (pe_ix (r := rIxL K) ix_list (pv 3) pe_int (fun _ _ => rfl)) (pe_ix (r := rIxT K) ix_tup (pv 5) pe_int (fun _ _ => rfl)) (fun _ _ => rfl)))
    (pss_cons (ps_if (pt_cmpR op_eq (pv 1) (pe_cst T.kSOME) (nomark _)) (pss_one (ps_ret (pe_callB (cr_any rfl) rfl TB.any boot_any (pa_cons (pv 4) pa_nil)))) pss_nil)
    (pss_one (ps_ret (pe_callB (cr_all rfl) rfl TB.all boot_all (pa_cons (pv 4) pa_nil)))))), ?_⟩)
  · obtain ⟨v, m, d, i, x, th, pa, pvs, rfl, _⟩ := h
    rfl
  · obtain ⟨v, m, d, i, x, th, pa, pvs, rfl, hd, hx, hi, hm, ⟨p, b, wvs, rfl, hp, hb, hW⟩, hpa, hA, k⟩ := h
    have hthm := List.mem_of_getElem? hi
    refine q_when (et_is (et_test (ev_op (ev_var rfl) ev_c (rv_eq rfl))) (dec_nat (a := (enc d).headD 0) (b := 2))) (fun hb1 H1 e1 => ?_) (fun hb1 H1 e1 => ?_)
    · cases d with
      | name a =>
        have ex : a = x := by simpa [enc] using hx
        subst ex
        refine s_ret (ev_callP (ea_cons (ev_op (ev_var rfl) ev_c (rv_ixT (ex_t e1 hp) (atI_nat (j := 0) rfl))) (ea_cons (ev_var rfl) ea_nil)) (sp_ah (t := th.names) (k := a))) fun H2 e2 => k _ H2 (e1.trans e2) ?_
        simp only [tv, Oc12.isOf, hi]
      | _ => simp [enc] at hb1
    · have hrole : ∃ c, partsOf d = [c] ∧ isRole d = true ∧ ((enc d).headD 0 = 6 → tv m d i = th.to.any fun e => e.1 == x && tv m c e.2) ∧ (¬ (enc d).headD 0 = 6 → tv m d i = th.to.all fun e => e.1 != x || tv m c e.2) := by
        cases d with
        | some r c =>
          have ex : r = x := by simpa [enc] using hx
          subst ex
          exact ⟨c, rfl, rfl, fun _ => by simp only [tv, Oc12.isOf, hi], fun z => absurd rfl z⟩
        | all r c =>
          have ex : r = x := by simpa [enc] using hx
          subst ex
          exact ⟨c, rfl, rfl, fun z => by simp [enc] at z, fun _ => by simp only [tv, Oc12.isOf, hi]⟩
        | name a => exact absurd rfl (of_decide_eq_false hb1)
        | _ => cases hd
      obtain ⟨c, hpc, _, h6, h7⟩ := hrole
      rw [hpc] at hA
      have hz := hm.few th hthm
      refine q_asgL (el_lcM (K := K) (ys := th.to) (p := fun e => e.1 == x) (h := fun e => .bl (tv m c e.2)) (ev_op (ev_var rfl) ev_c (rv_ixT (ex_t e1 hp) (atI_nat (j := 1) rfl))) (ex_l e1 hb) hW.1 (by rw [hW.1]; omega) (fun _ => rfl) (fun j u e H2 e2 hu he => ?_) fun j u e H2 e2 hu he _ => ?_) fun l H2 hl2 e2 h2 => ?_
      · obtain ⟨q, rfl, hq⟩ := hW.2 j u e hu he
        refine et_is (et_test (ev_op (ev_op (ev_var rfl) ev_c (rv_ixT (ex_t (e1.trans e2) hq) (atI_nat (j := 0) rfl))) (ev_var rfl) (rv_eq rfl))) ?_
        show decide (V.int (e.1 : Int) = V.int (x : Int)) = (e.1 == x)
        rw [dec_nat]
        rw [Bool.eq_iff_iff]
        simp
      · obtain ⟨q, rfl, hq⟩ := hW.2 j u e hu he
        exact ev_part (i := 0) (ev_var rfl) ev_c (ev_op (ev_var rfl) ev_c (rv_ixT (ex_t (e1.trans e2) hq) (atI_nat (j := 1) rfl))) (ex_l (e1.trans e2) hpa) (hA.mono fun _ _ z => z.mono (e1.trans e2)) rfl (hm.to th hthm e (List.mem_of_getElem? he))
      · have h2' : H2 l = some (.lst ((((th.to.filter fun e => e.1 == x).map fun e => tv m c e.2)).map V.bl)) := by
          rw [h2, List.map_map]
          rfl
        refine q_when (et_is (et_test (ev_op (ev_var rfl) ev_c (rv_eq rfl))) (dec_nat (a := (enc d).headD 0) (b := 6))) (fun hb3 H3 e3 => ?_) (fun hb3 H3 e3 => ?_)
        · refine s_ret (ev_any (ev_var rfl) (sq_of (e3 l _ h2'))) fun H4 e4 => k _ H4 (e1.trans (e2.trans (e3.trans e4))) ?_
          rw [h6 (of_decide_eq_true hb3), any_some]
        · refine s_ret (ev_all (ev_var rfl) (sq_of (e3 l _ h2'))) fun H4 e4 => k _ H4 (e1.trans (e2.trans (e3.trans e4))) ?_
          rw [h7 (of_decide_eq_false hb3), all_all]
/-! ### tell_atom of the things -/
abbrev s_tellT : Stmt := (defBody s_thing_column).getD 0 (.Pass ⟨0, 0, 0, 0⟩)
abbrev qnT : Str := ("thing_column" ++ ".<locals>." : Str) ++ "tell_atom"
abbrev nfT (cells : List (Str × Addr)) (c' : Addr) : NF := NF.of s_tellT "tell_atom" qnT (cloFrom cells (C8.fnScope s_tellT).names []) c'
def spTT (K : PySem.W.Frag) : List (Option V) → Sp := fun ws vs H Q _ => ∃ (vt : V) (a pa : Addr) (pvs : List V) (m : List Thing) (c d : C) (q : Nat), ws = [some (.ref a), some vt] ∧ vs = [vN q, .ref pa] ∧ ThL K H vt m ∧ MOk m ∧ SqT K H a ((enc c).map vN) ∧ Ok c ∧ (q, d) ∈ subsAt 0 c ∧ isAt d = true ∧ SqL K H pa pvs ∧ All2 (ColG K H m.length (tv m)) pvs (partsOf d) ∧
  RetL ((colG m.length (tv m) d).map V.bl) H Q
abbrev nTellT : List Str := ["place", "parts", "concept", "things", "thing"]
def ownT : Str → Bool := fun x => x == ("place" : Str) || x == ("parts" : Str)
theorem ncs_tellT : NSc nTellT ["place", "parts"] ["concept", "things"] (C8.fnScope s_tellT) ownT :=
  ⟨rfl, rfl, rfl, by decide +kernel, rfl, by decide +kernel, by decide +kernel, by decide +kernel, by decide +kernel, by decide +kernel⟩
theorem enc_at1 {c d : C} {q x : Nat} (oc : Ok c) (h : (q, d) ∈ subsAt 0 c) (hx : (enc d)[1]? = some x) : (enc c)[q + 1]? = some x := by
  obtain ⟨_, ⟨post, e⟩, _⟩ := subsAt_place c 0 (enc c) [] oc (by rw [List.drop_zero, List.append_nil]) q d h
  have : ((enc c).drop q)[1]? = (enc c)[q + 1]? := by rw [List.getElem?_drop]
  rw [← this, e, List.getElem?_append_left (List.getElem?_eq_some_iff.mp hx).1, hx]
theorem atom_second {d : C} (h : isAt d = true) : ∃ x, (enc d)[1]? = some x := by
  cases d with
  | name a => exact ⟨a, rfl⟩
  | some r c => exact ⟨r, rfl⟩
  | all r c => exact ⟨r, rfl⟩
  | _ => cases h
theorem ok_tellT {g c' : Addr} {cells : List (Str × Addr)} (uHA : Use P w K mg base 2 "has_atom" ["thing", "head", "choice", "parts"] (spHA K)) : NOk P w K mg base CX0 4 g (nfT cells c') ["place", "parts"] ["concept", "things"] (spTT K) := by
  refine nok_own (N := nTellT) ncs_tellT (fun y c q => clo_in ncs_tellT.free q) (fun doc pm ctv us hl => match us, hl with | [_, _], _ => rfl) (fun ws vs H Q E h => ?_) (fun A outer s H vs ws Q E hr hws h => ⟨_,
    pss_one (ps_ret (pe_lc (own := [("thing", 4)]) (g := gName 4) (tt := tYes) rfl ncs_tellT.nd (pi_list (pv 3)) (blkOk_by (own := [("thing", 4)]) (N := nTellT) (sc := C8.fnScope s_tellT) (by decide +kernel)) (fun _ _ _ _ _ => pg_name (i := 4) ncs_tellT.nd rfl (Or.inl rfl)) (fun _ _ _ _ _ => pts_nil)
      (fun _ _ _ _ _ => pe_use uHA (hr.mono (by decide)) (pa_cons (pv 4) (pa_cons (pe_ix (r := rIxT K) ix_tup (pv 2) (pv 0) (fun _ _ => rfl)) (pa_cons (pe_ix (r := rIxT K) ix_tup (pv 2) (pe_op op_add (pv 0) pe_int) (fun _ _ => rfl)) (pa_cons (pv 1) pa_nil))))))), ?_⟩)
  · obtain ⟨vt, a, pa, pvs, m, c, d, q, rfl, rfl, _⟩ := h
    rfl
  · obtain ⟨vt, a, pa, pvs, m, c, d, q, rfl, rfl, ⟨ta, tvs, rfl, hta, hT⟩, hm, ha, oc, hq, hd, hpa, hA, k⟩ := h
    obtain ⟨x, hx⟩ := atom_second hd
    have hml := hm.len
    refine s_retL (el_lcM (K := K) (ys := List.range m.length) (p := fun _ => true) (h := fun i => .bl (tv m d i)) (ev_var rfl) hta (by rw [hT.1, List.length_range]) (by rw [hT.1]; omega) (fun _ => rfl) (fun i x y H1 _ _ _ => et_yes) fun i u y H1 e1 hi hy _ => ?_) fun b H2 hb e2 h2 => k b H2 hb e2 ?_
    · have hyi : i = y := by
        have hil : i < m.length := by
          rw [← hT.1]
          exact (List.getElem?_eq_some_iff.mp hi).1
        rw [List.getElem?_range hil] at hy
        exact Option.some.inj hy
      subst hyi
      obtain ⟨th, hth, hP⟩ := hT.got hi
      refine ev_callP (ea_cons (ev_var rfl) (ea_cons (ev_op (ev_var rfl) (ev_var rfl) (rv_ixT (ex_t e1 ha) (atN (enc_at oc hq)))) (ea_cons (ev_op (ev_var rfl) (ev_op (ev_var rfl) ev_c rv_I0) (rv_ixT (ex_t e1 ha) (i := ((q + 1 : Nat) : Int)) (atN (enc_at1 oc hq hx)))) (ea_cons (ev_var rfl) ea_nil))))
        (sp_ha hd hx hth hm (hP.mono e1) (ex_l e1 hpa) (hA.mono fun _ _ z => z.mono e1))
    · rw [h2, List.filter_eq_self.mpr fun _ _ => rfl]
      unfold colG
      rw [List.map_map]
      rfl
theorem q_ndef {i : Nat} {mk : Addr → NF} {tz : TS} {D : Ends} {σ : L2.St} {H : Hp} (t : TabsN Z H) (k : ∀ g c' H1, Wx Z H H1 → H1 g = some (FnO g (mk c')) → H1 c' = some (CodeO c' (mk c').qual) → tz D (σ.set i (some (.ref g))) H1) : tSeq (tNdefM Z i mk) tz D σ H :=
  ⟨t, fun g c' H1 x1 x2 x3 _ x5 x6 => k g c' H1 ⟨x1, x3, x2⟩ x5 x6⟩
theorem s_retH {σ : L2.St} {H : Hp} {D : Ends} {js : List Nat} {sp : Addr → Addr → List (Option V) → Sp} {E : XK} {ta : TA} {vs : List V} (h : EvA ta σ H vs) (k : ∀ H1, Ex H H1 → ∃ g c', sp g c' (js.map (slotAt σ)) vs H1 D.rt E) : tRet (tCallH js sp E ta) D σ H := h H (Ex.refl H) _ k
/-! ### thing_column -/
def spTC (K : PySem.W.Frag) (Z : List NTab) : Sp := fun vs H Q _ => ∃ (v vt : V) (m : List Thing) (c : C), vs = [v, vt] ∧ TabsN Z H ∧ CT K H v c ∧ ThL K H vt m ∧ MOk m ∧ Ok c ∧ (enc c).length ≤ 1000 ∧ RetLW Z ((colG m.length (tv m) c).map V.bl) H Q
theorem sp_tc {H : Hp} {v vt : V} {m : List Thing} {c : C} (t : TabsN Z H) (hv : CT K H v c) (ht : ThL K H vt m) (hm : MOk m) (oc : Ok c) (hc : (enc c).length ≤ 1000) : SpW Z (spTC K Z) [v, vt] H (NewL H ((colG m.length (tv m) c).map V.bl)) :=
  fun Q E q => ⟨v, vt, m, c, rfl, t, hv, ht, hm, oc, hc, fun p H2 hp w2 h2 => q _ H2 w2 ⟨p, rfl, hp, h2⟩⟩
abbrev nThingColumn : List Str := ["concept", "things", "tell_atom"]
theorem sc_thing_column : FnScope nThingColumn ["concept", "things"] (defScope s_thing_column) := ⟨rfl, rfl, rfl, by decide +kernel, rfl, by decide +kernel, by decide +kernel⟩
theorem nd_thing_column : ndefB (defScope s_thing_column) (C8.fnScope s_tellT) ["concept", "things"] = true := by decide +kernel
theorem ok_thing_column {f c0 P0 : Addr} {fd : FuncData} (F : FunK K "thing_column" "thing_column" s_thing_column f fd c0) (T : Txt K mg) (TB : TabB base mg c0 P0) (hZ : (P0, fun _ _ => qnT) ∈ Z) (hu : ∀ p ∈ Z, p.1 = P0 → p.2 = fun _ _ => qnT)
    (uHA : Use P w K mg base 2 "has_atom" ["thing", "head", "choice", "parts"] (spHA K)) (uCB : UseC P w K mg base 5 4 "column_by" ["concept", "total", "tell_atom"] ["place", "parts"] (spCB K)) : FnOk P w K mg base CX0 6 f fd ["concept", "things"] (spTC K Z) := by
  obtain ⟨fc, fdc, hmc, hkc, hbc, hFc⟩ := uCB.ex
  refine F.ok sc_thing_column (fun vs H Q E h => ?_) (fun A outer s H vs Q E hr h => ⟨_,
    pss_cons (ps_ndefMS (st := s_tellT) (T := Z) (name := "tell_atom") (i := 2) rfl TB rfl hZ rfl hu (ndef_free nd_thing_column) rfl rfl rfl sc_thing_column.nd rfl (.inl rfl) (.inr rfl))
    (pss_one (ps_ret (pe_callH (js := [0, 1]) (fr := ["concept", "things"]) (sp := fun g c' ws => spCB K g (nfT (envOfC "thing_column" (defScope s_thing_column) s.heap.objs.size f (.ref c0)).cells c') (spTT K ws)) (cl := cloFrom (envOfC "thing_column" (defScope s_thing_column) s.heap.objs.size f (.ref c0)).cells (C8.fnScope s_tellT).names [])
      (fun g c' ws => hFc g (nfT (envOfC "thing_column" (defScope s_thing_column) s.heap.objs.size f (.ref c0)).cells c') ["concept", "things"] ws (spTT K) (ok_tellT uHA)) (fun ok => Caps.made ok (ndef_free nd_thing_column) (ndef_fr nd_thing_column) rfl) (fun _ => rfl) hr rfl hmc hkc hbc pass0
      (pa_cons (pv 0) (pa_cons (pe_len T.len (pv 1)) (pa_cons (pv 2) pa_nil)))))), ?_⟩)
  · obtain ⟨v, vt, m, c, rfl, _⟩ := h
    rfl
  · obtain ⟨v, vt, m, c, rfl, t, ⟨a, rfl, ha⟩, hT, hm, oc, hlen, k⟩ := h
    refine q_ndef t fun g c' H2 w2 f1 c1 => ?_
    have hT2 := hT.w w2
    obtain ⟨ta, tvs, rfl, hta, hTA⟩ := id hT2
    have hml := hm.len
    have hEA : EvA (tCons (tVar 0) (tCons (tCB (rLenS K) (tCons (tVar 1) tNil)) (tCons (tVar 2) tNil))) [some (.ref a), some (.ref ta), some (.ref g)] H2 [.ref a, vN m.length, .ref g] := ea_cons (ev_var rfl) (ea_cons (ev_is (ev_len (K := K) (ev_var rfl) hta) (show V.int (tvs.length : Int) = vN m.length by rw [hTA.1]; rfl)) (ea_cons (ev_var rfl) ea_nil))
    refine s_retH hEA fun H3 e3 => ⟨g, c', a, c, m.length, tv m, rfl, e3 g _ f1, e3 c' _ c1, ex_t e3 (wx_t w2 ha), tv_sem m, by omega, oc, hlen, ?_, fun p H4 hp e4 h4 => k p H4 (w2.fr p (fresh_back e3 hp)) (w2.ex (e3.trans e4)) h4⟩
    intro d q pa pvs H4 e4 hq hd hsq hA Q' E' k'
    exact ⟨.ref ta, a, pa, pvs, m, c, d, q, rfl, rfl, (hT2.mono (e3.trans e4)), hm, ex_t (e3.trans e4) (wx_t w2 ha), oc, hq, hd, hsq, hA, k'⟩
end
end Bk

namespace Bk
open PySem PySem.Spec PyProof.Rows L2 Evl LamX NdefX
open Oc (C Axiom)
open Oc01 (Thing)
abbrev s_read_steps : Stmt := top 45
abbrev s_is_reason : Stmt := top 46
abbrev s_check_none : Stmt := top 47
abbrev s_read_thing : Stmt := top 48
abbrev s_read_things : Stmt := top 49
abbrev s_lowest_stray : Stmt := top 50
abbrev s_check_model : Stmt := top 51
section
variable {K : PySem.W.Frag} {σ : L2.St} {H H' : Hp} {ta tb te tl : TE}
/-- what is made anew, and what is so of it wherever the new things stand, whatever else stands there -/
def EvM (te : TE) (σ : L2.St) (H : Hp) (R : Hp → V → Prop) : Prop := ∀ H1, Ex H H1 → ∀ Q : VK, (∀ v H2, Ex H1 H2 → (∀ H3, (∀ b o, H1 b = none → H2 b = some o → H3 b = some o) → R H3 v) → Q v H2) → te σ H1 Q
def RetM (H : Hp) (Q : VK) (R : Hp → V → Prop) : Prop := ∀ v H2, Ex H H2 → (∀ H3, (∀ b o, H b = none → H2 b = some o → H3 b = some o) → R H3 v) → Q v H2
theorem EvM.evp {R : Hp → V → Prop} (h : EvM te σ H R) : EvP te σ H fun v H' => R H' v := fun H1 e Q q => h H1 e Q fun v H2 e2 r => q v H2 e2 (r H2 fun b o _ z => z)
theorem em_ofU {xs : List V} (h : EvU te σ H xs) : EvM te σ H fun H3 v => ∃ p, v = .ref p ∧ H3 p = some (.tup xs) := fun H1 e Q q =>
  h H1 e _ fun p H2 hp e2 h2 => q _ H2 e2 fun H3 n => ⟨p, rfl, n p _ hp h2⟩
theorem em_call {sp : Sp} {E : XK} {ta : TA} {vs : List V} {R : Hp → V → Prop} (h : EvA ta σ H vs) (hs : ∀ H1, Ex H H1 → ∀ (Q : VK) (E : XK), RetM H1 Q R → sp vs H1 Q E) : EvM (tCall sp [] E ta) σ H R := fun H1 e Q q =>
  h H1 e _ fun H2 e2 => by
    rw [List.append_nil]
    exact hs H2 (e.trans e2) Q E fun v H3 e3 r => q v H3 (e2.trans e3) fun H4 n => r H4 fun b o h1 h2 => n b o (fresh_back e2 h1) h2
/-- a turn of a comprehension of such -/
def Lw (H0 H1 : Hp) (D : Addr) {α : Type} (R : Hp → V → α → Prop) (ys : List α) (i : Nat) (H' : Hp) : Prop := Ex H1 H' ∧ ∃ zs, H' D = some (.lst zs) ∧ i ≤ ys.length ∧ All2 (fun v y => ∀ H3, (∀ b o, b ≠ D → H0 b = none → H' b = some o → H3 b = some o) → R H3 v y) zs (ys.take i)
theorem lw_turn {H0 H1 : Hp} {D : Addr} {α : Type} {R : Hp → V → α → Prop} {ys : List α} {i : Nat} {y : α} {σ2 : L2.St} {H' : Hp} (p : Lw H0 H1 D R ys i H') (hD : H1 D = none) (h01 : ∀ b, H1 b = none → H0 b = none) (hy : ys[i]? = some y) (hz : ys.length ≤ 40000) (he : EvM te σ2 H fun H3 v => R H3 v y) (e : Ex H H1) :
    te σ2 H' fun v H4 => ∃ acc, H4 D = some (.lst acc) ∧ acc.length < sizeLine ∧ Lw H0 H1 D R ys (i + 1) (upd H4 D (.lst (acc ++ [v]))) := by
  obtain ⟨eH, zs, hzs, hle, hA⟩ := p
  have hil := (List.getElem?_eq_some_iff.mp hy).1
  refine he H' (e.trans eH) _ fun v H2 e2 r => ?_
  refine ⟨zs, e2 D _ hzs, sz_lt (by have := hA.1; rw [List.length_take] at this; omega), Ex.mut (eH.trans e2) hD, zs ++ [v], upd_same, by omega, ?_⟩
  rw [take_more hy]
  refine All2.snoc (hA.mono fun v' y' z H3 n => z H3 fun b o h1 h2 h3 => n b o h1 h2 (by rw [upd_ne h1]; exact e2 b _ h3)) fun H3 n => r H3 fun b o h1 h2 => ?_
  have hbD : b ≠ D := fun z => by
    rw [z, hzs] at h1
    cases h1
  exact n b o hbD (h01 b (fresh_back eH h1)) (by rw [upd_ne hbD]; exact h2)
/-- a list of what is made for each of some numbers -/
theorem em_lcC {j : Nat} {vs : List Nat} {α : Type} {ys : List α} {R : Hp → V → α → Prop} {ta : TA} {lo hi c : Int} {n : Nat} (h : EvA ta σ H [.int lo, .int hi, .int c]) (hr : RgC lo hi c n) (hlen : n = ys.length) (hz : ys.length ≤ 40000) (hw : ∀ x, wipe ((wipe σ vs).set j (some x)) vs = wipe σ vs)
    (he : ∀ (i : Nat) (y : α), ys[i]? = some y → EvM te ((wipe σ vs).set j (some (.int (lo + (i : Nat) * c)))) H fun H3 v => R H3 v y) :
    EvM (tLc (iRng3 ta) (gName j) tYes te vs) σ H fun H3 v => ∃ b zs, v = .ref b ∧ H3 b = some (.lst zs) ∧ All2 (R H3) zs ys := fun H0 e Q q => h H0 e _ fun H1 e1 => ⟨lo, hi, c, n, rfl, hr, fun D hD => by
  have hD0 : H0 D = none := fresh_back e1 hD
  refine lc_it (walk_rangeC (lo := lo) (c := c) (n := n)) (Lw H0 H1 D R ys) ⟨Ex.new hD, [], upd_same, Nat.zero_le _, .nil⟩ (fun i H' _ p => trivial) (fun i x H' H'' hi p y0 => ?_) (fun H' p => ?_)
  · obtain ⟨rfl, rfl⟩ := y0
    obtain ⟨y, hy⟩ : ∃ y, ys[i]? = some y := ⟨_, List.getElem?_eq_getElem (by omega)⟩
    exact ⟨hw _, lw_turn p hD (fun b z => fresh_back e1 z) hy hz (he i y hy) (e.trans e1)⟩
  · obtain ⟨eH, zs, hzs, hle, hA⟩ := p
    rw [hlen, List.take_length] at hA
    exact q _ H' (e1.trans eH) fun H3 n => ⟨D, zs, rfl, n D _ hD0 hzs, hA.mono fun v y z => z H3 fun b o _ h2 h3 => n b o h2 h3⟩⟩
/-- .. for each item of a list -/
theorem em_lc {j : Nat} {vs : List Nat} {a : Addr} {xs : List V} {α : Type} {ys : List α} {R : Hp → V → α → Prop} (h : Ev tl σ H (.ref a)) (hx : SqL K H a xs) (hlen : xs.length = ys.length) (hz : ys.length ≤ 40000) (hw : ∀ x, wipe ((wipe σ vs).set j (some x)) vs = wipe σ vs)
    (he : ∀ (i : Nat) (x : V) (y : α), xs[i]? = some x → ys[i]? = some y → EvM te ((wipe σ vs).set j (some x)) H fun H3 v => R H3 v y) :
    EvM (tLc (iList K tl) (gName j) tYes te vs) σ H fun H3 v => ∃ b zs, v = .ref b ∧ H3 b = some (.lst zs) ∧ All2 (R H3) zs ys := fun H0 e Q q => h H0 e _ fun H1 e1 => ⟨a, rfl, ⟨xs, ex_l (e.trans e1) hx⟩, fun D hD => by
  have hD0 : H0 D = none := fresh_back e1 hD
  refine lc_list (K := K) (a := a) (xs := xs) (Lw H0 H1 D R ys) ⟨Ex.new hD, [], upd_same, Nat.zero_le _, .nil⟩ (fun i H' _ p => ex_l ((e.trans e1).trans p.1) hx) (fun i x H' hi p => ?_) (fun H' p => ?_)
  · obtain ⟨y, hy⟩ : ∃ y, ys[i]? = some y := ⟨_, List.getElem?_eq_getElem (by rw [← hlen]; exact (List.getElem?_eq_some_iff.mp hi).1)⟩
    exact ⟨hw x, lw_turn p hD (fun b z => fresh_back e1 z) hy hz (he i x y hi hy) (e.trans e1)⟩
  · obtain ⟨eH, zs, hzs, hle, hA⟩ := p
    rw [hlen, List.take_length] at hA
    exact q _ H' (e1.trans eH) fun H3 n => ⟨D, zs, rfl, n D _ hD0 hzs, hA.mono fun v y z => z H3 fun b o _ h2 h3 => n b o h2 h3⟩⟩
variable {D : Ends} {tz : TS}
theorem q_asgM {i : Nat} {R : Hp → V → Prop} (h : EvM te σ H R) (k : ∀ v H1, Ex H H1 → (∀ H3, (∀ b o, H b = none → H1 b = some o → H3 b = some o) → R H3 v) → tz D (σ.set i (some v)) H1) : tSeq (tAsg te (gName i)) tz D σ H := h H (Ex.refl H) _ k
end
theorem fits_long {z : Int} (h1 : -200000 ≤ z) (h2 : z ≤ 200000) : Builtin.Range.rangeFitsLong z = true := by
  unfold Builtin.Range.rangeFitsLong
  rw [Bool.and_eq_true]
  have a : (-(2 ^ 63) : Int) = -9223372036854775808 := by decide
  have b : ((2 : Int) ^ 63) = 9223372036854775808 := by decide
  exact ⟨decide_eq_true (by rw [a]; omega), decide_eq_true (by rw [b]; omega)⟩
theorem rg_of {lo c : Int} {n q : Nat} (h : n ≤ 100000) (hq : q ≤ 100000) (hl : lo = 0 ∨ lo = 1) (hc : c = 2 ∨ c = 3) (e : Builtin.Range.rangeSize lo (n : Int) c = (q : Int)) : RgC lo (n : Int) c q := by
  refine ⟨by omega, by omega, ?_, e⟩
  unfold Builtin.Range.small
  rw [e]
  have f1 : Builtin.Range.rangeFitsLong lo = true := fits_long (by omega) (by omega)
  have f2 : Builtin.Range.rangeFitsLong (n : Int) = true := fits_long (by omega) (by omega)
  have f3 : Builtin.Range.rangeFitsLong c = true := fits_long (by omega) (by omega)
  have f4 : Builtin.Range.rangeFitsLong (q : Int) = true := fits_long (by omega) (by omega)
  have f5 : Builtin.Range.rangeFitsLong ((n : Int) + (c - 1)) = true := fits_long (by omega) (by omega)
  have f6 : c > 0 := by omega
  simp only [f1, f2, f3, f4, f5, f6, if_true, Bool.or_true, Bool.and_true]
theorem rg3 {n : Nat} (h : n ≤ 100000) : RgC 0 (n : Int) 3 ((n + 2) / 3) := by
  refine rg_of h (by omega) (.inl rfl) (.inr rfl) ?_
  unfold Builtin.Range.rangeSize
  rw [if_pos (by decide)]
  split <;> omega
theorem rg2 {n : Nat} (h : n ≤ 100000) : RgC 1 (n : Int) 2 (n / 2) := by
  refine rg_of h (by omega) (.inr rfl) (.inl rfl) ?_
  unfold Builtin.Range.rangeSize
  rw [if_pos (by decide)]
  split <;> omega
section
variable {P : Program} {w : World} {K : PySem.W.Frag} {mg : Str → Option Value} {base : Heap} {CK : Addr} {Z : List NTab}
/-! ### read_steps -/
def spRSt (K : PySem.W.Frag) : Sp := fun vs H Q _ => ∃ (a : Addr) (ns : List Nat), vs = [.ref a] ∧ SqL K H a (ns.map vN) ∧ ns.length ≤ 1000 ∧ Ret H Q fun v H' => match Oc12.steps? ns with
  | none => v = .non
  | some ss => ∃ p, v = .ref p ∧ StL K H' p ss
theorem sp_rst {H : Hp} {a : Addr} {ns : List Nat} (h : SqL K H a (ns.map vN)) (hl : ns.length ≤ 1000) : SpP (spRSt K) [.ref a] H fun v H' => match Oc12.steps? ns with
  | none => v = .non
  | some ss => ∃ p, v = .ref p ∧ StL K H' p ss := fun H1 e Q q E => ⟨a, ns, rfl, ex_l e h, hl, q⟩
abbrev nReadSteps : List Str := ["numbers", "steps", "step", "place"]
theorem sc_read_steps : FnScope nReadSteps ["numbers"] (defScope s_read_steps) := ⟨rfl, rfl, rfl, by decide +kernel, rfl, by decide +kernel, by decide +kernel⟩
theorem ok_read_steps {f : Addr} {fd : FuncData} (F : Fun K "read_steps" "read_steps" s_read_steps f fd) (T : Txt K mg) (TP : TxtP mg) : FnOk P w K mg base CX0 1 f fd ["numbers"] (spRSt K) := by
  refine F.ok sc_read_steps (fun vs H Q E h => ?_) (fun cdv A outer s H vs Q E hr h => ⟨_,
    pss_cons (ps_if (pt_cmpR op_ne (pe_op op_mod (pe_len T.len (pv 0)) pe_int) pe_int (nomark _)) (pss_one (ps_ret pe_non)) pss_nil)
    (pss_cons (ps_setLc (i := 1) (own := [("place", 3)]) (g := gName 3) (tt := tYes) (te := tCB (rTupS K) (tCons (tSl (rSlL K) (tVar 0) (tPart (tVar 3)) (tPart (tOp (rI0 fun i j => .int (i + j)) (tVar 3) (tC (.int 3))))) tNil)) rfl sc_read_steps.nd rfl rfl (sw_true rfl rfl rfl (by decide +kernel)) (pi_range3 rfl T.range (pa_cons pe_int (pa_cons (pe_len T.len (pv 0)) (pa_cons pe_int pa_nil)))) (blkOk_by (own := [("place", 3)]) (N := nReadSteps) (sc := defScope s_read_steps) (by decide +kernel))
      (fun _ _ _ _ _ => pg_name (i := 3) sc_read_steps.nd rfl (Or.inl rfl)) (fun _ _ _ _ _ => pts_nil)
      (fun _ _ _ _ _ => pe_tuple T.tuple (pe_slice sl_list (pv 0) (po_some (pv 3)) (po_some (pe_op op_add (pv 3) pe_int)))))
    (pss_cons (ps_for PassesOwn.never rfl (pi_list (pv 1)) (pg_name (i := 2) sc_read_steps.nd rfl (.inl rfl)) (pss_one (ps_if (pt_cmpR op_gt (pe_ix ix_tup (pv 2) pe_int (fun _ _ => rfl)) (pe_cst TP.kBY_ATOM) (nomark _)) (pss_one (ps_ret pe_non)) pss_nil)))
    (pss_one (ps_ret (pv 1))))), ?_⟩)
  · obtain ⟨a, ns, rfl, _⟩ := h
    rfl
  · obtain ⟨a, ns, rfl, ha, hl, k⟩ := h
    refine q_when (et_is (et_test (ev_op (ev_op (ev_lenN2 (ns := ns) (ev_var rfl) (.inl ha)) ev_c (rv_I (show (0 : Int) < 3 by decide))) ev_c (rv_ne rfl))) (show (!decide (V.int ((ns.length : Int) % 3) = V.int 0)) = !decide (ns.length % 3 = 0) by
      congr 1
      rw [decide_eq_decide]
      constructor
      · intro z
        have := V.int.inj z
        omega
      · intro z
        congr 1
        omega)) (fun hb H1 e1 => ?_) (fun hb H1 e1 => ?_)
    · refine s_ret ev_c fun H2 e2 => k _ H2 (e1.trans e2) ?_
      rw [steps_bad ns (by simpa using hb)]
    · have h3 : ns.length % 3 = 0 := by simpa using hb
      have ha1 := ex_l e1 ha
      have htl := trip_len ns
      refine q_asgP (EvM.evp (em_lcC (ys := trip ns) (n := (ns.length + 2) / 3) (R := fun H3 v x => ∃ p, v = .ref p ∧ H3 p = some (.tup [vN x.1, vN x.2.1, vN x.2.2])) (ea_cons ev_c (ea_cons (ev_lenN2 (ns := ns) (ev_var rfl) (.inl ha1)) (ea_cons ev_c ea_nil))) (rg3 (by omega)) (by omega) (by omega) (fun _ => rfl) fun i x hx => ?_)) fun v H2 e2 hv => ?_
      · have hlt := (List.getElem?_eq_some_iff.mp hx).1
        have e3 : ((0 : Int) + (i : Int) * 3) = ((3 * i : Nat) : Int) := by omega
        rw [e3]
        have hcut : cutV (ns.map vN) (some ((3 * i : Nat) : Int)) (some (((3 * i : Nat) : Int) + 3)) = [vN x.1, vN x.2.1, vN x.2.2] := by
          rw [show (((3 * i : Nat) : Int) + 3) = ((3 * i + 3 : Nat) : Int) by omega, cut_nat (α := Nat) (by omega) (by rw [List.length_map]; omega), show 3 * i + 3 - 3 * i = 3 by omega, ← List.map_drop, ← List.map_take, trip_at ns i x hx]
          rfl
        rw [← hcut]
        exact em_ofU (eu_tupleN (el_sl (ev_var rfl) (eo_some (ev_var rfl)) (eo_some (ev_op (ev_var rfl) ev_c rv_I0)) ha1))
      · obtain ⟨b, zs, rfl, hb2, hZ⟩ := hv
        refine q_forLn (K := K) (ev_var rfl) (sq_of hb2) (fun i σ' H' => ∃ x2 : Option V, σ' = [some (.ref a), some (.ref b), x2, none] ∧ Ex H2 H' ∧ ((trip ns).take i).all (fun x => decide (x.2.1 ≤ 1)) = true)
          (fun H3 e3 => ⟨none, rfl, e3, rfl⟩) (fun i σ' H' _ ⟨_, _, e, _⟩ => sq_of (e b _ hb2)) ?_ ?_
        · rintro i v σ' H' hi ⟨x2, rfl, e, hp⟩
          obtain ⟨x, hx, p, rfl, hpx⟩ := hZ.got hi
          refine s_when (et_is (et_test (ev_op (ev_op (ev_var rfl) ev_c (rv_ixT (st_of (e p _ hpx)) (atI_nat (j := 1) rfl))) ev_c rv_I0)) (show decide ((1 : Int) < (x.2.1 : Int)) = !decide (x.2.1 ≤ 1) by
            rw [← decide_not, decide_eq_decide]
            omega)) (fun hb4 H4 e4 => ?_) (fun hb4 H4 e4 => ?_)
          · refine s_ret ev_c fun H5 e5 => k _ H5 (e1.trans (e2.trans (e.trans (e4.trans e5)))) ?_
            rw [steps_good ns h3, if_neg]
            rw [all_false hx (by simpa using hb4)]
            exact Bool.false_ne_true
          · exact ⟨_, rfl, e.trans e4, by rw [all_take hx, hp]; simpa using hb4⟩
        · rintro σ' H' ⟨x2, rfl, e, hp⟩
          rw [hZ.1, List.take_length] at hp
          refine s_ret (ev_var rfl) fun H5 e5 => k _ H5 (e1.trans (e2.trans (e.trans e5))) ?_
          rw [steps_good ns h3, if_pos hp]
          refine ⟨b, rfl, zs, (e.trans e5) b _ hb2, ⟨by rw [hZ.1, List.length_map], fun i v y hi hy => ?_⟩⟩
          rw [List.getElem?_map] at hy
          obtain ⟨x, hx, rfl⟩ := Option.map_eq_some_iff.mp hy
          obtain ⟨p, rfl, hpx⟩ := hZ.2 i v x hi hx
          refine ⟨p, rfl, st_of ?_⟩
          rw [(e.trans e5) p _ hpx]
          have hle : x.2.1 ≤ 1 := of_decide_eq_true (List.all_eq_true.mp hp x (List.mem_of_getElem? hx))
          show some (HO.tup [vN x.1, vN x.2.1, vN x.2.2]) = some (HO.tup [vN x.1, vN (if (x.2.1 == 1) = true then 1 else 0), vN x.2.2])
          congr 4
          by_cases z : x.2.1 = 1
          · rw [z]
            rfl
          · have : x.2.1 = 0 := by omega
            rw [this]
            rfl
end
end Bk

namespace Bk
open PySem PySem.Spec PyProof.Rows L2 Evl LamX NdefX
open Oc (C Axiom)
open Oc01 (Thing)
/-- a thing, or None -/
def ThO (K : PySem.W.Frag) (H : Hp) (v : V) : Option Thing → Prop
  | none => v = .non
  | some th => ThP K H v th
/-- lists of numbers -/
def Nss (K : PySem.W.Frag) (H : Hp) (v : V) (ns : List Nat) : Prop := ∃ b, v = .ref b ∧ SqL K H b (ns.map vN)
theorem Nss.mono {K : PySem.W.Frag} {H H' : Hp} {v : V} {ns : List Nat} (e : Ex H H') (h : Nss K H v ns) : Nss K H' v ns := by
  obtain ⟨b, rfl, q⟩ := h
  exact ⟨b, rfl, ex_l e q⟩
section
variable {P : Program} {w : World} {K : PySem.W.Frag} {mg : Str → Option Value} {base : Heap} {CK : Addr} {Z : List NTab}
/-! ### read_thing -/
def spRTh (K : PySem.W.Frag) : Sp := fun vs H Q _ => ∃ (a : Addr) (ns : List Nat), vs = [.ref a] ∧ SqL K H a (ns.map vN) ∧ ns.length ≤ 1000 ∧ RetM H Q fun H3 v => ThO K H3 v (Oc12.thing? ns)
abbrev nReadThing : List Str := ["numbers", "ways", "place"]
theorem sc_read_thing : FnScope nReadThing ["numbers"] (defScope s_read_thing) := ⟨rfl, rfl, rfl, by decide +kernel, rfl, by decide +kernel, by decide +kernel⟩
theorem ok_read_thing {f : Addr} {fd : FuncData} (F : Fun K "read_thing" "read_thing" s_read_thing f fd) (T : Txt K mg) : FnOk P w K mg base CX0 1 f fd ["numbers"] (spRTh K) := by
  refine F.ok sc_read_thing (fun vs H Q E h => ?_) (fun cdv A outer s H vs Q E hr h => ⟨_,
    pss_cons (ps_if (pt_cmpR op_eq (pe_op op_mod (pe_len T.len (pv 0)) pe_int) pe_int (nomark _)) (pss_one (ps_ret pe_non)) pss_nil)
    (pss_cons (ps_setLc (i := 1) (own := [("place", 2)]) (g := gName 2) (tt := tYes) (te := tTup (tCons (tOp (rIxL K) (tVar 0) (tVar 2)) (tCons (tOp (rIxL K) (tVar 0) (tOp (rI0 fun i j => .int (i + j)) (tVar 2) (tC (.int 1)))) tNil))) rfl sc_read_thing.nd rfl rfl (sw_true rfl rfl rfl (by decide +kernel)) (pi_range3 rfl T.range (pa_cons pe_int (pa_cons (pe_len T.len (pv 0)) (pa_cons pe_int pa_nil)))) (blkOk_by (own := [("place", 2)]) (N := nReadThing) (sc := defScope s_read_thing) (by decide +kernel))
      (fun _ _ _ _ _ => pg_name (i := 2) sc_read_thing.nd rfl (Or.inl rfl)) (fun _ _ _ _ _ => pts_nil)
      (fun _ _ _ _ _ => pe_tup (pa_cons (pe_ix ix_list (pv 0) (pv 2) (fun _ _ => rfl)) (pa_cons (pe_ix ix_list (pv 0) (pe_op op_add (pv 2) pe_int) (fun _ _ => rfl)) pa_nil))))
    (pss_one (ps_ret (pe_tup (pa_cons (pe_ix ix_list (pv 0) pe_int (fun _ _ => rfl)) (pa_cons (pv 1) pa_nil)))))), ?_⟩)
  · obtain ⟨a, ns, rfl, _⟩ := h
    rfl
  · obtain ⟨a, ns, rfl, ha, hl, k⟩ := h
    refine q_when (et_is (et_test (ev_op (ev_op (ev_lenN2 (ns := ns) (ev_var rfl) (.inl ha)) ev_c (rv_I (show (0 : Int) < 2 by decide))) ev_c (rv_eq rfl))) (show decide (V.int ((ns.length : Int) % 2) = V.int 0) = decide (ns.length % 2 = 0) by
      rw [decide_eq_decide]
      constructor
      · intro z
        have := V.int.inj z
        omega
      · intro z
        congr 1
        omega)) (fun hb H1 e1 => ?_) (fun hb H1 e1 => ?_)
    · refine s_ret ev_c fun H2 e2 => k _ H2 (e1.trans e2) fun H3 _ => ?_
      rw [thing_bad (of_decide_eq_true hb)]
      rfl
    · have h2 := of_decide_eq_false hb
      have ha1 := ex_l e1 ha
      obtain ⟨n, l, rfl⟩ : ∃ n l, ns = n :: l := by
        cases ns with
        | nil => exact absurd rfl h2
        | cons n l => exact ⟨n, l, rfl⟩
      have hll : (n :: l).length = l.length + 1 := rfl
      have hdl := duo_len l
      refine q_asgM (em_lcC (ys := duo l) (n := (n :: l).length / 2) (R := fun H3 v x => ∃ p, v = .ref p ∧ H3 p = some (.tup [vN x.1, vN x.2])) (ea_cons ev_c (ea_cons (ev_lenN2 (ns := n :: l) (ev_var rfl) (.inl ha1)) (ea_cons ev_c ea_nil))) (rg2 (by omega)) (by omega) (by omega) (fun _ => rfl) fun i x hx => ?_) fun v H2 e2 hv => ?_
      · obtain ⟨d1, d2⟩ := duo_at l i x hx
        have e3 : ((1 : Int) + (i : Int) * 2) = ((2 * i + 1 : Nat) : Int) := by omega
        rw [e3]
        exact em_ofU (eu_tup (ea_cons (ev_op (ev_var rfl) (ev_var rfl) (rv_ixL ha1 (atN (ns := n :: l) (i := 2 * i + 1) d1))) (ea_cons (ev_op (ev_var rfl) (ev_op (ev_var rfl) ev_c rv_I0) (rv_ixL ha1 (i := ((2 * i + 1 + 1 : Nat) : Int)) (atN (ns := n :: l) (i := 2 * i + 1 + 1) d2))) ea_nil)) (by show 2 ≤ 100000; decide))
      · obtain ⟨b, zs, rfl, hb2, hZ⟩ := hv H2 fun _ _ _ z => z
        refine (eu_tup (ea_cons (ev_op (ev_var rfl) ev_c (rv_ixL (ex_l e2 ha1) (atN (ns := n :: l) (i := 0) rfl))) (ea_cons (ev_var rfl) ea_nil)) (by show 2 ≤ 100000; decide)) H2 (Ex.refl H2) _ fun p H3 hp e3 h3 => k _ H3 (e1.trans (e2.trans e3)) fun H4 n4 => ?_
        rw [thing_good h2]
        obtain ⟨b', zs', hbb, hb4, hZ4⟩ := hv H4 fun c o hc ho => n4 c o (fresh_back e1 hc) (e3 c o ho)
        cases hbb
        refine ⟨p, b, zs', rfl, st_of (n4 p _ (fresh_back (e1.trans e2) hp) h3), sq_of hb4, hZ4.mono fun v x z => ?_⟩
        obtain ⟨q, rfl, hq⟩ := z
        exact ⟨q, rfl, st_of hq⟩
/-! ### read_things -/
def dWy (e : Nat × Nat) : PyData := .tuple [.int (e.1 : Int), .int (e.2 : Int)]
def dTh : Option Thing → PyData
  | none => .none
  | some th => .tuple [.int (th.names : Int), .list (th.to.map dWy)]
theorem dWys_lay : ∀ l : List (Nat × Nat), PyData.canLayAll0 (l.map dWy) = true
  | [] => by simp [PyData.canLayAll0]
  | e :: l => by
    have h := dWys_lay l
    simp only [List.map_cons, PyData.canLayAll0, dWy, PyData.canLay0, h, Bool.and_self, Bool.true_and]
theorem dWys_depth : ∀ l : List (Nat × Nat), PyData.depthAll (l.map dWy) ≤ 1
  | [] => by simp [PyData.depthAll]
  | e :: l => by
    have h := dWys_depth l
    simp only [List.map_cons, PyData.depthAll, dWy, PyData.depth]
    omega
theorem dThs_lay : ∀ l : List (Option Thing), PyData.canLayAll0 (l.map dTh) = true
  | [] => by simp [PyData.canLayAll0]
  | none :: l => by
    have h := dThs_lay l
    simp only [List.map_cons, PyData.canLayAll0, dTh, PyData.canLay0, h, Bool.and_self]
  | some th :: l => by
    have h := dThs_lay l
    have h2 := dWys_lay th.to
    simp only [List.map_cons, PyData.canLayAll0, dTh, PyData.canLay0, h, h2, Bool.and_self, Bool.true_and]
theorem dThs_depth : ∀ l : List (Option Thing), PyData.depthAll (l.map dTh) ≤ 3
  | [] => by simp [PyData.depthAll]
  | none :: l => by
    have h := dThs_depth l
    simp only [List.map_cons, PyData.depthAll, dTh, PyData.depth]
    omega
  | some th :: l => by
    have h := dThs_depth l
    have h2 := dWys_depth th.to
    simp only [List.map_cons, PyData.depthAll, dTh, PyData.depth]
    omega
theorem dThs_shaped (l : List (Option Thing)) : SeqAt.shaped (.list (l.map dTh)) = true := by
  have h1 := dThs_depth l
  have h2 : PyData.depth (.list (l.map dTh)) ≤ 64 := by
    simp only [PyData.depth]
    omega
  show (PyData.canLay0 (.list (l.map dTh)) && decide (PyData.depth (.list (l.map dTh)) ≤ 64)) = true
  rw [Bool.and_eq_true]
  exact ⟨by simp only [PyData.canLay0]; exact dThs_lay l, decide_eq_true h2⟩
theorem dpWys {H : Hp} : ∀ {vs : List V} {l : List (Nat × Nat)}, All2 (WyP K H) vs l → DpAll K H vs (l.map dWy)
  | [], [], _ => .nil
  | [], _ :: _, h => by have := h.1; simp at this
  | _ :: _, [], h => by have := h.1; simp at this
  | v :: vs, e :: l, h => by
    obtain ⟨p, rfl, q⟩ := h.tail.1
    exact .cons (.tup q (.cons (.int _) (.cons (.int _) .nil))) (dpWys h.tail.2)
theorem dpTh {H : Hp} {v : V} {o : Option Thing} (h : ThO K H v o) : Dp K H v (dTh o) := by
  cases o with
  | none =>
    have : v = .non := h
    subst this
    exact .non
  | some th =>
    obtain ⟨p, b, wvs, rfl, h1, h2, h3⟩ := h
    exact .tup h1 (.cons (.int _) (.cons (.lst h2 (dpWys h3)) .nil))
theorem dpThs {H : Hp} : ∀ {vs : List V} {l : List (Option Thing)}, All2 (ThO K H) vs l → DpAll K H vs (l.map dTh)
  | [], [], _ => .nil
  | [], _ :: _, h => by have := h.1; simp at this
  | _ :: _, [], h => by have := h.1; simp at this
  | v :: vs, o :: l, h => .cons (dpTh h.tail.1) (dpThs h.tail.2)
theorem any_none : ∀ l : List (Option Thing), ((l.map dTh).any fun z => PyData.eqv z .none) = l.any fun o => o.isNone
  | [] => rfl
  | o :: l => by
    rw [List.map_cons, List.any_cons, List.any_cons, any_none l]
    congr 1
    cases o with
    | none => simp [dTh, PyData.eqv]
    | some th => simp [dTh, PyData.eqv]
def spRThs (K : PySem.W.Frag) : Sp := fun vs H Q _ => ∃ (a : Addr) (lvs : List V) (ls : List (List Nat)), vs = [.ref a] ∧ SqL K H a lvs ∧ All2 (Nss K H) lvs ls ∧ ls.length ≤ 100 ∧ (∀ l ∈ ls, l.length ≤ 1000) ∧ Ret H Q fun v H' => match Oc12.things? ls with
  | none => v = .non
  | some m => ThL K H' v m
theorem sp_rths {H : Hp} {a : Addr} {lvs : List V} {ls : List (List Nat)} (h : SqL K H a lvs) (hA : All2 (Nss K H) lvs ls) (hl : ls.length ≤ 100) (hn : ∀ l ∈ ls, l.length ≤ 1000) : SpP (spRThs K) [.ref a] H fun v H' => match Oc12.things? ls with
  | none => v = .non
  | some m => ThL K H' v m := fun H1 e Q q E => ⟨a, lvs, ls, rfl, ex_l e h, hA.mono fun _ _ z => z.mono e, hl, hn, q⟩
abbrev nReadThings : List Str := ["lists", "things", "numbers"]
theorem sc_read_things : FnScope nReadThings ["lists"] (defScope s_read_things) := ⟨rfl, rfl, rfl, by decide +kernel, rfl, by decide +kernel, by decide +kernel⟩
theorem ok_read_things {f : Addr} {fd : FuncData} (F : Fun K "read_things" "read_things" s_read_things f fd) (uRT : Use P w K mg base 1 "read_thing" ["numbers"] (spRTh K)) : FnOk P w K mg base CX0 2 f fd ["lists"] (spRThs K) := by
  refine F.ok sc_read_things (fun vs H Q E h => ?_) (fun cdv A outer s H vs Q E hr h => ⟨_,
    pss_cons (ps_setLc (i := 1) (own := [("numbers", 2)]) (g := gName 2) (tt := tYes) rfl sc_read_things.nd rfl rfl (sw_true rfl rfl rfl (by decide +kernel)) (pi_list (pv 0)) (blkOk_by (own := [("numbers", 2)]) (N := nReadThings) (sc := defScope s_read_things) (by decide +kernel))
      (fun _ _ _ _ _ => pg_name (i := 2) sc_read_things.nd rfl (Or.inl rfl)) (fun _ _ _ _ _ => pts_nil) (fun _ _ _ _ _ => pe_use uRT hr (pa_cons (pv 2) pa_nil)))
    (pss_cons (ps_if (pt_cmpR (op_inD (by have := hr.un; show A.units + 3 + 65 < cLine; have q : A.units + 3 + 16 * 1 + 200 < cLine := this; omega)) pe_non (pv 1) rfl) (pss_one (ps_ret pe_non)) pss_nil)
    (pss_one (ps_ret (pv 1)))), ?_⟩)
  · obtain ⟨a, lvs, ls, rfl, _⟩ := h
    rfl
  · obtain ⟨a, lvs, ls, rfl, ha, hA, hl, hn, k⟩ := h
    refine q_asgP (EvM.evp (em_lc (K := K) (ys := ls) (R := fun H3 v ns => ThO K H3 v (Oc12.thing? ns)) (ev_var rfl) ha hA.1 (by omega) (fun _ => rfl) fun i x ns hx hns => ?_)) fun v H1 e1 hv => ?_
    · obtain ⟨b, rfl, hb⟩ := hA.2 i x ns hx hns
      exact em_call (ea_cons (ev_var rfl) ea_nil) fun H1 e1 Q' E' r => ⟨b, ns, rfl, ex_l e1 hb, hn ns (List.mem_of_getElem? hns), r⟩
    · obtain ⟨b, zs, rfl, hb, hZ⟩ := hv
      have hZ' : All2 (ThO K H1) zs (ls.map Oc12.thing?) := ⟨by rw [hZ.1, List.length_map], fun i x o h1 h2 => by
        rw [List.getElem?_map] at h2
        obtain ⟨ns, h3, rfl⟩ := Option.map_eq_some_iff.mp h2
        exact hZ.2 i x ns h1 h3⟩
      have hD : ∀ H2, Ex H1 H2 → Dp K H2 (.ref b) (.list ((ls.map Oc12.thing?).map dTh)) := fun H2 e2 => .lst (sq_of (e2 b _ hb)) (dpThs (hZ'.mono fun v o z => by
        cases o with
        | none => exact z
        | some th => exact ThP.mono e2 z))
      refine q_when (et_test (ev_op ev_c (ev_var rfl) (fun H2 e2 Q' q' => ⟨.none, (ls.map Oc12.thing?).map dTh, .non, hD H2 e2, rfl, dThs_shaped _, by
        rw [any_none]
        exact q' H2 (Ex.refl H2)⟩))) (fun hb2 H2 e2 => ?_) (fun hb2 H2 e2 => ?_)
      · refine s_ret ev_c fun H3 e3 => k _ H3 (e1.trans (e2.trans e3)) ?_
        rw [things_eq, if_pos hb2]
      · refine s_ret (ev_var rfl) fun H3 e3 => k _ H3 (e1.trans (e2.trans e3)) ?_
        rw [things_eq, if_neg (by rw [hb2]; exact Bool.false_ne_true)]
        have e13 := e2.trans e3
        rw [all_some hb2] at hZ'
        refine ⟨b, zs, rfl, sq_of (e13 b _ hb), ⟨by rw [hZ'.1, List.length_map], fun i v th h1 h2 => ?_⟩⟩
        exact ThP.mono e13 (hZ'.2 i v (some th) h1 (by rw [List.getElem?_map, h2]; rfl))
end
end Bk

namespace Bk
open PySem PySem.Spec PyProof.Rows L2 Evl LamX NdefX
open Oc (C Axiom)
open Oc01 (Thing)
structure TxtK (mg : Str → Option Value) : Prop where
  kRIGHT : Cst mg "RIGHT" (.int 0)
  kNOT_THERE : Cst mg "NOT_THERE" (.int 1)
  kNO_REASON : Cst mg "NO_REASON" (.int 2)
  kSTILL_HOLDS : Cst mg "STILL_HOLDS" (.int 3)
  kNO_THINGS : Cst mg "NO_THINGS" (.int 1)
  kSTRAY_WAY : Cst mg "STRAY_WAY" (.int 2)
  kBREAKS_AXIOM : Cst mg "BREAKS_AXIOM" (.int 3)
  kNOT_THE_FIRST : Cst mg "NOT_THE_FIRST" (.int 4)
  kROLES : Cst mg "ROLES" (.int 2)
/-- a way by no role or to no thing -/
def stray (m : List Thing) (e : Nat × Nat) : Bool := decide (Oc.ROLES ≤ e.1) || decide (m.length ≤ e.2)
def lowSt (m : List Thing) : Option Nat := (List.range m.length).find? fun i => ((m.getD i ⟨0, []⟩).to.any (stray m))
section
variable {P : Program} {w : World} {K : PySem.W.Frag} {mg : Str → Option Value} {base : Heap} {CK : Addr} {Z : List NTab}
/-! ### lowest_stray -/
def spLS (K : PySem.W.Frag) : Sp := fun vs H Q _ => ∃ (v : V) (m : List Thing), vs = [v] ∧ ThL K H v m ∧ Ret H Q fun v _ => v = .int (orNo (lowSt m))
theorem sp_ls {H : Hp} {v : V} {m : List Thing} (h : ThL K H v m) : SpP (spLS K) [v] H fun v _ => v = .int (orNo (lowSt m)) := fun H1 e Q q E => ⟨v, m, rfl, h.mono e, q⟩
theorem sc_lowest_stray : FnScope ["things", "number", "thing", "way"] ["things"] (defScope s_lowest_stray) := ⟨rfl, rfl, rfl, by decide +kernel, rfl, by decide +kernel, by decide +kernel⟩
theorem getD_at {m : List Thing} {i : Nat} {th : Thing} (h : m[i]? = some th) : m.getD i ⟨0, []⟩ = th := by
  rw [List.getD_eq_getElem?_getD, h]
  rfl
theorem ok_lowest_stray {f : Addr} {fd : FuncData} (F : Fun K "lowest_stray" "lowest_stray" s_lowest_stray f fd) (T : Txt K mg) (TQ : TxtK mg) : FnOk P w K mg base CX0 1 f fd ["things"] (spLS K) := by
  refine F.ok sc_lowest_stray (fun vs H Q E h => ?_) (fun cdv A outer s H vs Q E hr h => ⟨_,
    pss_cons (ps_for PassesOwn.never rfl (pi_enum rfl T.enumerate (pa_cons (pv 0) pa_nil)) (pg_tup rfl (pgs_cons (pg_name (i := 1) sc_lowest_stray.nd rfl (.inl rfl)) (pgs_cons (pg_name (i := 2) sc_lowest_stray.nd rfl (.inl rfl)) pgs_nil)))
      (pss_one (ps_for PassesOwn.never rfl (pi_list (pe_ix ix_tup (pv 2) pe_int (fun _ _ => rfl))) (pg_name (i := 3) sc_lowest_stray.nd rfl (.inl rfl))
        (pss_one (ps_if (PW.pt (pw_or (pt_cmpR op_ge (pe_ix ix_tup (pv 3) pe_int (fun _ _ => rfl)) (pe_cst TQ.kROLES) (nomark _)) (pw_or1 (pt_cmpR op_ge (pe_ix ix_tup (pv 3) pe_int (fun _ _ => rfl)) (pe_len T.len (pv 0)) (nomark _))))) (pss_one (ps_ret (pv 1))) pss_nil)))))
    (pss_one (ps_ret (pe_un un_neg pe_int))), ?_⟩)
  · obtain ⟨v, m, rfl, _⟩ := h
    rfl
  · obtain ⟨v, m, rfl, ⟨a, tvs, rfl, ha, hT⟩, k⟩ := h
    refine q_forEnum (K := K) (ev_var rfl) ha (fun i σ' H' => ∃ x1 x2 x3 : Option V, σ' = [some (.ref a), x1, x2, x3] ∧ Ex H H' ∧ ∀ j, j < i → ((m.getD j ⟨0, []⟩).to.any (stray m)) = false)
      (fun H1 e1 => ⟨none, none, none, rfl, e1, fun j hj => absurd hj (by omega)⟩) (fun i σ' H' _ ⟨_, _, _, _, e, _⟩ => ex_l e ha) ?_ ?_
    · rintro i v σ' H' hi ⟨x1, x2, x3, rfl, e, hp⟩ H2 e2
      obtain ⟨th, hth, p, b, wvs, rfl, hP, hB, hW⟩ := hT.got hi
      have e' := e.trans e2
      have hi' : i < m.length := (List.getElem?_eq_some_iff.mp hth).1
      refine s_forLn (K := K) (ev_op (ev_var rfl) ev_c (rv_ixT (ex_t e' hP) (atI_nat (j := 1) rfl))) (ex_l e' hB) (fun j σ' H' => ∃ x3 : Option V, σ' = [some (.ref a), some (vN i), some (.ref p), x3] ∧ Ex H2 H' ∧ (th.to.take j).any (stray m) = false)
        (fun H3 e3 => ⟨_, rfl, e3, rfl⟩) (fun j σ' H' _ ⟨_, _, e3, _⟩ => ex_l (e'.trans e3) hB) ?_ ?_
      · rintro j x σ' H3 hj ⟨x3, rfl, e3, hq⟩
        obtain ⟨y, hy, q, rfl, hQ⟩ := hW.got hj
        have e4 := e'.trans e3
        refine s_when (et_is (et_or (b := decide (m.length ≤ y.2)) (et_is (et_test (ev_op (ev_op (ev_var rfl) ev_c (rv_ixT (ex_t e4 hQ) (atI_nat (j := 0) rfl))) ev_c rv_I0)) (show decide ((2 : Int) ≤ (y.1 : Int)) = decide (Oc.ROLES ≤ y.1) by rw [decide_eq_decide]; show (2 : Int) ≤ (y.1 : Int) ↔ 2 ≤ y.1; omega)) fun _ => et_is (et_test (ev_op (ev_op (ev_var rfl) ev_c (rv_ixT (ex_t e4 hQ) (atI_nat (j := 1) rfl))) (ev_len (K := K) (ev_var rfl) (ex_l e4 ha)) rv_I0)) (show decide ((tvs.length : Int) ≤ (y.2 : Int)) = decide (m.length ≤ y.2) by rw [hT.1, decide_eq_decide]; omega)) (show _ = stray m y from rfl)) (fun hb H5 e5 => ?_) (fun hb H5 e5 => ?_)
        · refine s_ret (ev_var rfl) fun H6 e6 => k _ H6 (e4.trans (e5.trans e6)) ?_
          have : lowSt m = some i := find_some hi' hp (by
            rw [getD_at hth]
            exact List.any_eq_true.mpr ⟨y, List.mem_of_getElem? hy, hb⟩)
          rw [this]
          rfl
        · exact ⟨_, rfl, e3.trans e5, by rw [any_take hy, hq, hb]; rfl⟩
      · rintro σ' H3 ⟨x3, rfl, e3, hq⟩
        rw [hW.1, List.take_length] at hq
        refine ⟨_, _, _, rfl, e'.trans e3, fun j hj => ?_⟩
        by_cases hji : j = i
        · subst hji
          rw [getD_at hth]
          exact hq
        · exact hp j (by omega)
    · rintro σ' H' ⟨x1, x2, x3, rfl, e, hp⟩
      refine s_ret (ev_un ev_c ru_neg) fun H2 e2 => k _ H2 (e.trans e2) ?_
      have : lowSt m = none := find_none fun j hj => hp j (by rw [hT.1]; exact hj)
      rw [this]
      rfl
/-! ### is_reason -/
def spIR (K : PySem.W.Frag) (CK : Addr) : Sp := fun vs H Q _ => ∃ (a pa ta : Addr) (v : V) (at_ : List C) (ax : List Axiom) (cvs : List V) (l : List Nat) (s : Oc12.Step), vs = [.ref a, .ref pa, .ref ta, v] ∧ KindsAt K CK H a at_ ∧ Good at_ ∧ SqL K H pa cvs ∧ All2 (ColP K H (2 ^ at_.length) (kv at_)) cvs ax ∧ SqL K H ta (l.map vN) ∧ (∀ u ∈ l, u < 2 ^ at_.length) ∧ StT K H v s ∧ s.type < 2 ^ at_.length ∧
  Ret H Q fun v _ => v = .bl (Oc12.reason at_ ax l s)
theorem sp_ir {H : Hp} {a pa ta : Addr} {v : V} {at_ : List C} {ax : List Axiom} {cvs : List V} {l : List Nat} {s : Oc12.Step} (hK : KindsAt K CK H a at_) (hg : Good at_) (hp : SqL K H pa cvs) (hA : All2 (ColP K H (2 ^ at_.length) (kv at_)) cvs ax) (ht : SqL K H ta (l.map vN)) (hl : ∀ u ∈ l, u < 2 ^ at_.length) (hv : StT K H v s) (hs : s.type < 2 ^ at_.length) :
    SpP (spIR K CK) [.ref a, .ref pa, .ref ta, v] H fun v _ => v = .bl (Oc12.reason at_ ax l s) := fun H1 e Q q E => ⟨a, pa, ta, v, at_, ax, cvs, l, s, rfl, hK.mono e, hg, ex_l e hp, hA.mono fun _ _ z => z.mono e, ex_l e ht, hl, hv.mono e, hs, q⟩
theorem sc_is_reason : FnScope ["kinds", "pairs", "there", "step", "kind", "which"] ["kinds", "pairs", "there", "step"] (defScope s_is_reason) := ⟨rfl, rfl, rfl, by decide +kernel, rfl, by decide +kernel, by decide +kernel⟩
theorem ok_is_reason {f : Addr} {fd : FuncData} (F : Fun K "is_reason" "is_reason" s_is_reason f fd) (T : Txt K mg) (TP : TxtP mg) (TK : ClsK K CK) (uBk : Use P w K mg base 1 "is_broken" ["pair", "which"] (spBk K)) (uU : MUse P w K mg base 5 CK "is_unborne" ["self", "kind", "k", "there"] (spIU K CK)) :
    FnOk P w K mg base CX0 6 f fd ["kinds", "pairs", "there", "step"] (spIR K CK) := by
  refine F.ok sc_is_reason (fun vs H Q E h => ?_) (fun cdv A outer s H vs Q E hr h => ⟨_,
    pss_cons (ps_set (i := 4) sc_is_reason.nd rfl (.inl rfl) (pe_ix ix_tup (pv 3) pe_int (fun _ _ => rfl)))
    (pss_cons (ps_set (i := 5) sc_is_reason.nd rfl (.inl rfl) (pe_ix ix_tup (pv 3) pe_int (fun _ _ => rfl)))
    (pss_cons (ps_if (pt_cmpR op_eq (pe_ix ix_tup (pv 3) pe_int (fun _ _ => rfl)) (pe_cst TP.kBY_AXIOM) (nomark _)) (pss_one (ps_ret (pe_and (pe_cmpR op_lt (pv 5) (pe_len T.len (pv 1)) (nomark _)) (pe_one (pe_use uBk (hr.mono (by decide)) (pa_cons (pe_ix ix_list (pv 1) (pv 5) (fun _ _ => rfl)) (pa_cons (pv 4) pa_nil))))))) pss_nil)
    (pss_one (ps_ret (pe_and (pe_cmpR op_lt (pv 5) (pe_len T.len (pe_fld (pv 0) rfl)) (nomark _)) (pe_one (pe_muse uU (pv 0) TK.cl hr (pa_cons (pv 4) (pa_cons (pv 5) (pa_cons (pv 2) pa_nil)))))))))), ?_⟩)
  · obtain ⟨a, pa, ta, v, at_, ax, cvs, l, st, rfl, _⟩ := h
    rfl
  · obtain ⟨a, pa, ta, v, at_, ax, cvs, l, st, rfl, hK, hg, hp, hA, ht, hl, ⟨p, rfl, hst⟩, hs, k⟩ := h
    refine q_asg (ev_op (ev_var rfl) ev_c (rv_ixT hst (atI_nat (j := 0) rfl))) fun H1 e1 => ?_
    refine q_asg (ev_op (ev_var rfl) ev_c (rv_ixT (ex_t e1 hst) (atI_nat (j := 2) rfl))) fun H2 e2 => ?_
    have e12 := e1.trans e2
    refine q_when (et_is (et_test (ev_op (ev_op (ev_var rfl) ev_c (rv_ixT (ex_t e12 hst) (atI_nat (j := 1) rfl))) ev_c (rv_eq rfl))) (show decide (V.int ((if st.byAtom = true then 1 else 0 : Nat) : Int) = V.int ((0 : Nat) : Int)) = !st.byAtom by
      rw [dec_nat]
      cases st.byAtom <;> rfl)) (fun hb H3 e3 => ?_) (fun hb H3 e3 => ?_)
    · have hba : st.byAtom = false := by simpa using hb
      have e13 := e12.trans e3
      refine s_ret (v := .bl (Oc12.reason at_ ax l st)) (ev_is (ev_andV (a := decide (st.i < ax.length)) (b := match ax[st.i]? with | some a => Oc.holds at_ st.type a.1 && !Oc.holds at_ st.type a.2 | none => false) (ev_is (ev_op (ev_var rfl) (ev_len (K := K) (ev_var rfl) (ex_l e13 hp)) rv_I0) (show V.bl (decide ((st.i : Int) < (cvs.length : Int))) = V.bl (decide (st.i < ax.length)) by rw [hA.1]; congr 1; rw [decide_eq_decide]; omega)) fun hlt => ?_) ?_) fun H4 e4 => k _ H4 (e13.trans e4) rfl
      · have hlt' := of_decide_eq_true hlt
        obtain ⟨y, hy⟩ : ∃ y, ax[st.i]? = some y := ⟨_, List.getElem?_eq_getElem hlt'⟩
        obtain ⟨cv, hcv, hP⟩ := hA.get hy
        rw [hy]
        exact ev_callP (ea_cons (ev_op (ev_var rfl) (ev_var rfl) (rv_ixL (ex_l e13 hp) (atI_nat hcv))) (ea_cons (ev_var rfl) ea_nil)) (sp_bk (hP.mono e13) hs)
      · unfold Oc12.reason
        rw [hba, if_neg Bool.false_ne_true]
        congr 1
        cases hy : ax[st.i]? with
        | none =>
          rw [decide_eq_false (by rw [List.getElem?_eq_none_iff] at hy; omega)]
          rfl
        | some y =>
          rw [decide_eq_true (List.getElem?_eq_some_iff.mp hy).1]
          rfl
    · have hba : st.byAtom = true := by simpa using hb
      have e13 := e12.trans e3
      have hK3 := hK.mono e13
      obtain ⟨dx, va, ai, ivs, h1, ⟨la, avs, rfl, hla, hAa⟩, h3, h4⟩ := id hK3
      refine s_ret (v := .bl (Oc12.reason at_ ax l st)) (ev_is (ev_andV (a := decide (st.i < at_.length)) (b := match at_[st.i]? with | some x => !Oc12.borne at_ l st.type x | none => false) (ev_is (ev_op (ev_var rfl) (ev_len (K := K) (ev_fld (ev_var rfl) h1 TK.cl TK.nA kF_atoms) (sq_of hla)) rv_I0) (show V.bl (decide ((st.i : Int) < (avs.length : Int))) = V.bl (decide (st.i < at_.length)) by rw [hAa.1]; congr 1; rw [decide_eq_decide]; omega)) fun hlt => ?_) ?_) fun H4 e4 => k _ H4 (e13.trans e4) rfl
      · have hlt' := of_decide_eq_true hlt
        obtain ⟨y, hy⟩ : ∃ y, at_[st.i]? = some y := ⟨_, List.getElem?_eq_getElem hlt'⟩
        rw [hy]
        exact ev_meth (ev_var rfl) h1 (kF_no (by decide +kernel) (by decide +kernel) (by decide +kernel)) (ea_cons (ev_var rfl) (ea_cons (ev_var rfl) (ea_cons (ev_var rfl) ea_nil))) (sp_iu (t := st.type) hK3 hg hy (ex_l e13 ht) hl)
      · unfold Oc12.reason
        rw [hba, if_pos rfl]
        congr 1
        cases hy : at_[st.i]? with
        | none =>
          rw [decide_eq_false (by rw [List.getElem?_eq_none_iff] at hy; omega)]
          rfl
        | some y =>
          rw [decide_eq_true (List.getElem?_eq_some_iff.mp hy).1]
          rfl
end
end Bk

namespace Bk
open PySem PySem.Spec PyProof.Rows L2 Evl LamX NdefX
open Oc (C Axiom)
open Oc01 (Thing)
section
variable {K : PySem.W.Frag} {σ : L2.St} {H : Hp} {ta te : TE} {D : Ends} {tz : TS}
/-- xs.remove(e) -/
theorem s_rem {l : Addr} {ns : List Nat} {t : Nat} (hl : H l = some (.lst (ns.map vN))) (ha : Ev ta σ H (.ref l)) (h : Ev te σ H (vN t)) (hc : ns.contains t = true) (hn : ns.Nodup) (k : ∀ H1, Ex H H1 → D.nx σ (upd H1 l (.lst ((ns.filter fun u => u != t).map vN)))) :
    tDrop (tBM K "list" rRemI ta (tCons te tNil)) D σ H := ha H (Ex.refl H) _ fun H1 e1 => ⟨Or.inl ⟨rfl, _, sq_of (e1 l _ hl)⟩, h H1 e1 _ fun H2 e2 => by
  obtain ⟨j, hj, hm⟩ := first_at hc
  have em : ∀ xs : List Nat, xs.map vN = (xs.map fun n : Nat => (n : Int)).map V.int := fun xs => by
    rw [List.map_map]
    rfl
  refine ⟨l, ns.map fun n : Nat => (n : Int), (t : Int), j, rfl, rfl, ?_, ?_, fun m hmj z => ?_, ?_⟩
  · rw [← em]
    exact e2 l _ (e1 l _ hl)
  · rw [List.getElem?_map, hj]
    rfl
  · rw [List.getElem?_map] at z
    obtain ⟨u, hu, eu⟩ := Option.map_eq_some_iff.mp z
    have : u = t := by omega
    subst this
    exact hm m hmj hu
  · have ee : ∀ (xs : List Nat) (i : Nat), (xs.map fun n : Nat => (n : Int)).eraseIdx i = (xs.eraseIdx i).map fun n : Nat => (n : Int) := fun xs => by
      induction xs with
      | nil => intro i; rfl
      | cons a xs ih =>
        intro i
        cases i with
        | zero => rfl
        | succ i =>
          show (a : Int) :: (xs.map fun n : Nat => (n : Int)).eraseIdx i = _
          rw [ih i]
          rfl
    rw [ee, ← em, er_filter ns j t hn hj]
    exact k H2 (e1.trans e2)⟩
end
/-- what is wrong first with a proof that there's none -/
def ckN (at_ : List C) (ax : List Axiom) (c : C) (ss : List Oc12.Step) : List Nat := match Oc12.goes at_ ax 0 (List.range (2 ^ at_.length)) ss with
  | .inr f => f
  | .inl l => match l.find? fun t => Oc.holds at_ t c with
    | some t => [3, t]
    | none => [0]
theorem el_nums {σ : L2.St} {H : Hp} {ta : TA} {ns : List Nat} (h : EvA ta σ H (ns.map vN)) (hl : ns.length ≤ 10) : EvL (tLst ta) σ H (ns.map vN) := el_lst h (by rw [List.length_map]; omega)
section
variable {P : Program} {w : World} {K : PySem.W.Frag} {mg : Str → Option Value} {base : Heap} {CK : Addr} {Z : List NTab}
def spCN (K : PySem.W.Frag) (Z : List NTab) : Sp := fun vs H Q _ => ∃ (v va vc : V) (sp : Addr) (at_ : List C) (ax : List Axiom) (c : C) (ss : List Oc12.Step), vs = [v, va, vc, .ref sp] ∧ TabsN Z H ∧ Axs K H v ax ∧ Row K H va at_ ∧ CT K H vc c ∧ StL K H sp ss ∧ Good at_ ∧ at_.length ≤ 5 ∧ (∀ x ∈ at_, (enc x).length ≤ 1000) ∧ AxOk at_ ax ∧ Ok c ∧ (enc c).length ≤ 1000 ∧ Within at_ c ∧
  RetLW Z ((ckN at_ ax c ss).map vN) H Q
theorem sp_cn {H : Hp} {v va vc : V} {sp : Addr} {at_ : List C} {ax : List Axiom} {c : C} {ss : List Oc12.Step} (t : TabsN Z H) (hv : Axs K H v ax) (ha : Row K H va at_) (hvc : CT K H vc c) (hs : StL K H sp ss) (hg : Good at_) (hl : at_.length ≤ 5) (hc : ∀ x ∈ at_, (enc x).length ≤ 1000) (hx : AxOk at_ ax) (oc : Ok c) (hcl : (enc c).length ≤ 1000) (hw : Within at_ c) :
    SpW Z (spCN K Z) [v, va, vc, .ref sp] H (NewL H ((ckN at_ ax c ss).map vN)) := fun Q E q => ⟨v, va, vc, sp, at_, ax, c, ss, rfl, t, hv, ha, hvc, hs, hg, hl, hc, hx, oc, hcl, hw, fun p H2 hp w2 h2 => q _ H2 w2 ⟨p, rfl, hp, h2⟩⟩
abbrev nCheckNone : List Str := ["axioms", "atoms", "concept", "steps", "kinds", "pairs", "there", "number", "step", "held"]
theorem sc_check_none : FnScope nCheckNone ["axioms", "atoms", "concept", "steps"] (defScope s_check_none) := ⟨rfl, rfl, rfl, by decide +kernel, rfl, by decide +kernel, by decide +kernel⟩
theorem ok_check_none {f : Addr} {fd : FuncData} (F : Fun K "check_none" "check_none" s_check_none f fd) (T : Txt K mg) (TQ : TxtK mg) (TK : ClsK K CK) (uMK : MkUse P w K mg base 8 "Kinds" CK ["self", "atoms"] (spKI K CK Z)) (uAXC : Use P w K mg base 7 "axiom_columns" ["axioms", "atoms"] (spAXC K Z))
    (uIR : Use P w K mg base 6 "is_reason" ["kinds", "pairs", "there", "step"] (spIR K CK)) (uLH : Use P w K mg base 7 "lowest_holding" ["concept", "atoms", "there"] (spLH K Z)) : FnOk P w K mg base CX0 10 f fd ["axioms", "atoms", "concept", "steps"] (spCN K Z) := by
  refine F.ok sc_check_none (fun vs H Q E h => ?_) (fun cdv A outer s H vs Q E hr h => ⟨_,
    pss_cons (ps_set (i := 4) sc_check_none.nd rfl (.inl rfl) (pe_mkuse uMK hr (pa_cons (pv 1) pa_nil)))
    (pss_cons (ps_set (i := 5) sc_check_none.nd rfl (.inl rfl) (pe_use uAXC (hr.mono (by decide)) (pa_cons (pv 0) (pa_cons (pv 1) pa_nil))))
    (pss_cons (ps_set (i := 6) sc_check_none.nd rfl (.inl rfl) (pe_listRg rfl rfl T.list (prg_1 rfl T.range (pe_fld (pv 4) rfl))))
    (pss_cons (ps_for PassesOwn.never rfl (pi_enum rfl T.enumerate (pa_cons (pv 3) pa_nil)) (pg_tup rfl (pgs_cons (pg_name (i := 7) sc_check_none.nd rfl (.inl rfl)) (pgs_cons (pg_name (i := 8) sc_check_none.nd rfl (.inl rfl)) pgs_nil)))
      (pss_cons (ps_if (pt_cmpR op_notIn_seq (pe_ix ix_tup (pv 8) pe_int (fun _ _ => rfl)) (pv 6) rfl) (pss_one (ps_ret (pe_lst (pa_cons (pe_cst TQ.kNOT_THERE) (pa_cons (pv 7) pa_nil))))) pss_nil)
      (pss_cons (ps_if (pt_not (pt_val (pe_use uIR (hr.mono (by decide)) (pa_cons (pv 4) (pa_cons (pv 5) (pa_cons (pv 6) (pa_cons (pv 8) pa_nil))))))) (pss_one (ps_ret (pe_lst (pa_cons (pe_cst TQ.kNO_REASON) (pa_cons (pv 7) pa_nil))))) pss_nil)
      (pss_one (ps_expr (pe_bm PySem.F.plainAttrs_list PySem.F.slot_list_remove PySem.F.type_list_remove mt_remove (pv 6) (pa_cons (pe_ix ix_tup (pv 8) pe_int (fun _ _ => rfl)) pa_nil)))))))
    (pss_cons (ps_set (i := 9) sc_check_none.nd rfl (.inl rfl) (pe_use uLH (hr.mono (by decide)) (pa_cons (pv 2) (pa_cons (pv 1) (pa_cons (pv 6) pa_nil)))))
    (pss_cons (ps_if (pt_cmpR op_ge (pv 9) pe_int (nomark _)) (pss_one (ps_ret (pe_lst (pa_cons (pe_cst TQ.kSTILL_HOLDS) (pa_cons (pv 9) pa_nil))))) pss_nil)
    (pss_one (ps_ret (pe_lst (pa_cons (pe_cst TQ.kRIGHT) pa_nil))))))))), ?_⟩)
  · obtain ⟨v, va, vc, sp, at_, ax, c, ss, rfl, _⟩ := h
    rfl
  · obtain ⟨v, va, vc, sp, at_, ax, c, ss, rfl, t, hv, hR, hvc, ⟨svs, hsp, hS⟩, hg, hl, hc, hx, oc, hcl, hwi, k⟩ := h
    have hp5 := pow_le5 hl
    refine q_asgW (ew_kinds (Z := Z) (CK := CK) t (ev_var rfl) hR hg (by omega) hc) fun kv1 H0 w0 hkv => ?_
    obtain ⟨kp, rfl, hk0, hK⟩ := hkv
    refine q_asgW (Z := Z) (Φ := NewP K H0 (2 ^ at_.length) (kv at_) ax) (ew_call w0.tab (ea_cons (ev_var rfl) (ea_cons (ev_var rfl) ea_nil)) fun H1 e1 Q' E' q' => sp_axc (tab_ex w0.tab e1) ((hv.w w0).mono e1) ((hR.w w0).mono e1) hg (by omega) hx Q' E' fun v3 H3 w3 h3 => q' v3 H3 w3 (h3.back (.of w0.tab e1))) fun pv1 H2 w2 hpv => ?_
    obtain ⟨pb, cvs, rfl, hpb0, hpb, hC⟩ := hpv
    have w02 := w0.trans w2
    have hK2 := hK.w w2
    obtain ⟨dx, va', ai, ivs, hk2, _⟩ := id hK2
    refine q_asgL (el_listRg (n := 2 ^ at_.length) (ev_fld (ev_var rfl) hk2 TK.cl TK.nT kF_total) (by omega)) fun th H3 hth0 e3 h3 => ?_
    have hsp2 : H2 sp = some (.lst svs) := w02.at hsp
    have hS2 : All2 (StT K H2) svs ss := hS.mono fun _ _ z => z.w w02
    refine q_forEnum (K := K) (ev_var rfl) (sq_of (e3 sp _ hsp2)) (fun i σ' H' => ∃ (x7 x8 : Option V) (l : List Nat), σ' = [some v, some va, some vc, some (.ref sp), some (.ref kp), some (.ref pb), some (.ref th), x7, x8, none] ∧ Ex H2 H' ∧ H' th = some (.lst (l.map vN)) ∧ l.Nodup ∧ (∀ u ∈ l, u < 2 ^ at_.length) ∧ Oc12.goes at_ ax 0 (List.range (2 ^ at_.length)) ss = Oc12.goes at_ ax i l (ss.drop i))
      (fun H4 e4 => ⟨none, none, List.range (2 ^ at_.length), rfl, e3.trans e4, e4 th _ h3, List.nodup_range, fun u hu => List.mem_range.mp hu, rfl⟩) (fun i σ' H' _ ⟨_, _, _, _, e, _⟩ => sq_of (e sp _ hsp2)) ?_ ?_
    · rintro i sv σ' H' hi ⟨x7, x8, l, rfl, e, hth, hnd, hlt, hgo⟩ H4 e4
      obtain ⟨st, hst, hP⟩ := hS2.got hi
      obtain ⟨p, rfl, hpt⟩ := id hP
      have e24 := e.trans e4
      have hdrop : ss.drop i = st :: ss.drop (i + 1) := by
        obtain ⟨hil, he⟩ := List.getElem?_eq_some_iff.mp hst
        rw [List.drop_eq_getElem_cons hil, he]
      rw [hdrop] at hgo
      refine q_when (et_is (et_test (ev_op (ev_op (ev_var rfl) ev_c (rv_ixT (ex_t e24 hpt) (atI_nat (j := 0) rfl))) (ev_var rfl) (rv_niL (sq_of (e4 th _ hth)) rfl (flat_nat _)))) (show (!inV (vN st.type) (l.map vN)) = !l.contains st.type by rw [inV_nat])) (fun hb H5 e5 => ?_) (fun hb H5 e5 => ?_)
      · have hno : l.contains st.type = false := by simpa using hb
        have hck : ckN at_ ax c ss = [1, i] := by
          unfold ckN
          rw [hgo]
          show (match (if l.contains st.type = false then Sum.inr [1, i] else _ : List Nat ⊕ List Nat) with | .inr f => f | .inl l => _) = _
          rw [if_pos hno]
        refine s_retL (el_nums (ns := [1, i]) (ea_cons ev_c (ea_cons (ev_var rfl) ea_nil)) (show 2 ≤ 10 by decide)) fun q H6 hq e6 h6 => k q H6 (w02.fr q (fresh_back (e24.trans e5) hq)) (w02.ex (e24.trans (e5.trans e6))) ?_
        rw [hck]
        exact h6
      · have hyes : l.contains st.type = true := by simpa using hb
        have htl : st.type < 2 ^ at_.length := hlt _ (by simpa using hyes)
        have e25 := e24.trans e5
        refine q_when (et_not (et_B (ev_callP (ea_cons (ev_var rfl) (ea_cons (ev_var rfl) (ea_cons (ev_var rfl) (ea_cons (ev_var rfl) ea_nil)))) (sp_ir (hK2.mono e25) hg (sq_of (e25 pb _ hpb)) (hC.mono fun _ _ z => z.mono e25) (sq_of ((e4.trans e5) th _ hth)) hlt (hP.mono e25) htl)))) (fun hb2 H6 e6 => ?_) (fun hb2 H6 e6 => ?_)
        · have hno : Oc12.reason at_ ax l st = false := by simpa using hb2
          have hck : ckN at_ ax c ss = [2, i] := by
            unfold ckN
            rw [hgo]
            show (match (if l.contains st.type = false then Sum.inr [1, i] else if Oc12.reason at_ ax l st = false then Sum.inr [2, i] else _ : List Nat ⊕ List Nat) with | .inr f => f | .inl l => _) = _
            rw [if_neg (by rw [hyes]; exact Bool.noConfusion), if_pos hno]
          refine s_retL (el_nums (ns := [2, i]) (ea_cons ev_c (ea_cons (ev_var rfl) ea_nil)) (show 2 ≤ 10 by decide)) fun q H7 hq e7 h7 => k q H7 (w02.fr q (fresh_back (e25.trans e6) hq)) (w02.ex (e25.trans (e6.trans e7))) ?_
          rw [hck]
          exact h7
        · have hyes2 : Oc12.reason at_ ax l st = true := by simpa using hb2
          have e26 := e25.trans e6
          refine s_rem ((e4.trans (e5.trans e6)) th _ hth) (ev_var rfl) (ev_op (ev_var rfl) ev_c (rv_ixT (ex_t e26 hpt) (atI_nat (j := 0) rfl))) hyes hnd fun H7 e7 => ?_
          refine ⟨_, _, l.filter fun u => u != st.type, rfl, Ex.mut (e26.trans e7) hth0, upd_same, hnd.filter _, fun u hu => hlt u (List.mem_filter.mp hu).1, ?_⟩
          rw [hgo]
          show (if l.contains st.type = false then Sum.inr [1, i] else if Oc12.reason at_ ax l st = false then Sum.inr [2, i] else _ : List Nat ⊕ List Nat) = _
          rw [if_neg (by rw [hyes]; exact Bool.noConfusion), if_neg (by rw [hyes2]; exact Bool.noConfusion)]
    · rintro σ' H' ⟨x7, x8, l, rfl, e, hth, hnd, hlt, hgo⟩
      rw [hS2.1, List.drop_length] at hgo
      have hgo' : Oc12.goes at_ ax 0 (List.range (2 ^ at_.length)) ss = .inl l := hgo
      have w' := w02.ex e
      refine q_asgW (Z := Z) (Φ := fun v _ => v = .int (orNo (l.find? fun t => Oc.holds at_ t c))) (ew_call w'.tab (ea_cons (ev_var rfl) (ea_cons (ev_var rfl) (ea_cons (ev_var rfl) ea_nil))) fun H5 e5 Q' E' q' => sp_lh (tab_ex w'.tab e5) ((hvc.w w').mono e5) ((hR.w w').mono e5) hg (by omega) oc hcl hwi (sq_of (e5 th _ hth)) hlt Q' E' q') fun hv5 H5 w5 hh5 => ?_
      subst hh5
      have w05 := w'.trans w5
      refine q_when (et_test (ev_op (ev_var rfl) ev_c rv_I0)) (fun hb H6 e6 => ?_) (fun hb H6 e6 => ?_)
      · cases hf : l.find? fun t => Oc.holds at_ t c with
        | none =>
          rw [hf] at hb
          exact absurd (of_decide_eq_true hb) (by show ¬ (0 : Int) ≤ -1; decide)
        | some u =>
          have hck : ckN at_ ax c ss = [3, u] := by
            unfold ckN
            rw [hgo']
            show (match l.find? fun t => Oc.holds at_ t c with | some t => [3, t] | none => [0]) = _
            rw [hf]
          refine s_retL (el_nums (ns := [3, u]) (ea_cons ev_c (ea_cons (ev_var rfl) ea_nil)) (show 2 ≤ 10 by decide)) fun q H7 hq e7 h7 => k q H7 (w05.fr q (fresh_back e6 hq)) (w05.ex (e6.trans e7)) ?_
          rw [hck]
          exact h7
      · cases hf : l.find? fun t => Oc.holds at_ t c with
        | some u =>
          rw [hf] at hb
          exact absurd (show (0 : Int) ≤ (u : Int) by omega) (of_decide_eq_false hb)
        | none =>
          have hck : ckN at_ ax c ss = [0] := by
            unfold ckN
            rw [hgo']
            show (match l.find? fun t => Oc.holds at_ t c with | some t => [3, t] | none => [0]) = _
            rw [hf]
          refine s_retL (el_nums (ns := [0]) (ea_cons ev_c ea_nil) (by decide)) fun q H7 hq e7 h7 => k q H7 (w05.fr q (fresh_back e6 hq)) (w05.ex (e6.trans e7)) ?_
          rw [hck]
          exact h7
end
end Bk

namespace Bk
open PySem PySem.Spec PyProof.Rows L2 Evl LamX NdefX
open Oc (C Axiom)
open Oc01 (Thing)
theorem findS_some {α : Type} {n i : Nat} {f : Nat → Option α} {y : α} (hi : i < n) (h1 : ∀ j, j < i → f j = none) (h2 : f i = some y) : (List.range n).findSome? f = some y := by
  rw [List.findSome?_eq_some_iff]
  refine ⟨List.range i, i, (List.range n).drop (i + 1), ?_, h2, fun x hx => h1 x (List.mem_range.mp hx)⟩
  have e : (List.range n)[i]? = some i := List.getElem?_range hi
  obtain ⟨hl, e⟩ := List.getElem?_eq_some_iff.mp e
  have : (List.range n).take i = List.range i := by
    rw [List.take_range, Nat.min_eq_left (Nat.le_of_lt hi)]
  rw [← this]
  conv => lhs; rw [← List.take_append_drop i (List.range n), List.drop_eq_getElem_cons hl, e]
theorem findS_none {α : Type} {n : Nat} {f : Nat → Option α} (h1 : ∀ j, j < n → f j = none) : (List.range n).findSome? f = none := by
  rw [List.findSome?_eq_none_iff]
  exact fun x hx => h1 x (List.mem_range.mp hx)
section
variable {Z : List NTab} {σ : L2.St} {H : Hp} {te : TE} {D : Ends} {tu tz : TS}
theorem q_whenWN {b : Bool} (h : EvW Z te σ H fun v _ => v = .bl b) (h1 : b = false → ∀ H1, Wx Z H H1 → tu { D with nx := tz D } σ H1) (h2 : b = true → ∀ H1, Wx Z H H1 → tz D σ H1) : tSeq (tIfS (tNot (tB te)) tu tNext) tz D σ H :=
  h _ fun v H1 w hv => ⟨b, hv, by
    cases b with
    | true => exact h2 rfl H1 w
    | false => exact h1 rfl H1 w⟩
end
/-- axioms that are concepts -/
structure AxC (ax : List Axiom) : Prop where
  len : ax.length ≤ 100
  ok : ∀ a ∈ ax, (Ok a.1 ∧ (enc a.1).length ≤ 1000) ∧ (Ok a.2 ∧ (enc a.2).length ≤ 1000)
section
variable {P : Program} {w : World} {K : PySem.W.Frag} {mg : Str → Option Value} {base : Heap} {Z : List NTab}
def spCM (K : PySem.W.Frag) (Z : List NTab) : Sp := fun vs H Q _ => ∃ (v vc vt : V) (ax : List Axiom) (c : C) (m : List Thing), vs = [v, vc, vt] ∧ TabsN Z H ∧ Axs K H v ax ∧ CT K H vc c ∧ ThL K H vt m ∧ AxC ax ∧ Ok c ∧ (enc c).length ≤ 1000 ∧ m.length ≤ 100 ∧ (∀ th ∈ m, th.to.length ≤ 1000) ∧ RetLW Z ((ck (Oc12.checkModel ax c m)).map vN) H Q
theorem sp_cm {H : Hp} {v vc vt : V} {ax : List Axiom} {c : C} {m : List Thing} (t : TabsN Z H) (hv : Axs K H v ax) (hvc : CT K H vc c) (ht : ThL K H vt m) (hx : AxC ax) (oc : Ok c) (hcl : (enc c).length ≤ 1000) (hm : m.length ≤ 100) (hf : ∀ th ∈ m, th.to.length ≤ 1000) :
    SpW Z (spCM K Z) [v, vc, vt] H (NewL H ((ck (Oc12.checkModel ax c m)).map vN)) := fun Q E q => ⟨v, vc, vt, ax, c, m, rfl, t, hv, hvc, ht, hx, oc, hcl, hm, hf, fun p H2 hp w2 h2 => q _ H2 w2 ⟨p, rfl, hp, h2⟩⟩
abbrev nCheckModel : List Str := ["axioms", "concept", "things", "stray", "axiom", "pairs", "number"]
theorem sc_check_model : FnScope nCheckModel ["axioms", "concept", "things"] (defScope s_check_model) := ⟨rfl, rfl, rfl, by decide +kernel, rfl, by decide +kernel, by decide +kernel⟩
theorem ok_check_model {f : Addr} {fd : FuncData} (F : Fun K "check_model" "check_model" s_check_model f fd) (T : Txt K mg) (TQ : TxtK mg) (uLS : Use P w K mg base 1 "lowest_stray" ["things"] (spLS K)) (uTC : Use P w K mg base 6 "thing_column" ["concept", "things"] (spTC K Z)) (uLB : Use P w K mg base 2 "lowest_broken" ["pairs", "which"] (spLB K)) :
    FnOk P w K mg base CX0 7 f fd ["axioms", "concept", "things"] (spCM K Z) := by
  refine F.ok sc_check_model (fun vs H Q E h => ?_) (fun cdv A outer s H vs Q E hr h => ⟨_,
    pss_cons (ps_if (pt_cmpR op_eq (pe_len T.len (pv 2)) pe_int (nomark _)) (pss_one (ps_ret (pe_lst (pa_cons (pe_cst TQ.kNO_THINGS) pa_nil)))) pss_nil)
    (pss_cons (ps_set (i := 3) sc_check_model.nd rfl (.inl rfl) (pe_use uLS (hr.mono (by decide)) (pa_cons (pv 2) pa_nil)))
    (pss_cons (ps_if (pt_cmpR op_ge (pv 3) pe_int (nomark _)) (pss_one (ps_ret (pe_lst (pa_cons (pe_cst TQ.kSTRAY_WAY) (pa_cons (pv 3) pa_nil))))) pss_nil)
    (pss_cons (ps_setLc (i := 5) (own := [("axiom", 4)]) (g := gName 4) (tt := tYes) rfl sc_check_model.nd rfl rfl (sw_true rfl rfl rfl (by decide +kernel)) (pi_list (pv 0)) (blkOk_by (own := [("axiom", 4)]) (N := nCheckModel) (sc := defScope s_check_model) (by decide +kernel)) (fun _ _ _ _ _ => pg_name (i := 4) sc_check_model.nd rfl (Or.inl rfl)) (fun _ _ _ _ _ => pts_nil)
      (fun _ _ _ _ _ => pe_tup (pa_cons (pe_use uTC hr (pa_cons (pe_ix (r := rIxT K) ix_tup (pv 4) pe_int (fun _ _ => rfl)) (pa_cons (pv 2) pa_nil))) (pa_cons (pe_use uTC hr (pa_cons (pe_ix (r := rIxT K) ix_tup (pv 4) pe_int (fun _ _ => rfl)) (pa_cons (pv 2) pa_nil))) pa_nil))))
    (pss_cons (ps_for PassesOwn.never rfl (pi_range1 rfl T.range (pa_cons (pe_len T.len (pv 2)) pa_nil)) (pg_name (i := 6) sc_check_model.nd rfl (.inl rfl))
      (pss_cons (ps_set (i := 4) sc_check_model.nd rfl (.inl rfl) (pe_use uLB (hr.mono (by decide)) (pa_cons (pv 5) (pa_cons (pv 6) pa_nil))))
      (pss_one (ps_if (pt_cmpR op_ge (pv 4) pe_int (nomark _)) (pss_one (ps_ret (pe_lst (pa_cons (pe_cst TQ.kBREAKS_AXIOM) (pa_cons (pv 6) (pa_cons (pv 4) pa_nil)))))) pss_nil))))
    (pss_cons (ps_if (pt_not (pt_val (pe_ix ix_list (pe_use uTC hr (pa_cons (pv 1) (pa_cons (pv 2) pa_nil))) pe_int (fun _ _ => rfl)))) (pss_one (ps_ret (pe_lst (pa_cons (pe_cst TQ.kNOT_THE_FIRST) pa_nil)))) pss_nil)
    (pss_one (ps_ret (pe_lst (pa_cons (pe_cst TQ.kRIGHT) pa_nil))))))))), ?_⟩)
  · obtain ⟨v, vc, vt, ax, c, m, rfl, _⟩ := h
    rfl
  · obtain ⟨v, vc, vt, ax, c, m, rfl, t, hv, hvc, hT, hx, oc, hcl, hm, hf, k⟩ := h
    obtain ⟨ta, tvs, rfl, hta, hTA⟩ := id hT
    have hck : Oc12.checkModel ax c m = if m = [] then some [1] else match lowSt m with
      | some i => some [2, i]
      | none => match (List.range m.length).findSome? fun i => (lowG (tv m) ax i).map fun k => [3, i, k] with
        | some f => some f
        | none => if Oc12.isOf m c 0 = true then none else some [4] := rfl
    refine q_when (et_is (et_test (ev_op (ev_len (K := K) (ev_var rfl) hta) ev_c (rv_eq rfl))) (show decide (V.int (tvs.length : Int) = V.int ((0 : Nat) : Int)) = decide (m.length = 0) by rw [hTA.1]; exact dec_nat)) (fun hb H1 e1 => ?_) (fun hb H1 e1 => ?_)
    · have hnil : m = [] := List.length_eq_zero_iff.mp (of_decide_eq_true hb)
      refine s_retL (el_nums (ns := [1]) (ea_cons ev_c ea_nil) (by decide)) fun q H2 hq e2 h2 => k q H2 (fresh_back e1 hq) (.of t (e1.trans e2)) ?_
      rw [hck, if_pos hnil]
      exact h2
    have hne : ¬ m = [] := fun z => of_decide_eq_false hb (by rw [z]; rfl)
    rw [if_neg hne] at hck
    refine q_asg (ev_callP (ea_cons (ev_var rfl) ea_nil) (sp_ls (hT.mono e1))) fun H2 e2 => ?_
    refine q_when (et_test (ev_op (ev_var rfl) ev_c rv_I0)) (fun hb2 H3 e3 => ?_) (fun hb2 H3 e3 => ?_)
    · cases hs : lowSt m with
      | none =>
        rw [hs] at hb2
        exact absurd (of_decide_eq_true hb2) (by show ¬ (0 : Int) ≤ -1; decide)
      | some i =>
        rw [hs] at hck
        refine s_retL (el_nums (ns := [2, i]) (ea_cons ev_c (ea_cons (ev_var rfl) ea_nil)) (show 2 ≤ 10 by decide)) fun q H4 hq e4 h4 => k q H4 (fresh_back (e1.trans (e2.trans e3)) hq) (.of t (e1.trans (e2.trans (e3.trans e4)))) ?_
        rw [hck]
        exact h4
    have hs : lowSt m = none := by
      cases hs : lowSt m with
      | none => rfl
      | some i =>
        rw [hs] at hb2
        exact absurd (show (0 : Int) ≤ (i : Int) by omega) (of_decide_eq_false hb2)
    rw [hs] at hck
    have hmok : MOk m := ⟨hm, fun th hth e he => by
      obtain ⟨i, hi, rfl⟩ := List.mem_iff_getElem.mp hth
      have h1 := List.find?_eq_none.mp hs i (List.mem_range.mpr hi)
      rw [getD_at (List.getElem?_eq_getElem hi)] at h1
      have h2 : (m[i].to.any (stray m)) = false := by simpa using h1
      have h3 := List.any_eq_false.mp h2 e he
      unfold stray at h3
      simp at h3
      exact h3.2, hf⟩
    have e13 := e1.trans (e2.trans e3)
    have w3 := Wx.of t e13
    obtain ⟨a, xvs, rfl, ha, hA⟩ := id (hv.mono e13)
    have hT3 := hT.mono e13
    refine q_asgW (Z := Z) (Φ := NewP K H3 m.length (tv m) ax) (EvW.imp (ew_lc (K := K) (Z := Z) (ys := ax) (R := fun H3 v (a : Axiom) => ∃ p x y, v = .ref p ∧ H3 p = some (.tup [x, y]) ∧ (∃ p, x = .ref p ∧ H3 p = some (.lst ((colG m.length (tv m) a.1).map V.bl))) ∧ (∃ p, y = .ref p ∧ H3 p = some (.lst ((colG m.length (tv m) a.2).map V.bl)))) w3.tab (ev_var rfl) (sq_of ha) hA.1 (by have := hx.len; rw [hA.1]; omega) (fun _ => rfl) fun i x y H4 w4 hi hy => ?_) fun cv H4 w4 hcv => ?_) fun pv1 H4 w4 hpv => ?_
    · obtain ⟨p, x1, x2, rfl, hp, c1, c2⟩ := hA.2 i x y hi hy
      obtain ⟨⟨o1, l1⟩, ⟨o2, l2⟩⟩ := hx.ok y (List.mem_of_getElem? hy)
      have one : ∀ (d : C) (n : Nat) (xc : V) (H5 : Hp), Wx Z H3 H5 → CT K H3 xc d → ([x1, x2] : List V)[n]? = some xc → Ok d → (enc d).length ≤ 1000 → EvNW Z (tCall (spTC K Z) [] E0 (tCons (tOp (rIxT K) (tVar 4) (tC (.int (n : Int)))) (tCons (tVar 2) tNil))) [some (.ref a), some vc, some (.ref ta), some (.int (orNo (lowSt m))), some (.ref p), none, none] H5 fun H6 v => ∃ p, v = .ref p ∧ H6 p = some (.lst ((colG m.length (tv m) d).map V.bl)) := fun d n xc H5 w5 hd hn o l =>
        en_ofW (ew_call w5.tab (ea_cons (ev_op (ev_var rfl) ev_c (rv_ixT (wx_t w5 hp) (atI_nat hn))) (ea_cons (ev_var rfl) ea_nil)) fun H6 e6 Q' E' q' => sp_tc (tab_ex w5.tab e6) ((hd.w w5).mono e6) ((hT3.w w5).mono e6) hmok o l Q' E' fun v7 H7 w7 h7 => q' v7 H7 w7 (NewL.back (.of w5.tab e6) h7))
      exact en_tupW (one y.1 0 x1 H4 w4 c1 rfl o1 l1) fun H5 w5 => one y.2 1 x2 H5 (w4.trans w5) c2 rfl o2 l2
    · obtain ⟨cb, cvs, rfl, hcb0, hcb, hC⟩ := hcv
      refine ⟨cb, cvs, rfl, hcb0, hcb, hC.mono fun v a z => ?_⟩
      obtain ⟨p, x, y, rfl, h1, ⟨px, rfl, h2⟩, ⟨py, rfl, h3⟩⟩ := z
      exact ⟨p, _, _, rfl, st_of h1, ⟨px, rfl, sq_of h2⟩, ⟨py, rfl, sq_of h3⟩⟩
    obtain ⟨pb, cvs, rfl, hpb0, hpb, hC⟩ := hpv
    have w04 := w3.trans w4
    refine q_forR1 (n := (m.length : Int)) (by rw [← hTA.1]; exact ea_cons (ev_len (K := K) (ev_var rfl) (wx_l w04 hta)) ea_nil) ⟨by omega, by omega⟩ (fun i σ' H' => ∃ x4 x6 : Option V, σ' = [some (.ref a), some vc, some (.ref ta), some (.int (orNo (lowSt m))), x4, some (.ref pb), x6] ∧ Ex H4 H' ∧ ∀ j, j < i → lowG (tv m) ax j = none)
      (fun H5 e5 => ⟨_, none, rfl, e5, fun j hj => absurd hj (by omega)⟩) ?_ ?_
    · rintro i σ' H' hi ⟨x4, x6, rfl, e, hp⟩
      have hi' : i < m.length := by omega
      refine q_asg (ev_callP (ea_cons (ev_var rfl) (ea_cons (ev_var rfl) ea_nil)) (sp_lb (t := i) (sq_of (e pb _ hpb)) (hC.mono fun _ _ z => z.mono e) hi')) fun H5 e5 => ?_
      refine s_when (et_test (ev_op (ev_var rfl) ev_c rv_I0)) (fun hb5 H6 e6 => ?_) (fun hb5 H6 e6 => ?_)
      · cases hlo : lowG (tv m) ax i with
        | none =>
          rw [hlo] at hb5
          exact absurd (of_decide_eq_true hb5) (by show ¬ (0 : Int) ≤ -1; decide)
        | some j =>
          have hfs : ((List.range m.length).findSome? fun i => (lowG (tv m) ax i).map fun k => [3, i, k]) = some [3, i, j] := findS_some hi' (fun q hq => by rw [hp q hq]; rfl) (by rw [hlo]; rfl)
          rw [hfs] at hck
          refine s_retL (el_nums (ns := [3, i, j]) (ea_cons ev_c (ea_cons (ev_var rfl) (ea_cons (ev_var rfl) ea_nil))) (show 3 ≤ 10 by decide)) fun q H7 hq e7 h7 => k q H7 (w04.fr q (fresh_back (e.trans (e5.trans e6)) hq)) (w04.ex (e.trans (e5.trans (e6.trans e7)))) ?_
          rw [hck]
          exact h7
      · cases hlo : lowG (tv m) ax i with
        | some j =>
          rw [hlo] at hb5
          exact absurd (show (0 : Int) ≤ (j : Int) by omega) (of_decide_eq_false hb5)
        | none =>
          refine ⟨_, _, rfl, e.trans (e5.trans e6), fun j hj => ?_⟩
          by_cases hji : j = i
          · rw [hji]
            exact hlo
          · exact hp j (by omega)
    · rintro σ' H' ⟨x4, x6, rfl, e, hp⟩
      rw [Int.toNat_natCast] at hp
      have hfs : ((List.range m.length).findSome? fun i => (lowG (tv m) ax i).map fun k => [3, i, k]) = none := findS_none fun q hq => by rw [hp q hq]; rfl
      rw [hfs] at hck
      have w' := w04.ex e
      have hpos : 0 < m.length := by
        cases m with
        | nil => exact absurd rfl hne
        | cons x l => exact Nat.succ_pos _
      refine q_whenWN (Z := Z) (b := tv m c 0) (ew_op (z := .non) (Φ := NewL H' ((colG m.length (tv m) c).map V.bl)) (ew_call w'.tab (ea_cons (ev_var rfl) (ea_cons (ev_var rfl) ea_nil)) fun H6 e6 Q' E' q' => sp_tc (tab_ex w'.tab e6) ((hvc.w w').mono e6) ((hT.w w').mono e6) hmok oc hcl Q' E' fun v7 H7 w7 h7 => q' v7 H7 w7 (h7.back (.of w'.tab e6))) (fun v6 H6 w6 h6 => ev_c) fun v6 H6 w6 h6 => ?_) (fun hb6 H6 w6 => ?_) (fun hb6 H6 w6 => ?_)
      · obtain ⟨q, rfl, _, hq⟩ := h6
        exact rv_ixL (K := K) (i := ((0 : Nat) : Int)) (sq_of hq) (colG_at hpos)
      · have hz : Oc12.isOf m c 0 = false := hb6
        refine s_retL (el_nums (ns := [4]) (ea_cons ev_c ea_nil) (by decide)) fun q H7 hq e7 h7 => k q H7 ((w'.trans w6).fr q hq) ((w'.trans w6).ex e7) ?_
        rw [hck, hz]
        exact h7
      · have hz : Oc12.isOf m c 0 = true := hb6
        refine s_retL (el_nums (ns := [0]) (ea_cons ev_c ea_nil) (by decide)) fun q H7 hq e7 h7 => k q H7 ((w'.trans w6).fr q hq) ((w'.trans w6).ex e7) ?_
        rw [hck, hz]
        exact h7
end
end Bk

namespace Bk
open PySem PySem.Spec PyProof.Rows L2 Evl LamX NdefX
open Oc (C Axiom)
open Oc01 (Thing)
abbrev s_names_of : Stmt := top 53
abbrev s_kind_ways : Stmt := top 54
abbrev s_told_model : Stmt := top 55
section
variable {P : Program} {w : World} {K : PySem.W.Frag} {mg : Str → Option Value} {base : Heap} {CK : Addr} {Z : List NTab}
/-! ### names_of -/
def spNO (K : PySem.W.Frag) : Sp := fun vs H Q _ => ∃ (t : Nat) (va : V) (at_ : List C), vs = [vN t, va] ∧ Row K H va at_ ∧ Good at_ ∧ Ret H Q fun v _ => v = vN (Oc01.namesOf at_ t)
theorem sp_no {H : Hp} {t : Nat} {va : V} {at_ : List C} (h : Row K H va at_) (hg : Good at_) : SpP (spNO K) [vN t, va] H fun v _ => v = vN (Oc01.namesOf at_ t) := fun H1 e Q q E => ⟨t, va, at_, rfl, h.mono e, hg, q⟩
theorem sc_names_of : FnScope ["kind", "atoms", "names", "k", "atom"] ["kind", "atoms"] (defScope s_names_of) := ⟨rfl, rfl, rfl, by decide +kernel, rfl, by decide +kernel, by decide +kernel⟩
def sumN (l : List Nat) : Nat := l.foldl (fun n a => n + 2 ^ a) 0
theorem sumN_more (l : List Nat) (a : Nat) : sumN (l ++ [a]) = sumN l + 2 ^ a := by
  unfold sumN
  rw [List.foldl_append]
  rfl
theorem ok_names_of {f : Addr} {fd : FuncData} (F : Fun K "names_of" "names_of" s_names_of f fd) (T : Txt K mg) (uAH : Use P w K mg base 1 "has_bit" ["number", "k"] spAH) : FnOk P w K mg base CX0 2 f fd ["kind", "atoms"] (spNO K) := by
  refine F.ok sc_names_of (fun vs H Q E h => ?_) (fun cdv A outer s H vs Q E hr h => ⟨_,
    pss_cons (ps_set (i := 2) sc_names_of.nd rfl (.inl rfl) pe_int)
    (pss_cons (ps_for PassesOwn.never rfl (pi_enum rfl T.enumerate (pa_cons (pv 1) pa_nil)) (pg_tup rfl (pgs_cons (pg_name (i := 3) sc_names_of.nd rfl (.inl rfl)) (pgs_cons (pg_name (i := 4) sc_names_of.nd rfl (.inl rfl)) pgs_nil)))
      (pss_one (ps_if (PW.pt (pw_and (pt_cmpR op_eq (pe_ix ix_tup (pv 4) pe_int (fun _ _ => rfl)) (pe_cst T.kNAME) (nomark _)) (pw_and1 (pt_val (pe_use uAH hr (pa_cons (pv 0) (pa_cons (pv 3) pa_nil)))))))
        (pss_one (ps_aug (i := 2) sc_names_of.nd rfl (.inl rfl) (pe_op op_shl pe_int (pe_ix ix_tup (pv 4) pe_int (fun _ _ => rfl))) ip_add)) pss_nil)))
    (pss_one (ps_ret (pv 2)))), ?_⟩)
  · obtain ⟨t, va, at_, rfl, _⟩ := h
    rfl
  · obtain ⟨t, va, at_, rfl, ⟨a, avs, rfl, ha, hA⟩, hg, k⟩ := h
    refine q_asg ev_c fun H1 e1 => ?_
    refine q_forEnum (K := K) (ev_var rfl) (sq_of (e1 a _ ha)) (fun i σ' H' => ∃ (x3 x4 : Option V) (z : Int), z = (sumN ((at_.take i).filterMap (nameOf at_ t)) : Int) ∧ σ' = [some (vN t), some (.ref a), some (.int z), x3, x4] ∧ Ex H H')
      (fun H2 e2 => ⟨none, none, _, rfl, rfl, e1.trans e2⟩) (fun i σ' H' _ ⟨_, _, _, _, _, e⟩ => sq_of (e a _ ha)) ?_ ?_
    · rintro i v σ' H' hi ⟨x3, x4, z, rfl, rfl, e⟩ H2 e2
      obtain ⟨x, hx, hv⟩ := hA.got hi
      have e' := e.trans e2
      have hv2 := hv.mono e'
      have hh := holds_nth (t := t) hg hx
      have hfm := take_fm (nameOf at_ t) hx
      refine s_when (et_and (et_is (et_test (ev_op (ev_atI hv2 (ev_var rfl) ev_c (n := 0) rfl (enc0 x)) ev_c (rv_eq rfl))) (dec_nat (a := (enc x).headD 0) (b := 2))) fun _ => et_B (ev_callP (ea_cons (ev_var rfl) (ea_cons (ev_var rfl) ea_nil)) (sp_ah (t := t) (k := i)))) (fun hb H3 e3 => ?_) (fun hb H3 e3 => ?_)
      · rw [← hh] at hb
        obtain ⟨b1, b2⟩ := Bool.and_eq_true_iff.mp hb
        cases x with
        | name n =>
          have ho : Ok (.name n) := hg.ok _ (List.mem_of_getElem? hx)
          have ho4 : n < 4 := ho
          refine s_aug (b := ((2 ^ n : Nat) : Int)) rfl (ev_is (ev_op ev_c (ev_atI (hv2.mono e3) (ev_var rfl) ev_c (n := 1) (h := n) rfl rfl) (rv_I ⟨by omega, by omega, by decide⟩)) (show V.int (1 * 2 ^ ((n : Int).toNat)) = V.int ((2 ^ n : Nat) : Int) by rw [Int.toNat_natCast, Int.one_mul, Int.natCast_pow]; rfl)) fun H4 e4 => ⟨_, _, _, ?_, rfl, e'.trans (e3.trans e4)⟩
          have hn : nameOf at_ t (.name n) = some n := by simp only [nameOf, b2, if_true]
          rw [hfm, hn]
          show (sumN ((at_.take i).filterMap (nameOf at_ t)) : Int) + ((2 ^ n : Nat) : Int) = (sumN ((at_.take i).filterMap (nameOf at_ t) ++ [n]) : Int)
          rw [sumN_more]
          omega
        | _ => simp [enc] at b1
      · refine ⟨_, _, _, ?_, rfl, e'.trans e3⟩
        rw [← hh] at hb
        have hn : nameOf at_ t x = none := by
          cases x with
          | name n =>
            have : Oc.holds at_ t (.name n) = false := by
              simp [enc] at hb
              exact hb
            simp only [nameOf, this]
            rfl
          | _ => rfl
        rw [hfm, hn]
        show _ = ((sumN ((at_.take i).filterMap (nameOf at_ t) ++ []) : Nat) : Int)
        rw [List.append_nil]
    · rintro σ' H' ⟨x3, x4, z, rfl, rfl, e⟩
      refine s_ret (ev_var rfl) fun H2 e2 => k _ H2 (e.trans e2) ?_
      rw [hA.1, List.take_length]
      show V.int ((sumN (at_.filterMap (nameOf at_ t)) : Nat) : Int) = vN (Oc01.namesOf at_ t)
      unfold sumN
      rw [names_eq hg]
      rfl
/-! ### kind_ways -/
theorem dWy_eqv (e e' : Nat × Nat) : PyData.eqv (dWy e) (dWy e') = decide (e = e') := by
  have h : PyData.eqv (dWy e) (dWy e') = (((e.1 : Int) == (e'.1 : Int)) && (((e.2 : Int) == (e'.2 : Int)) && true)) := by simp only [dWy, PyData.eqv, PyData.eqvAll]
  rw [h, Bool.and_true, Bool.eq_iff_iff, Bool.and_eq_true, beq_iff_eq, beq_iff_eq, decide_eq_true_iff]
  constructor
  · rintro ⟨a, b⟩
    exact Prod.ext (by omega) (by omega)
  · rintro rfl
    exact ⟨rfl, rfl⟩
theorem any_wy (e : Nat × Nat) : ∀ l : List (Nat × Nat), ((l.map dWy).any fun z => PyData.eqv z (dWy e)) = l.contains e
  | [] => rfl
  | x :: l => by
    rw [List.map_cons, List.any_cons, any_wy e l, dWy_eqv, List.contains_cons]
    congr 1
    rw [Bool.eq_iff_iff, decide_eq_true_iff, beq_iff_eq]
    exact eq_comm
theorem dWys_shaped (l : List (Nat × Nat)) : SeqAt.shaped (.list (l.map dWy)) = true := by
  have h1 := dWys_depth l
  have h2 : PyData.depth (.list (l.map dWy)) ≤ 64 := by
    simp only [PyData.depth]
    omega
  show (PyData.canLay0 (.list (l.map dWy)) && decide (PyData.depth (.list (l.map dWy)) ≤ 64)) = true
  rw [Bool.and_eq_true]
  exact ⟨by simp only [PyData.canLay0]; exact dWys_lay l, decide_eq_true h2⟩
theorem dWy_shaped (e : Nat × Nat) : SeqAt.shaped (dWy e) = true := by
  show ((dWy e).canLay0 && decide ((dWy e).depth ≤ 64)) = true
  rw [Bool.and_eq_true]
  exact ⟨by simp [dWy, PyData.canLay0, PyData.canLayAll0], decide_eq_true (by simp [dWy, PyData.depth, PyData.depthAll])⟩
theorem rv_notInW {H : Hp} {v : V} {l : Addr} {vs : List V} {e : Nat × Nat} {es : List (Nat × Nat)} (hv : WyP K H v e) (hl : SqL K H l vs) (ha : All2 (WyP K H) vs es) : RV (rNotInD K) v (.ref l) H (.bl (!es.contains e)) := fun H1 x Q q => by
  obtain ⟨p, rfl, hp⟩ := hv
  refine ⟨dWy e, es.map dWy, .tup (ex_t x hp) (.cons (.int _) (.cons (.int _) .nil)), .lst (ex_l x hl) (dpWys (ha.mono fun _ _ z => z.mono x)), dWy_shaped e, dWys_shaped es, ?_⟩
  rw [any_wy]
  exact q H1 (Ex.refl H1)
theorem WyP.upd {H : Hp} {l : Addr} {xs ys : List V} {v : V} {e : Nat × Nat} (hl : H l = some (.lst xs)) (h : WyP K H v e) : WyP K (upd H l (.lst ys)) v e := by
  obtain ⟨p, rfl, q⟩ := h
  exact ⟨p, rfl, sqT_upd hl q⟩
/-- a list of ways -/
def WyL (K : PySem.W.Frag) (H : Hp) (p : Addr) (es : List (Nat × Nat)) : Prop := ∃ vs, H p = some (.lst vs) ∧ All2 (WyP K H) vs es
theorem WyL.mono {H H' : Hp} {p : Addr} {es : List (Nat × Nat)} (e : Ex H H') (h : WyL K H p es) : WyL K H' p es := by
  obtain ⟨vs, h1, h2⟩ := h
  exact ⟨vs, e p _ h1, h2.mono fun _ _ z => z.mono e⟩
def spKW (K : PySem.W.Frag) (CK : Addr) : Sp := fun vs H Q _ => ∃ (a : Addr) (at_ : List C) (t : Nat) (b : Addr) (l : List Nat), vs = [.ref a, vN t, .ref b] ∧ KindsAt K CK H a at_ ∧ Good at_ ∧ at_.length ≤ 10 ∧ SqL K H b (l.map vN) ∧ (∀ u ∈ l, u < 2 ^ at_.length) ∧ Oc.borne at_ l t = true ∧ RetF H Q fun p H' => WyL K H' p (Oc01.once (Oc01.needs at_ l t))
theorem sp_kw {H : Hp} {a : Addr} {at_ : List C} {t : Nat} {b : Addr} {l : List Nat} (hK : KindsAt K CK H a at_) (hg : Good at_) (h10 : at_.length ≤ 10) (hb : SqL K H b (l.map vN)) (hl : ∀ u ∈ l, u < 2 ^ at_.length) (hn : Oc.borne at_ l t = true) :
    SpF (spKW K CK) [.ref a, vN t, .ref b] H fun p H' => WyL K H' p (Oc01.once (Oc01.needs at_ l t)) := fun H1 e Q q E => ⟨a, at_, t, b, l, rfl, hK.mono e, hg, h10, ex_l e hb, hl, hn, q⟩
theorem sc_kind_ways : FnScope ["kinds", "kind", "there", "ways", "k", "atom", "way"] ["kinds", "kind", "there"] (defScope s_kind_ways) := ⟨rfl, rfl, rfl, by decide +kernel, rfl, by decide +kernel, by decide +kernel⟩
theorem foldP_len : ∀ (l m : List (Nat × Nat)), (l.foldl addP m).length ≤ m.length + l.length
  | [], m => by simp
  | c :: l, m => by
    rw [List.foldl_cons]
    have h := foldP_len l (addP m c)
    have h2 : (addP m c).length ≤ m.length + 1 := by
      unfold addP
      split
      · omega
      · simp
    rw [List.length_cons]
    omega
theorem ok_kind_ways {f : Addr} {fd : FuncData} (F : Fun K "kind_ways" "kind_ways" s_kind_ways f fd) (T : Txt K mg) (TK : ClsK K CK) (uD : MUse P w K mg base 2 CK "is_due" ["self", "kind", "k"] (spDue K CK)) (uB : MUse P w K mg base 4 CK "lowest_bearing" ["self", "kind", "k", "there"] (spLBr K CK)) :
    FnOk P w K mg base CX0 5 f fd ["kinds", "kind", "there"] (spKW K CK) := by
  refine F.ok sc_kind_ways (fun vs H Q E h => ?_) (fun cdv A outer s H vs Q E hr h => ⟨_,
    pss_cons (ps_set (i := 3) sc_kind_ways.nd rfl (.inl rfl) (pe_lst pa_nil))
    (pss_cons (ps_for PassesOwn.never rfl (pi_enum rfl T.enumerate (pa_cons (pe_fld (pv 0) rfl) pa_nil)) (pg_tup rfl (pgs_cons (pg_name (i := 4) sc_kind_ways.nd rfl (.inl rfl)) (pgs_cons (pg_name (i := 5) sc_kind_ways.nd rfl (.inl rfl)) pgs_nil)))
      (pss_one (ps_if (pt_val (pe_muse uD (pv 0) TK.cl (hr.mono (by decide)) (pa_cons (pv 1) (pa_cons (pv 4) pa_nil))))
        (pss_cons (ps_set (i := 6) sc_kind_ways.nd rfl (.inl rfl) (pe_tup (pa_cons (pe_ix ix_tup (pv 5) pe_int (fun _ _ => rfl)) (pa_cons (pe_muse uB (pv 0) TK.cl hr (pa_cons (pv 1) (pa_cons (pv 4) (pa_cons (pv 2) pa_nil)))) pa_nil))))
        (pss_one (ps_if (pt_cmpR (op_notInD (by have := hr.un; show A.units + 3 + 65 < cLine; have q : A.units + 3 + 16 * 4 + 200 < cLine := this; omega)) (pv 6) (pv 3) rfl) (pss_one (ps_expr (pe_bm PySem.F.plainAttrs_list PySem.F.slot_list_append PySem.F.type_list_append mt_append (pv 3) (pa_cons (pv 6) pa_nil)))) pss_nil))) pss_nil)))
    (pss_one (ps_ret (pv 3)))), ?_⟩)
  · obtain ⟨a, at_, t, b, l, rfl, _⟩ := h
    rfl
  · obtain ⟨a, at_, t, b, l, rfl, hK, hg, h10, hb, hl, hn, k⟩ := h
    obtain ⟨dx, va, ai, ivs, h1, ⟨la, avs, rfl, hla, hA⟩, h3, h4⟩ := id hK
    refine q_asgL (el_lst ea_nil (by decide)) fun wl H1 hwl0 e1 hw1 => ?_
    refine q_forEnum (K := K) (ev_fld (ev_var rfl) (e1 a _ h1) TK.cl TK.nA kF_atoms) (sq_of (e1 la _ hla)) (fun i σ' H' => ∃ (x4 x5 x6 : Option V) (wvs : List V), σ' = [some (.ref a), some (vN t), some (.ref b), some (.ref wl), x4, x5, x6] ∧ Ex H H' ∧ H' wl = some (.lst wvs) ∧ All2 (WyP K H') wvs (((at_.take i).filterMap (need at_ l t)).foldl addP []))
      (fun H2 e2 => ⟨none, none, none, [], rfl, e1.trans e2, e2 wl _ hw1, .nil⟩) (fun i σ' H' _ ⟨_, _, _, _, _, e, _⟩ => sq_of (e la _ hla)) ?_ ?_
    · rintro i v σ' H' hi ⟨x4, x5, x6, wvs, rfl, e, hwl, hW⟩ H2 e2
      obtain ⟨x, hx, hv⟩ := hA.got hi
      have e' := e.trans e2
      have hK2 := hK.mono e'
      obtain ⟨dx2, va2, ai2, ivs2, h12, _⟩ := id hK2
      have hfm := take_fm (need at_ l t) hx
      refine s_when (et_B (ev_meth (ev_var rfl) h12 (kF_no (by decide +kernel) (by decide +kernel) (by decide +kernel)) (ea_cons (ev_var rfl) (ea_cons (ev_var rfl) ea_nil)) (sp_due (t := t) hK2 hg hx))) (fun hd H3 e3 => ?_) (fun hd H3 e3 => ?_)
      · obtain ⟨u, hu⟩ := need_some hn (List.mem_of_getElem? hx) hd
        have hr0 : (enc x)[1]? = some (roleOf x) := by
          cases x with
          | some r c => rfl
          | all r c => rfl
          | _ => cases hd
        have hnd : need at_ l t x = some (roleOf x, u) := by
          unfold need
          rw [if_pos hd, hu]
          rfl
        have e3' := e'.trans e3
        have hK3 := hK.mono e3'
        obtain ⟨dx3, va3, ai3, ivs3, h13, _⟩ := id hK3
        refine q_asgP (Φ := fun v H' => WyP K H' v (roleOf x, u)) (fun H4 e4 Q' q' => (eu_tup (vs := [vN (roleOf x), vN u]) (ea_cons (ev_atI (hv.mono e3') (ev_var rfl) ev_c (n := 1) rfl hr0) (ea_cons (ev_is (ev_meth (ev_var rfl) h13 (kF_no (by decide +kernel) (by decide +kernel) (by decide +kernel)) (ea_cons (ev_var rfl) (ea_cons (ev_var rfl) (ea_cons (ev_var rfl) ea_nil))) (sp_lbr (t := t) hK3 hg hx (due_role hd) (ex_l e3' hb) hl)) (show V.int (orNo (l.find? (bo at_ t x))) = vN u by rw [hu]; rfl)) ea_nil)) (by show 2 ≤ 100000; decide)) H4 e4 Q' fun p H5 hp e5 h5 => q' _ H5 e5 ⟨p, rfl, st_of h5⟩) fun wv H4 e4 hwv => ?_
        have hwl4 := (e2.trans (e3.trans e4)) wl _ hwl
        have hW4 := hW.mono fun _ _ z => WyP.mono (e2.trans (e3.trans e4)) z
        refine s_when (et_test (ev_op (ev_var rfl) (ev_var rfl) (rv_notInW hwv (sq_of hwl4) hW4))) (fun hb5 H5 e5 => ?_) (fun hb5 H5 e5 => ?_)
        · have hlen : wvs.length < 100000 := by
            rw [hW.1]
            have q1 := foldP_len ((at_.take i).filterMap (need at_ l t)) []
            have q2 := fm_len (need at_ l t) (at_.take i)
            have q3 : (at_.take i).length ≤ at_.length := List.length_take_le' _ _
            simp only [List.length_nil] at q1
            omega
          have hwl5 := e5 wl _ hwl4
          refine s_app hwl5 (ev_var rfl) (ev_var rfl) hlen fun H6 e6 => ?_
          have hwl6 := e6 wl _ hwl5
          refine ⟨_, _, _, wvs ++ [wv], rfl, Ex.mut (e3'.trans (e4.trans (e5.trans e6))) hwl0, upd_same, ?_⟩
          have hno : (((at_.take i).filterMap (need at_ l t)).foldl addP []).contains (roleOf x, u) = false := by simpa using hb5
          rw [hfm, hnd, List.foldl_append]
          show All2 _ _ (addP _ (roleOf x, u))
          rw [show addP (((at_.take i).filterMap (need at_ l t)).foldl addP []) (roleOf x, u) = ((at_.take i).filterMap (need at_ l t)).foldl addP [] ++ [(roleOf x, u)] from if_neg (by rw [hno]; exact Bool.false_ne_true)]
          exact (hW4.mono fun _ _ z => WyP.upd hwl6 (z.mono (e5.trans e6))).snoc (WyP.upd hwl6 (hwv.mono (e5.trans e6)))
        · refine ⟨_, _, _, wvs, rfl, e3'.trans (e4.trans e5), e5 wl _ hwl4, ?_⟩
          have hyes : (((at_.take i).filterMap (need at_ l t)).foldl addP []).contains (roleOf x, u) = true := by simpa using hb5
          rw [hfm, hnd, List.foldl_append]
          show All2 _ _ (addP _ (roleOf x, u))
          rw [show addP (((at_.take i).filterMap (need at_ l t)).foldl addP []) (roleOf x, u) = ((at_.take i).filterMap (need at_ l t)).foldl addP [] from if_pos hyes]
          exact hW4.mono fun _ _ z => z.mono e5
      · have hnd : need at_ l t x = none := by
          unfold need
          rw [if_neg (by rw [hd]; exact Bool.false_ne_true)]
        refine ⟨_, _, _, wvs, rfl, e'.trans e3, (e2.trans e3) wl _ hwl, ?_⟩
        rw [hfm, hnd]
        show All2 _ _ ((_ ++ []).foldl addP [])
        rw [List.append_nil]
        exact hW.mono fun _ _ z => z.mono (e2.trans e3)
    · rintro σ' H' ⟨x4, x5, x6, wvs, rfl, e, hwl, hW⟩
      rw [hA.1, List.take_length, ← needs_eq, ← once_eq] at hW
      exact s_ret (ev_var rfl) fun H3 e3 => k wl H3 hwl0 (e.trans e3) ⟨wvs, e3 wl _ hwl, hW.mono fun _ _ z => z.mono e3⟩
end
end Bk

namespace Bk
open PySem PySem.Spec PyProof.Rows L2 Evl LamX NdefX
open Oc (C Axiom)
open Oc01 (Thing)
theorem foldK_pre : ∀ (l : List (Nat × Nat)) (w : List Nat), ∃ r, l.foldl addK w = w ++ r
  | [], w => ⟨[], by simp⟩
  | x :: l, w => by
    rw [List.foldl_cons]
    obtain ⟨r, h⟩ := foldK_pre l (addK w x)
    rw [h]
    unfold addK
    split
    · exact ⟨r, rfl⟩
    · exact ⟨[x.2] ++ r, by rw [List.append_assoc]⟩
/-- where a type stands among the things -/
def pl (W : List Nat) (y : Nat) : Nat := (W.idxOf? y).getD 0
theorem idxN {W : List Nat} {y : Nat} (h : y ∈ W) : ∃ j, W.idxOf? y = some j ∧ W[j]? = some y ∧ ∀ m : Nat, m < j → W[m]? ≠ some y := by
  cases q : W.idxOf? y with
  | none =>
    rw [List.idxOf?_eq_none_iff] at q
    exact absurd h q
  | some j =>
    have q' : W.findIdx? (· == y) = some j := q
    obtain ⟨hj, h1, h2⟩ := List.findIdx?_eq_some_iff_getElem.mp q'
    refine ⟨j, rfl, ?_, fun m hm e => ?_⟩
    · rw [List.getElem?_eq_getElem hj]
      have : W[j] = y := by simpa using h1
      rw [this]
    · obtain ⟨hm', e'⟩ := List.getElem?_eq_some_iff.mp e
      have := h2 m hm
      rw [e'] at this
      simp at this
theorem pl_inj {W : List Nat} {x y : Nat} (hx : x ∈ W) (hy : y ∈ W) (h : pl W x = pl W y) : x = y := by
  obtain ⟨i, h1, h2, _⟩ := idxN hx
  obtain ⟨j, h3, h4, _⟩ := idxN hy
  unfold pl at h
  rw [h1, h3] at h
  have : i = j := h
  subst this
  rw [h2] at h4
  exact Option.some.inj h4
/-- a thing of the told model -/
def tTh (at_ : List C) (l W : List Nat) (u : Nat) : Thing := ⟨Oc01.namesOf at_ u, (Oc01.once (Oc01.needs at_ l u)).map fun x => (x.1, pl W x.2)⟩
theorem tTh_eq {at_ : List C} {l W : List Nat} {u : Nat} (h : ∀ x ∈ Oc01.needs at_ l u, x.2 ∈ W) : tTh at_ l W u = ⟨Oc01.namesOf at_ u, Oc01.once ((Oc01.needs at_ l u).filterMap fun x => (W.idxOf? x.2).map fun i => (x.1, i))⟩ := by
  have e : ∀ L : List (Nat × Nat), (∀ x ∈ L, x.2 ∈ W) → (L.filterMap fun x => (W.idxOf? x.2).map fun i => (x.1, i)) = L.map fun x => (x.1, pl W x.2) := by
    intro L
    induction L with
    | nil => intro _; rfl
    | cons x L ih =>
      intro hL
      obtain ⟨j, hj, _⟩ := idxN (hL x List.mem_cons_self)
      rw [List.filterMap_cons, hj, List.map_cons, ih fun y hy => hL y (List.mem_cons_of_mem _ hy)]
      show (x.1, j) :: _ = (x.1, pl W x.2) :: _
      unfold pl
      rw [hj]
      rfl
  unfold tTh
  rw [e _ h, once_eq, once_eq]
  congr 1
  exact (once_map (g := pl W) (Oc01.needs at_ l u) [] fun x hx y hy q => pl_inj (h x (by simpa using hx)) (h y (by simpa using hy)) q).symm
/-- the told model, from a type on -/
def told1 (at_ : List C) (l : List Nat) (t : Nat) : List Thing := let W := Oc01.gather at_ l (l.length + 1) 0 [t]
  W.map fun u => ⟨Oc01.namesOf at_ u, Oc01.once ((Oc01.needs at_ l u).filterMap fun x => (W.idxOf? x.2).map fun i => (x.1, i))⟩
section
variable {K : PySem.W.Frag} {σ : L2.St} {H : Hp} {ta tb te tl tn : TE} {D : Ends} {tu tz : TS}
theorem ev_indexN {a : Addr} {W : List Nat} {y : Nat} (ha : Ev ta σ H (.ref a)) (h : SqL K H a (W.map vN)) (hb : Ev tb σ H (vN y)) (hy : y ∈ W) : Ev (tBM K "list" (rIndex K) ta (tCons tb tNil)) σ H (vN (pl W y)) := fun H1 e Q q => by
  obtain ⟨j, h1, h2, h3⟩ := idxN hy
  refine ha H1 e _ fun H2 e2 => ⟨Or.inl ⟨rfl, _, ex_l (e.trans e2) h⟩, hb H2 (e.trans e2) _ fun H3 e3 => ⟨a, W.map vN, vN y, j, vN y, rfl, rfl, ex_l ((e.trans e2).trans e3) h, rfl, flat_nat W, ?_, ?_, fun m z hm hz => ?_, ?_⟩⟩
  · rw [List.getElem?_map, h2]
    rfl
  · show ((y : Int) == (y : Int)) = true
    exact beq_self_eq_true _
  · rw [List.getElem?_map] at hz
    obtain ⟨u, hu, rfl⟩ := Option.map_eq_some_iff.mp hz
    show ((u : Int) == (y : Int)) = false
    refine beq_eq_false_iff_ne.mpr fun z => h3 m hm ?_
    have : u = y := by omega
    rw [← this]
    exact hu
  · have : pl W y = j := by
      unfold pl
      rw [h1]
      rfl
    rw [this] at q
    exact q H3 (e2.trans e3)
theorem s_appP {l : Addr} {xs : List V} {Φ : V → Hp → Prop} (hl : H l = some (.lst xs)) (ha : Ev ta σ H (.ref l)) (h : EvP te σ H Φ) (hz : xs.length < 100000) (k : ∀ v H1, Ex H H1 → Φ v H1 → D.nx σ (upd H1 l (.lst (xs ++ [v])))) :
    tDrop (tBM K "list" rAppend ta (tCons te tNil)) D σ H := ha H (Ex.refl H) _ fun H1 e1 =>
  ⟨Or.inl ⟨rfl, xs, sq_of (e1 l _ hl)⟩, h H1 e1 _ fun v H2 e2 hv => ⟨l, xs, v, rfl, rfl, e2 l _ (e1 l _ hl), sz_lt hz, k v H2 (e1.trans e2) hv⟩⟩
/-- a thing made on the spot: its ways are a list that was not there -/
def ThN (K : PySem.W.Frag) (H : Hp) (th : Thing) : V → Hp → Prop := fun v H1 => ∃ p b wvs, v = .ref p ∧ H1 p = some (.tup [vN th.names, .ref b]) ∧ H b = none ∧ H1 b = some (.lst wvs) ∧ All2 (WyP K H1) wvs th.to
theorem evp_thing {th : Thing} (h1 : Ev tn σ H (vN th.names)) (h2 : EvM tl σ H fun H3 v => ∃ b zs, v = .ref b ∧ H3 b = some (.lst zs) ∧ All2 (fun v x => ∃ p, v = .ref p ∧ H3 p = some (.tup [vN x.1, vN x.2])) zs th.to) : EvP (tTup (tCons tn (tCons tl tNil))) σ H (ThN K H th) := fun H1 e Q q =>
  h1 H1 e _ fun H2 e2 => h2 H2 (e.trans e2) _ fun v H3 e3 r => by
    obtain ⟨b, zs, rfl, hb, hZ⟩ := r H3 fun _ _ _ z => z
    have hb2 : H2 b = none := by
      obtain ⟨b', zs', hbb, hb', _⟩ := r (fun x => if H2 x = none then H3 x else none) fun x o hx ho => by rw [if_pos hx]; exact ho
      cases hbb
      by_cases z : H2 b = none
      · exact z
      · have hb'' : (if H2 b = none then H3 b else none) = some (.lst zs') := hb'
        rw [if_neg z] at hb''
        cases hb''
    refine ⟨sz_of (by show 2 ≤ 100000; decide), fun p hp => q _ _ ((e2.trans e3).trans (Ex.new hp)) ⟨p, b, zs, rfl, upd_same, fresh_back (e.trans e2) hb2, ?_, hZ.mono fun v x z => ?_⟩⟩
    · rw [upd_ne (ne_of_none hb hp)]
      exact hb
    · obtain ⟨q, rfl, hq⟩ := z
      refine ⟨q, rfl, st_of ?_⟩
      rw [upd_ne (ne_of_none hq hp)]
      exact hq
theorem q_forZip {a b : Addr} {xs ys : List V} {n : Nat} {t1 t2 : TE} {j1 j2 : Nat} (hn : n = min xs.length ys.length) (h1 : Ev t1 σ H (.ref a)) (h2 : Ev t2 σ H (.ref b)) (hx : SqL K H a xs) (hy : SqL K H b ys) (Pv : Nat → L2.St → Hp → Prop) (h0 : ∀ H1, Ex H H1 → Pv 0 σ H1) (hl : ∀ i σ' H', i ≤ n → Pv i σ' H' → SqL K H' a xs ∧ SqL K H' b ys)
    (hs : ∀ (i : Nat) x y σ' H', xs[i]? = some x → ys[i]? = some y → Pv i σ' H' → ∀ H2, Ex H' H2 → tu { D with nx := Pv (i + 1), ct := Pv (i + 1), bk := tz D } ((σ'.set j1 (some x)).set j2 (some y)) H2) (hd : ∀ σ' H', Pv n σ' H' → tz D σ' H') :
    tSeq (tFor (iZip K (tCons t1 (tCons t2 tNil))) (gTup K 2 (gCons (gName j1) (gCons (gName j2) gNil))) tu) tz D σ H :=
  h1 H (Ex.refl H) _ fun H1 e1 => h2 H1 e1 _ fun H2 e2 => ⟨a, b, xs, ys, rfl, ex_l (e1.trans e2) hx, ex_l (e1.trans e2) hy, for_it (walk_zip (K := K) (a := a) (b := b) hn) (D := { D with nx := tz D }) Pv (h0 H2 (e1.trans e2)) hl (fun i v σ' H' H3 hi p yy => by
    obtain ⟨T, x1, y1, rfl, hT, rfl, g1, g2⟩ := yy
    exact ⟨T, _, rfl, st_of upd_same, rfl, _, _, rfl, _, _, rfl, rfl, hs i x1 y1 σ' H' g1 g2 p _ (Ex.new hT)⟩) hd⟩
end
/-- a list of ways that is neither of two lists -/
def LdX (K : PySem.W.Frag) (H : Hp) (S : List Addr) (v : V) (es : List (Nat × Nat)) : Prop := ∃ b, v = .ref b ∧ b ∉ S ∧ WyL K H b es
/-- a thing whose ways are another list than that at l -/
def ThX (K : PySem.W.Frag) (H : Hp) (l : Addr) (v : V) (th : Thing) : Prop := ∃ p b wvs, v = .ref p ∧ H p = some (.tup [vN th.names, .ref b]) ∧ b ≠ l ∧ H b = some (.lst wvs) ∧ All2 (WyP K H) wvs th.to
section
variable {K : PySem.W.Frag} {H H' : Hp}
theorem LdX.mono {S : List Addr} {v : V} {es : List (Nat × Nat)} (e : Ex H H') (h : LdX K H S v es) : LdX K H' S v es := by
  obtain ⟨b, rfl, h1, h2⟩ := h
  exact ⟨b, rfl, h1, h2.mono e⟩
theorem LdX.upd {S : List Addr} {v : V} {es : List (Nat × Nat)} {l : Addr} {xs ys : List V} (hl : H l = some (.lst xs)) (hs : l ∈ S) (h : LdX K H S v es) : LdX K (upd H l (.lst ys)) S v es := by
  obtain ⟨b, rfl, h1, vs, h2, h3⟩ := h
  exact ⟨b, rfl, h1, vs, by rw [upd_ne fun z => h1 (by rw [z]; exact hs)]; exact h2, h3.mono fun _ _ z => z.upd hl⟩
theorem ThX.mono {l : Addr} {v : V} {th : Thing} (e : Ex H H') (h : ThX K H l v th) : ThX K H' l v th := by
  obtain ⟨p, b, wvs, rfl, h1, h2, h3, h4⟩ := h
  exact ⟨p, b, wvs, rfl, e p _ h1, h2, e b _ h3, h4.mono fun _ _ z => z.mono e⟩
theorem ThX.upd {l : Addr} {v : V} {th : Thing} {xs ys : List V} (hl : H l = some (.lst xs)) (h : ThX K H l v th) : ThX K (upd H l (.lst ys)) l v th := by
  obtain ⟨p, b, wvs, rfl, h1, h2, h3, h4⟩ := h
  exact ⟨p, b, wvs, rfl, by rw [upd_ne (ne_of h1 hl (by intro z; cases z))]; exact h1, h2, by rw [upd_ne h2]; exact h3, h4.mono fun _ _ z => z.upd hl⟩
theorem ThX.thp {l : Addr} {v : V} {th : Thing} (h : ThX K H l v th) : ThP K H v th := by
  obtain ⟨p, b, wvs, rfl, h1, h2, h3, h4⟩ := h
  exact ⟨p, b, wvs, rfl, st_of h1, sq_of h3, h4⟩
end
section
variable {P : Program} {w : World} {K : PySem.W.Frag} {mg : Str → Option Value} {base : Heap} {CK : Addr} {Z : List NTab}
def spTM (K : PySem.W.Frag) (Z : List NTab) : Sp := fun vs H Q _ => ∃ (va : V) (b : Addr) (t : Nat) (at_ : List C) (l : List Nat), vs = [va, .ref b, vN t] ∧ TabsN Z H ∧ Row K H va at_ ∧ Good at_ ∧ at_.length ≤ 5 ∧ (∀ x ∈ at_, (enc x).length ≤ 1000) ∧ SqL K H b (l.map vN) ∧ (∀ u ∈ l, u < 2 ^ at_.length) ∧ l.length ≤ 100 ∧ (∀ u ∈ l, Oc.borne at_ l u = true) ∧ t ∈ l ∧
  RetW Z H Q (NewA H fun p H' => ThL K H' (.ref p) (told1 at_ l t))
theorem sp_tm {H : Hp} {va : V} {b : Addr} {t : Nat} {at_ : List C} {l : List Nat} (tb : TabsN Z H) (ha : Row K H va at_) (hg : Good at_) (h5 : at_.length ≤ 5) (hc : ∀ x ∈ at_, (enc x).length ≤ 1000) (hb : SqL K H b (l.map vN)) (hl : ∀ u ∈ l, u < 2 ^ at_.length) (hz : l.length ≤ 100) (hf : ∀ u ∈ l, Oc.borne at_ l u = true) (ht : t ∈ l) :
    SpW Z (spTM K Z) [va, .ref b, vN t] H (NewA H fun p H' => ThL K H' (.ref p) (told1 at_ l t)) := fun Q E q => ⟨va, b, t, at_, l, rfl, tb, ha, hg, h5, hc, hb, hl, hz, hf, ht, q⟩
abbrev nToldModel : List Str := ["atoms", "there", "first", "kinds", "order", "leading", "ways", "way", "things", "kind"]
theorem sc_told_model : FnScope nToldModel ["atoms", "there", "first"] (defScope s_told_model) := ⟨rfl, rfl, rfl, by decide +kernel, rfl, by decide +kernel, by decide +kernel⟩
theorem ok_told_model {f : Addr} {fd : FuncData} (F : Fun K "told_model" "told_model" s_told_model f fd) (T : Txt K mg) (TB : TxtB mg) (TK : ClsK K CK) (uMK : MkUse P w K mg base 8 "Kinds" CK ["self", "atoms"] (spKI K CK Z)) (uKW : Use P w K mg base 5 "kind_ways" ["kinds", "kind", "there"] (spKW K CK)) (uNO : Use P w K mg base 2 "names_of" ["kind", "atoms"] (spNO K)) :
    FnOk P w K mg base CX0 10 f fd ["atoms", "there", "first"] (spTM K Z) := by
  refine F.ok sc_told_model (fun vs H Q E h => ?_) (fun cdv A outer s H vs Q E hr h => ⟨_,
    pss_cons (ps_set (i := 3) sc_told_model.nd rfl (.inl rfl) (pe_mkuse uMK hr (pa_cons (pv 0) pa_nil)))
    (pss_cons (ps_set (i := 4) sc_told_model.nd rfl (.inr rfl) (pe_lst (pa_cons (pv 2) pa_nil)))
    (pss_cons (ps_set (i := 5) sc_told_model.nd rfl (.inl rfl) (pe_lst pa_nil))
    (pss_cons (ps_while PassesOwn.never (pt_cmpR op_lt (pe_len T.len (pv 5)) (pe_len T.len (pv 4)) (nomark _))
      (pss_cons (ps_set (i := 6) sc_told_model.nd rfl (.inl rfl) (pe_use uKW (hr.mono (by decide)) (pa_cons (pv 3) (pa_cons (pe_ix ix_list (pv 4) (pe_len T.len (pv 5)) (fun _ _ => rfl)) (pa_cons (pv 1) pa_nil)))))
      (pss_cons (ps_for PassesOwn.never rfl (pi_list (pv 6)) (pg_name (i := 7) sc_told_model.nd rfl (.inl rfl))
        (pss_one (ps_if (pt_cmpR op_notIn_seq (pe_ix ix_tup (pv 7) pe_int (fun _ _ => rfl)) (pv 4) rfl) (pss_one (ps_expr (pe_bm PySem.F.plainAttrs_list PySem.F.slot_list_append PySem.F.type_list_append mt_append (pv 4) (pa_cons (pe_ix ix_tup (pv 7) pe_int (fun _ _ => rfl)) pa_nil)))) pss_nil)))
      (pss_one (ps_expr (pe_bm PySem.F.plainAttrs_list PySem.F.slot_list_append PySem.F.type_list_append mt_append (pv 5) (pa_cons (pv 6) pa_nil)))))))
    (pss_cons (ps_set (i := 8) sc_told_model.nd rfl (.inl rfl) (pe_lst pa_nil))
    (pss_cons (ps_for PassesOwn.never rfl (pi_zip rfl TB.zip (pa_cons (pv 4) (pa_cons (pv 5) pa_nil))) (pg_tup rfl (pgs_cons (pg_name (i := 9) sc_told_model.nd rfl (.inl rfl)) (pgs_cons (pg_name (i := 6) sc_told_model.nd rfl (.inl rfl)) pgs_nil)))
      (pss_one (ps_expr (pe_bm PySem.F.plainAttrs_list PySem.F.slot_list_append PySem.F.type_list_append mt_append (pv 8) (pa_cons (pe_tup (pa_cons (pe_use uNO (hr.mono (by decide)) (pa_cons (pv 9) (pa_cons (pv 0) pa_nil))) (pa_cons
        (pe_lc (own := [("way", 7)]) (g := gName 7) (tt := tYes) (te := tTup (tCons (tOp (rIxT K) (tVar 7) (tC (.int 0))) (tCons (tBM K "list" (rIndex K) (tVar 4) (tCons (tOp (rIxT K) (tVar 7) (tC (.int 1))) tNil)) tNil))) rfl sc_told_model.nd (pi_list (pv 6)) (blkOk_by (own := [("way", 7)]) (N := nToldModel) (sc := defScope s_told_model) (by decide +kernel)) (fun _ _ _ _ _ => pg_name (i := 7) sc_told_model.nd rfl (Or.inl rfl)) (fun _ _ _ _ _ => pts_nil)
          (fun _ _ _ _ _ => pe_tup (pa_cons (pe_ix ix_tup (pv 7) pe_int (fun _ _ => rfl)) (pa_cons (pe_bm PySem.F.plainAttrs_list PySem.F.slot_list_index PySem.F.type_list_index mt_index (pv 4) (pa_cons (pe_ix ix_tup (pv 7) pe_int (fun _ _ => rfl)) pa_nil)) pa_nil)))) pa_nil))) pa_nil)))))
    (pss_one (ps_ret (pv 8)))))))), ?_⟩)
  · obtain ⟨va, b, t, at_, l, rfl, _⟩ := h
    rfl
  · obtain ⟨va, b, t, at_, l, rfl, tb, hR, hg, h5, hc, hb, hl, hz, hf, ht, k⟩ := h
    have hp5 := pow_le5 h5
    refine q_asgW (ew_kinds (Z := Z) (CK := CK) tb (ev_var rfl) hR hg (by omega) hc) fun kv1 H0 w0 hkv => ?_
    obtain ⟨kp, rfl, hk0, hK⟩ := hkv
    have hR0 := hR.w w0
    have hb0 : SqL K H0 b (l.map vN) := wx_l w0 hb
    refine q_asgL (el_lst (ea_cons (ev_var rfl) ea_nil) (by show 1 ≤ 100000; decide)) fun oa H1 hoa0 e1 ho1 => ?_
    refine q_asgL (el_lst ea_nil (by decide)) fun la H2 hla1 e2 hl2 => ?_
    have hla0 : H0 la = none := fresh_back e1 hla1
    have hne : oa ≠ la := fun z => by
      rw [← z, ho1] at hla1
      cases hla1
    generalize hW : Oc01.gather at_ l (l.length + 1) 0 [t] = W
    refine q_while (fun mm σ' H' => ∃ (ws : List Nat) (i : Nat) (lvs : List V) (x6 x7 : Option V), σ' = [some va, some (.ref b), some (vN t), some (.ref kp), some (.ref oa), some (.ref la), x6, x7, none, none] ∧ Ex H0 H' ∧ H' oa = some (.lst (ws.map vN)) ∧ H' la = some (.lst lvs) ∧ All2 (LdX K H' [oa, la]) lvs ((ws.take i).map fun u => Oc01.once (Oc01.needs at_ l u)) ∧
        i ≤ ws.length ∧ ws.Nodup ∧ (∀ u ∈ ws, u ∈ l) ∧ Oc01.gather at_ l (l.length + 1 - i) i ws = W ∧ (∀ u ∈ ws.take i, ∀ x ∈ Oc01.needs at_ l u, x.2 ∈ ws) ∧ mm = l.length + 1 - i) _
      ⟨[t], 0, [], none, none, rfl, e1.trans e2, e2 oa _ ho1, hl2, .nil, Nat.zero_le _, by simp, fun u hu => by rw [List.mem_singleton.mp hu]; exact ht, hW, fun u hu => by simp at hu, rfl⟩ ?_
    rintro mm σ' H3 ⟨ws, i, lvs, x6, x7, rfl, e3, ho3, hl3, hL3, hi, hnd, hsub, hgW, hcl, rfl⟩
    have hwl : ws.length ≤ l.length := sub_len ws l hnd hsub
    have hlv : lvs.length = i := by
      rw [hL3.1, List.length_map, List.length_take, Nat.min_eq_left hi]
    refine ⟨_, et_is (et_test (ev_op (ev_len (ev_var rfl) (sq_of hl3)) (ev_len (ev_var rfl) (sq_of ho3)) rv_I0)) (show decide ((lvs.length : Int) < ((ws.map vN).length : Int)) = decide (i < ws.length) by rw [hlv, List.length_map, decide_eq_decide]; omega), fun hb4 H4 e4 => ?_, fun hb4 H4 e4 => ?_⟩
    · have hil := of_decide_eq_true hb4
      obtain ⟨u, hu⟩ : ∃ u, ws[i]? = some u := ⟨_, List.getElem?_eq_getElem hil⟩
      have hul : u ∈ l := hsub u (List.mem_of_getElem? hu)
      have e04 := e3.trans e4
      have ho4 := e4 oa _ ho3
      have hl4 := e4 la _ hl3
      refine ⟨_, fun σ2 H2 n => n, ?_⟩
      refine q_asgF (ef_call (ea_cons (ev_var rfl) (ea_cons (ev_op (ev_var rfl) (ev_is (ev_len (ev_var rfl) (sq_of hl4)) (show V.int (lvs.length : Int) = vN i by rw [hlv]; rfl)) (rv_ixL (sq_of ho4) (atN hu))) (ea_cons (ev_var rfl) ea_nil))) (sp_kw (t := u) (hK.mono e04) hg (by omega) (ex_l e04 hb0) hl (hf u hul))) fun wb H5 hwb0 e5 hWy => ?_
      obtain ⟨wvs, hwb5, hWA⟩ := id hWy
      have e05 := e04.trans e5
      have ho5 := e5 oa _ ho4
      have hl5 := e5 la _ hl4
      have hwo : wb ≠ oa := fun z => by
        rw [z, ho4] at hwb0
        cases hwb0
      have hwla : wb ≠ la := fun z => by
        rw [z, hl4] at hwb0
        cases hwb0
      have hL5 : All2 (LdX K H5 [oa, la]) lvs ((ws.take i).map fun u => Oc01.once (Oc01.needs at_ l u)) := hL3.mono fun _ _ z => z.mono (e4.trans e5)
      refine q_forLn (K := K) (ev_var rfl) (sq_of hwb5) (fun j σ' H' => ∃ (x7 : Option V), σ' = [some va, some (.ref b), some (vN t), some (.ref kp), some (.ref oa), some (.ref la), some (.ref wb), x7, none, none] ∧ Ex H0 H' ∧ H' oa = some (.lst ((((Oc01.once (Oc01.needs at_ l u)).take j).foldl addK ws).map vN)) ∧ H' la = some (.lst lvs) ∧ H' wb = some (.lst wvs) ∧ All2 (WyP K H') wvs (Oc01.once (Oc01.needs at_ l u)) ∧ All2 (LdX K H' [oa, la]) lvs ((ws.take i).map fun u => Oc01.once (Oc01.needs at_ l u)))
        (fun H6 e6 => ⟨x7, rfl, e05.trans e6, e6 oa _ ho5, e6 la _ hl5, e6 wb _ hwb5, hWA.mono fun _ _ z => z.mono e6, hL5.mono fun _ _ z => z.mono e6⟩) (fun j σ' H' _ ⟨_, _, _, _, _, h, _⟩ => sq_of h) ?_ ?_
      · rintro j v σ' H6 hj ⟨x7, rfl, e06, ho6, hl6, hwb6, hWA6, hL6⟩
        obtain ⟨y, hy, q, rfl, hq⟩ := hWA6.got hj
        have hym : y ∈ Oc01.needs at_ l u := by
          have := List.mem_of_getElem? hy
          rw [once_eq, mem_foldP] at this
          rcases this with z | z
          · cases z
          · exact z
        have htk := take_more hy
        refine s_when (et_is (et_test (ev_op (ev_op (ev_var rfl) ev_c (rv_ixT hq (atI_nat (j := 1) rfl))) (ev_var rfl) (rv_niL (sq_of ho6) rfl (flat_nat _)))) (show (!inV (vN y.2) ((((Oc01.once (Oc01.needs at_ l u)).take j).foldl addK ws).map vN)) = !(((Oc01.once (Oc01.needs at_ l u)).take j).foldl addK ws).contains y.2 by rw [inV_nat])) (fun hb7 H7 e7 => ?_) (fun hb7 H7 e7 => ?_)
        · have hno : (((Oc01.once (Oc01.needs at_ l u)).take j).foldl addK ws).contains y.2 = false := by simpa using hb7
          have hsz : ((((Oc01.once (Oc01.needs at_ l u)).take j).foldl addK ws).map vN).length < 100000 := by
            rw [List.length_map]
            have := sub_len (((Oc01.once (Oc01.needs at_ l u)).take j).foldl addK ws) l (nodup_foldK _ _ hnd) fun z hz2 => by
              rcases (mem_foldK _ _ _).mp hz2 with q1 | ⟨x, hx, rfl⟩
              · exact hsub z q1
              · have hx2 := List.mem_of_mem_take hx
                rw [once_eq, mem_foldP] at hx2
                rcases hx2 with z2 | z2
                · cases z2
                · exact needs_in z2
            omega
          refine s_app (e7 oa _ ho6) (ev_var rfl) (ev_op (ev_var rfl) ev_c (rv_ixT (ex_t e7 hq) (atI_nat (j := 1) rfl))) hsz fun H8 e8 => ?_
          have ho8 := (e7.trans e8) oa _ ho6
          refine ⟨_, rfl, Ex.mut (e06.trans (e7.trans e8)) hoa0, ?_, ?_, ?_, hWA6.mono fun _ _ z => WyP.upd ho8 (z.mono (e7.trans e8)), hL6.mono fun _ _ z => LdX.upd ho8 (by simp) (z.mono (e7.trans e8))⟩
          · rw [upd_same, htk, List.foldl_append]
            show _ = some (HO.lst ((addK (((Oc01.once (Oc01.needs at_ l u)).take j).foldl addK ws) y).map vN))
            rw [show addK (((Oc01.once (Oc01.needs at_ l u)).take j).foldl addK ws) y = ((Oc01.once (Oc01.needs at_ l u)).take j).foldl addK ws ++ [y.2] from if_neg (by rw [hno]; exact Bool.false_ne_true), List.map_append]
            rfl
          · rw [upd_ne (Ne.symm hne)]
            exact (e7.trans e8) la _ hl6
          · rw [upd_ne hwo]
            exact (e7.trans e8) wb _ hwb6
        · have hyes : (((Oc01.once (Oc01.needs at_ l u)).take j).foldl addK ws).contains y.2 = true := by simpa using hb7
          refine ⟨_, rfl, e06.trans e7, ?_, e7 la _ hl6, e7 wb _ hwb6, hWA6.mono fun _ _ z => z.mono e7, hL6.mono fun _ _ z => z.mono e7⟩
          rw [htk, List.foldl_append]
          show _ = some (HO.lst ((addK (((Oc01.once (Oc01.needs at_ l u)).take j).foldl addK ws) y).map vN))
          rw [show addK (((Oc01.once (Oc01.needs at_ l u)).take j).foldl addK ws) y = ((Oc01.once (Oc01.needs at_ l u)).take j).foldl addK ws from if_pos hyes]
          exact e7 oa _ ho6
      · rintro σ' H6 ⟨x7, rfl, e06, ho6, hl6, hwb6, hWA6, hL6⟩
        rw [hWA.1, List.take_length, foldK_one] at ho6
        refine s_app hl6 (ev_var rfl) (ev_var rfl) (by omega) fun H7 e7 => ?_
        have hl7 := e7 la _ hl6
        obtain ⟨r, hr2⟩ := foldK_pre (Oc01.needs at_ l u) ws
        have hsub' : ∀ z ∈ (Oc01.needs at_ l u).foldl addK ws, z ∈ l := fun z hz2 => by
          rcases (mem_foldK _ _ _).mp hz2 with q1 | ⟨x, hx, rfl⟩
          · exact hsub z q1
          · exact needs_in hx
        have htake : ((Oc01.needs at_ l u).foldl addK ws).take (i + 1) = ws.take i ++ [u] := by
          rw [hr2, List.take_append_of_le_length (by omega), take_more hu]
        refine ⟨_, ?_, (Oc01.needs at_ l u).foldl addK ws, i + 1, lvs ++ [.ref wb], _, _, rfl, Ex.mut (e06.trans e7) hla0, ?_, upd_same, ?_, ?_, nodup_foldK _ _ hnd, hsub', ?_, ?_, rfl⟩
        · omega
        · rw [upd_ne hne]
          exact e7 oa _ ho6
        · rw [htake, List.map_append]
          refine (hL6.mono fun _ _ z => LdX.upd hl7 (by simp) (z.mono e7)).snoc ⟨wb, rfl, by simp [hwo, hwla], wvs, ?_, ?_⟩
          · rw [upd_ne hwla]
            exact e7 wb _ hwb6
          · exact hWA6.mono fun _ _ z => WyP.upd hl7 (z.mono e7)
        · rw [hr2, List.length_append]
          omega
        · rw [← hgW, show l.length + 1 - i = (l.length + 1 - (i + 1)) + 1 by omega, gather_succ, hu]
        · rw [htake]
          intro z hz2 x hx
          rcases List.mem_append.mp hz2 with q1 | q1
          · exact (mem_foldK _ _ _).mpr (.inl (hcl z q1 x hx))
          · have : z = u := by simpa using q1
            subst this
            exact (mem_foldK _ _ _).mpr (.inr ⟨x, hx, rfl⟩)
    · have hil : ws.length = i := by
        have := of_decide_eq_false hb4
        omega
      subst hil
      rw [gather_end (Nat.le_refl _)] at hgW
      subst hgW
      rw [List.take_length] at hL3 hcl
      have e04 := e3.trans e4
      refine q_asgL (el_lst ea_nil (by decide)) fun ta H5 hta0 e5 ht5 => ?_
      have ho5 := (e4.trans e5) oa _ ho3
      have hl5 := (e4.trans e5) la _ hl3
      have hlen : lvs.length = ws.length := hlv
      refine q_forZip (K := K) (xs := ws.map vN) (ys := lvs) (n := ws.length) (by rw [List.length_map, hlen, Nat.min_self]) (ev_var rfl) (ev_var rfl) (sq_of ho5) (sq_of hl5) (fun i σ' H' => ∃ (x6 x7 x9 : Option V) (tvs : List V), σ' = [some va, some (.ref b), some (vN t), some (.ref kp), some (.ref oa), some (.ref la), x6, x7, some (.ref ta), x9] ∧ Ex H4 H' ∧ H' ta = some (.lst tvs) ∧ All2 (ThX K H' ta) tvs ((ws.take i).map (tTh at_ l ws)))
        (fun H6 e6 => ⟨_, _, none, [], rfl, e5.trans e6, e6 ta _ ht5, .nil⟩) (fun i σ' H' _ ⟨_, _, _, _, _, e, _⟩ => ⟨sq_of (e oa _ (e4 oa _ ho3)), sq_of (e la _ (e4 la _ hl3))⟩) ?_ ?_
      · rintro i x y σ' H6 hxi hyi ⟨x6, x7, x9, tvs, rfl, e6, ht6, hT6⟩ H7 e7
        rw [List.getElem?_map] at hxi
        obtain ⟨u, hu, rfl⟩ := Option.map_eq_some_iff.mp hxi
        obtain ⟨es, hes, wb, rfl, hwbS, wvs, hwb, hWA⟩ := hL3.got hyi
        have hes' : es = Oc01.once (Oc01.needs at_ l u) := by
          rw [List.getElem?_map, hu] at hes
          exact (Option.some.inj hes).symm
        subst hes'
        have e47 := e6.trans e7
        have e37 := e4.trans e47
        have hum : u ∈ ws := List.mem_of_getElem? hu
        have htl : tvs.length < 100000 := by
          rw [hT6.1, List.length_map]
          have : (ws.take i).length ≤ ws.length := List.length_take_le' _ _
          omega
        refine s_appP (e7 ta _ ht6) (ev_var rfl) (evp_thing (K := K) (th := tTh at_ l ws u) (ev_callP (ea_cons (ev_var rfl) (ea_cons (ev_var rfl) ea_nil)) (sp_no (t := u) (hR0.mono (e04.trans e47)) hg)) (em_lc (K := K) (ys := (tTh at_ l ws u).to) (R := fun H3 v (x : Nat × Nat) => ∃ p, v = .ref p ∧ H3 p = some (.tup [vN x.1, vN x.2])) (ev_var rfl) (sq_of (e37 wb _ hwb)) (by rw [hWA.1]; exact (List.length_map _).symm) ?_ (fun _ => rfl) fun j v x hv hx => ?_)) htl fun tv2 H8 e8 htv => ?_
        · show ((Oc01.once (Oc01.needs at_ l u)).map _).length ≤ 40000
          rw [List.length_map, once_eq]
          have q1 := foldP_len (Oc01.needs at_ l u) []
          have q2 : (Oc01.needs at_ l u).length ≤ at_.length := by
            rw [needs_eq]
            exact fm_len _ _
          simp only [List.length_nil] at q1
          omega
        · have hx : ((Oc01.once (Oc01.needs at_ l u)).map fun x => (x.1, pl ws x.2))[j]? = some x := hx
          rw [List.getElem?_map] at hx
          obtain ⟨x0, hx0, rfl⟩ := Option.map_eq_some_iff.mp hx
          obtain ⟨p, rfl, hp⟩ := hWA.2 j v x0 hv hx0
          have hx0m : x0 ∈ Oc01.needs at_ l u := by
            have := List.mem_of_getElem? hx0
            rw [once_eq, mem_foldP] at this
            rcases this with z | z
            · cases z
            · exact z
          exact em_ofU (eu_tup (ea_cons (ev_op (ev_var rfl) ev_c (rv_ixT (ex_t e37 hp) (atI_nat (j := 0) rfl))) (ea_cons (ev_indexN (W := ws) (ev_var rfl) (sq_of (e47 oa _ (e4 oa _ ho3))) (ev_op (ev_var rfl) ev_c (rv_ixT (ex_t e37 hp) (atI_nat (j := 1) rfl))) (hcl u hum x0 hx0m)) ea_nil)) (by show 2 ≤ 100000; decide))
        · obtain ⟨p, bb, wvs2, rfl, hp8, hbb0, hbb8, hWA8⟩ := htv
          have ht8 := (e7.trans e8) ta _ ht6
          refine ⟨_, _, _, tvs ++ [.ref p], rfl, Ex.mut (e47.trans e8) hta0, upd_same, ?_⟩
          rw [take_more hu, List.map_append]
          refine (hT6.mono fun _ _ z => ThX.upd ht8 (z.mono (e7.trans e8))).snoc (ThX.upd ht8 ⟨p, bb, wvs2, rfl, hp8, fun z => ?_, hbb8, hWA8⟩)
          rw [z, e7 ta _ ht6] at hbb0
          cases hbb0
      · rintro σ' H6 ⟨x6, x7, x9, tvs, rfl, e6, ht6, hT6⟩
        rw [List.take_length] at hT6
        refine s_ret (ev_var rfl) fun H7 e7 => k _ H7 (w0.ex (e04.trans (e6.trans e7))) ⟨ta, rfl, w0.fr ta (fresh_back e04 hta0), ta, tvs, rfl, sq_of (e7 ta _ ht6), ?_⟩
        have htold : told1 at_ l t = ws.map (tTh at_ l ws) := by
          unfold told1
          rw [hW]
          show ws.map _ = _
          apply List.map_congr_left
          intro u hu
          exact (tTh_eq (hcl u hu)).symm
        rw [htold]
        exact hT6.mono fun _ _ z => (z.mono e7).thp
end
end Bk

namespace Bk
/-! ### xs.extend(a tuple) -/
section
open PySem PySem.AutoSeq1
theorem meets_extT (l : Addr) (xs : Array Value) (n : Nat) (b : Addr) (ys : Array Value) (m : Nat) (dd : Option Addr) (sls : Array (Option Value)) (h0 : ¬(!xs.isEmpty && Builtin.List.listTooLong (xs.size + ys.size)) = true) (h1 : xs.size ≤ sizeLine) (h2 : xs.size + ys.size ≤ sizeLine + 1) :
    Meets (Builtin.«list.extend» ⟨[.ref l, .ref b], []⟩) (fun _ R s => s.heap.get? l = some { cls := .type "list", dict := none, data := .seq xs n, slots := #[] } ∧
      s.heap.get? b = some { cls := .type "tuple", dict := dd, data := .seq ys m, slots := sls } ∧ R (.ok (.ret Value.none)) { s with heap := s.heap.update l (Obj.mapSeq fun x => x ++ ys), toks := s.toks }) := by
  refine .of_wp fun prog w A R s hs => ?_
  obtain ⟨hp, g, d, tk, os⟩ := s
  obtain ⟨hl, hb, h⟩ := hs
  have a1 := idx_int
  have a2 := sub_tuple_tuple
  have a3 := sub_list_list
  have a4 := sub_tuple_list
  have a5 := sub_list_tuple
  have hz : (xs ++ ys).size ≤ sizeLine + 1 := by rw [Array.size_append]; exact h2
  wp_walk using (wpAny_updateSeq hl rfl (hz := h1) (_hz' := hz)), wpAny_loadPart' hl, wpAny_loadPart' hb
  exact ⟨_, rfl, h⟩
end
open PySem PySem.Spec PyProof.Rows L2 Evl
open Oc (C Axiom)
def rExtT (K : PySem.W.Frag) : V → List V → Hp → VK → Prop := fun x vs H Q => ∃ l b xs zs, x = .ref l ∧ vs = [.ref b] ∧ H l = some (.lst xs) ∧ SqT K H b zs ∧ xs.length + zs.length ≤ 100000 ∧ Q .non (upd H l (.lst (xs ++ zs)))
theorem mt_extT {X : Cx} : MtM X "list.extend" (rExtT X.K) := by
  intro pins s σ H x vs v us Q I rx rv h
  obtain ⟨l, b, xs, zs, rfl, rfl, hH, hB, hz', q⟩ := h
  have hz : xs.length + zs.length ≤ sizeLine := sz_of hz'
  cases rx
  cases rv with
  | cons ru rr =>
    cases rr
    cases ru
    obtain ⟨z, its, n, r, hl, e⟩ := I.lstM hH
    obtain ⟨its2, r2, ⟨⟨cls, dd, data, sls⟩, e2, hc, m, hd⟩, z2⟩ := I.tuple hB
    have hc' : cls = .type "tuple" := hc
    have hd' : data = .seq its2.toArray m := hd
    subst hc' hd'
    have hl2 := r2.length
    have hsz : its.toArray.size + its2.toArray.size ≤ sizeLine := by rw [List.size_toArray, List.size_toArray]; omega
    have hlong : ¬ (!its.toArray.isEmpty && Builtin.List.listTooLong (its.toArray.size + its2.toArray.size)) = true := by
      rw [notLongL hsz, Bool.and_false]
      exact Bool.false_ne_true
    refine call_meets F.slot_list_extend ⟨_, e, rfl⟩ F.entry_list_extend (F.args_list_extend_2 _ _) (meets_extT l its.toArray n b its2.toArray m dd sls hlong (by rw [List.size_toArray]; omega) (by omega)) ⟨e, e2, ?_⟩
    refine ⟨.non, _, I.lset (its' := its ++ its2) hH e (by simp) (r.append r2) ?_, rfl, q⟩
    rw [List.length_append]
    omega
/-! ### House -/
abbrev s_House_init : Stmt := inClass (top 81) 0
abbrev s_atoms_with : Stmt := inClass (top 81) 1
abbrev s_begins : Stmt := inClass (top 81) 2
abbrev s_line : Stmt := inClass (top 81) 3
abbrev s_drop : Stmt := inClass (top 81) 4
abbrev s_ask : Stmt := inClass (top 81) 5
structure ClsH (K : PySem.W.Frag) (CH : Addr) : Prop where
  cl : Cls K CH
  nA : NoAttr K CH "axioms"
structure TxtH (mg : Str → Option Value) : Prop where
  kMOST_AXIOMS : Cst mg "MOST_AXIOMS" (.int 5)
  kMOST_ATOMS : Cst mg "MOST_ATOMS" (.int 5)
  kNOT_CONCEPTS : Cst mg "NOT_CONCEPTS" (.int (-1))
  kNO_SUCH_AXIOM : Cst mg "NO_SUCH_AXIOM" (.int (-2))
  kTOO_MANY : Cst mg "TOO_MANY" (.int (-7))
def hF (al : Addr) : List (Str × V) := [("axioms", .ref al)]
theorem hF_axioms {al : Addr} : (hF al).lookup ("axioms" : Str) = some (.ref al) := lk_here
theorem hF_no {al : Addr} {m : Str} (h1 : (m == ("axioms" : Str)) = false) : (hF al).lookup m = none := (lk_past h1).trans rfl
/-- axioms that the house takes -/
structure AxGood (ax : List Axiom) : Prop where
  len : ax.length ≤ 5
  ok : ∀ a ∈ ax, (Ok a.1 ∧ (enc a.1).length ≤ 1000) ∧ (Ok a.2 ∧ (enc a.2).length ≤ 1000)
/-- a house at h whose axioms' list is at al -/
def HouseIn (K : PySem.W.Frag) (CH : Addr) (H : Hp) (h al : Addr) (ax : List Axiom) : Prop := ∃ (dx : Addr) (vs : List V), H h = some (.ins CH dx (hF al)) ∧ H al = some (.lst vs) ∧ All2 (AxP K H) vs ax ∧ AxGood ax
theorem HouseIn.mono {K : PySem.W.Frag} {CH : Addr} {H H' : Hp} {h al : Addr} {ax : List Axiom} (e : Ex H H') (q : HouseIn K CH H h al ax) : HouseIn K CH H' h al ax := by
  obtain ⟨dx, vs, h1, h2, h3, h4⟩ := q
  exact ⟨dx, vs, e h _ h1, e al _ h2, h3.mono fun _ _ z => z.mono e, h4⟩
theorem HouseIn.axs {K : PySem.W.Frag} {CH : Addr} {H : Hp} {h al : Addr} {ax : List Axiom} (q : HouseIn K CH H h al ax) : Axs K H (.ref al) ax := by
  obtain ⟨dx, vs, h1, h2, h3, h4⟩ := q
  exact ⟨al, vs, rfl, h2, h3⟩
section
variable {P : Program} {w : World} {K : PySem.W.Frag} {mg : Str → Option Value} {base : Heap} {CH : Addr}
/-! ### atoms_with -/
def spAW (K : PySem.W.Frag) (CH : Addr) : Sp := fun vs H Q _ => ∃ (h al : Addr) (ax : List Axiom) (vc : V) (cs : List C), vs = [.ref h, vc] ∧ HouseIn K CH H h al ax ∧ Row K H vc cs ∧ (∀ c ∈ cs, Ok c ∧ (enc c).length ≤ 1000) ∧ cs.length ≤ 10 ∧ Ret H Q fun v H' => Row K H' v (Oc.atomsFor ax cs)
theorem sp_aw {H : Hp} {h al : Addr} {ax : List Axiom} {vc : V} {cs : List C} (hH : HouseIn K CH H h al ax) (hR : Row K H vc cs) (ho : ∀ c ∈ cs, Ok c ∧ (enc c).length ≤ 1000) (hl : cs.length ≤ 10) : SpP (spAW K CH) [.ref h, vc] H fun v H' => Row K H' v (Oc.atomsFor ax cs) :=
  fun H1 e Q q E => ⟨h, al, ax, vc, cs, rfl, hH.mono e, hR.mono e, ho, hl, q⟩
theorem sc_atoms_with : FnScope ["self", "concepts", "row", "axiom"] ["self", "concepts"] (defScope s_atoms_with) := ⟨rfl, rfl, rfl, by decide +kernel, rfl, by decide +kernel, by decide +kernel⟩
theorem flat2_len (ax : List Axiom) : (ax.flatMap fun a => [a.1, a.2]).length = 2 * ax.length := by
  induction ax with
  | nil => rfl
  | cons a ax ih =>
    rw [List.flatMap_cons, List.length_append, ih, List.length_cons (as := ax)]
    show 2 + 2 * ax.length = _
    omega
theorem evp_rowcat {σ : L2.St} {H : Hp} {ta tb : TE} {va vb : V} {cs ds : List C} (ha : Ev ta σ H va) (hb : Ev tb σ H vb) (h1 : Row K H va cs) (h2 : Row K H vb ds) (hl : cs.length + ds.length ≤ 100000) : EvP (tOp rCat ta tb) σ H fun v H' => Row K H' v (cs ++ ds) := fun H1 e Q q => by
  obtain ⟨a, vs, rfl, q1, q2⟩ := h1
  obtain ⟨b, ws, rfl, q3, q4⟩ := h2
  refine ha H1 e _ fun H2 e2 => hb H2 (e.trans e2) _ fun H3 e3 => ?_
  have e' := (e.trans e2).trans e3
  refine ⟨a, b, vs, ws, rfl, rfl, e' a _ q1, e' b _ q3, sz_of (by rw [q2.1, q4.1]; exact hl), fun p hp => ?_⟩
  have e4 := e'.trans (Ex.new (o := .lst (vs ++ ws)) hp)
  exact q _ _ ((e2.trans e3).trans (Ex.new hp)) ⟨p, vs ++ ws, rfl, upd_same, (q2.mono fun _ _ z => z.mono e4).append (q4.mono fun _ _ z => z.mono e4)⟩
theorem ok_atoms_with {f : Addr} {fd : FuncData} (F : Fun K "atoms_with" "House.atoms_with" s_atoms_with f fd) (TH : ClsH K CH) (uAO : Use P w K mg base 4 "atoms_of" ["row"] (spAO K)) : FnOk P w K mg base CX0 5 f fd ["self", "concepts"] (spAW K CH) := by
  refine F.ok sc_atoms_with (fun vs H Q E h => ?_) (fun cdv A outer s H vs Q E hr h => ⟨_, pss_cons (ps_set (i := 2) sc_atoms_with.nd rfl (.inl rfl) (pe_lst pa_nil))
    (pss_cons (ps_for PassesOwn.never rfl (pi_list (pe_fld (pv 0) rfl)) (pg_name (i := 3) sc_atoms_with.nd rfl (.inl rfl)) (pss_one (ps_expr (pe_bm PySem.F.plainAttrs_list PySem.F.slot_list_extend PySem.F.type_list_extend mt_extT (pv 2) (pa_cons (pv 3) pa_nil)))))
    (pss_one (ps_ret (pe_use uAO hr (pa_cons (pe_op op_cat (pv 2) (pv 1)) pa_nil))))), ?_⟩)
  · obtain ⟨h, al, ax, vc, cs, rfl, _⟩ := h
    rfl
  · obtain ⟨h, al, ax, vc, cs, rfl, hH, hR, ho, hl, k⟩ := h
    obtain ⟨dx, avs, h1, h2, hA, hg⟩ := id hH
    refine q_asgL (el_lst ea_nil (by decide)) fun l H1 hl0 e1 hd1 => ?_
    refine q_forLn (K := K) (ev_fld (ev_var rfl) (e1 h _ h1) TH.cl TH.nA hF_axioms) (sq_of (e1 al _ h2)) (fun i σ' H' => ∃ (x3 : Option V) (rs : List V), σ' = [some (.ref h), some vc, some (.ref l), x3] ∧ Ex H H' ∧ H' l = some (.lst rs) ∧ All2 (CT K H') rs ((ax.take i).flatMap fun a => [a.1, a.2]))
      (fun H2 e2 => ⟨none, [], rfl, e1.trans e2, e2 l _ hd1, .nil⟩) (fun i σ' H' _ ⟨_, _, _, e, _⟩ => sq_of (e al _ h2)) ?_ ?_
    · rintro i v σ' H' hi ⟨x3, rs, rfl, e, hL, hS⟩
      obtain ⟨a, ha, ⟨p, x, y, rfl, hp, c1, c2⟩⟩ := hA.got hi
      have hlen : rs.length ≤ 10 := by
        have q1 := hg.len
        have q2 : (ax.take i).length ≤ ax.length := List.length_take_le' _ _
        rw [hS.1, flat2_len]
        omega
      refine ⟨_, rfl, Or.inl ⟨rfl, rs, sq_of hL⟩, _, rfl, l, p, rs, [x, y], rfl, rfl, hL, ex_t e hp, by show rs.length + 2 ≤ 100000; omega, ?_⟩
      refine ⟨_, rs ++ [x, y], rfl, Ex.mut e hl0, upd_same, ?_⟩
      rw [take_more ha, List.flatMap_append]
      exact (hS.mono fun _ _ z => z.upd hL).append ((All2.one ((c1.mono e).upd hL)).append (All2.one ((c2.mono e).upd hL)))
    · rintro σ' H' ⟨x3, rs, rfl, e, hL, hS⟩
      rw [hA.1, List.take_length] at hS
      have hlen := flat2_len ax
      have q1 := hg.len
      refine s_retP (evp_call1 (evp_rowcat (K := K) (ev_var rfl) (ev_var rfl) ⟨l, rs, rfl, hL, hS⟩ (hR.mono e) (by rw [hlen]; omega)) fun v H2 e2 hv => sp_ao hv (fun c hc => ?_) ?_) fun v H2 e2 hv => k v H2 (e.trans e2) hv
      · rcases List.mem_append.mp hc with hc | hc
        · obtain ⟨a, ha, hc⟩ := List.mem_flatMap.mp hc
          have := hg.ok a ha
          simp at hc
          rcases hc with rfl | rfl
          · exact this.1
          · exact this.2
        · exact ho c hc
      · rw [List.length_append, hlen]
        omega
/-! ### the constructor -/
def spHI (CH : Addr) : Sp := fun vs H Q _ => ∃ (p dx : Addr), vs = [.ref p] ∧ H p = some (.ins CH dx []) ∧ ∀ (al : Addr) (H' : Hp), H al = none → H' p = some (.ins CH dx (hF al)) → H' al = some (.lst []) → (∀ b o, H b = some o → b ≠ p → H' b = some o) → Q .non H'
theorem sc_House_init : FnScope ["self"] ["self"] (defScope s_House_init) := ⟨rfl, rfl, rfl, by decide +kernel, rfl, by decide +kernel, by decide +kernel⟩
theorem ok_House_init {f : Addr} {fd : FuncData} (F : Fun K "__init__" "House.__init__" s_House_init f fd) (TH : ClsH K CH) : FnOk P w K mg base CX0 1 f fd ["self"] (spHI CH) := by
  refine F.ok sc_House_init (fun vs H Q E h => ?_) (fun cdv A outer s H vs Q E hr h => ⟨_, pss_one (ps_fld (pv 0) (pe_lst pa_nil) rfl), ?_⟩)
  · obtain ⟨p, dx, rfl, _⟩ := h
    rfl
  · obtain ⟨p, dx, rfl, hp, k⟩ := h
    refine ⟨sz_of (by decide), fun al hal => ⟨_, rfl, p, CH, dx, [], rfl, ?_, TH.cl, TH.nA, (by show 0 < 1000; decide), ?_⟩⟩
    · rw [upd_ne (ne_of_none hp hal)]
      exact hp
    · refine k al _ hal upd_same ?_ fun b o hb hne => ?_
      · rw [upd_ne (Ne.symm (ne_of_none hp hal))]
        exact upd_same
      · rw [upd_ne hne, upd_ne (ne_of_none hb hal)]
        exact hb
/-! ### a call that changes the house, or leaves it -/
/-- what the house answers, in a new list, and what it is then -/
def RetH (K : PySem.W.Frag) (CH : Addr) (H : Hp) (h al : Addr) (Q : VK) (ax : List Axiom) (ans : List Int) : Prop :=
  ∀ (p al' : Addr) (H' : Hp), H p = none → (∀ b o, H b = some o → b ≠ h → b ≠ al → H' b = some o) → HouseIn K CH H' h al' ax → (al' = al ∨ H al' = none) → p ≠ h → p ≠ al' → H' p = some (.lst (ans.map V.int)) → Q (.ref p) H'
theorem RetH.same {H H' : Hp} {h al p : Addr} {Q : VK} {ax : List Axiom} {ans : List Int} (k : RetH K CH H h al Q ax ans) (hH : HouseIn K CH H h al ax) (e : Ex H H') (hp : H p = none) (h1 : H' p = some (.lst (ans.map V.int))) : Q (.ref p) H' := by
  obtain ⟨dx, vs, q1, q2, _⟩ := id hH
  exact k p al H' hp (fun b o hb _ _ => e b o hb) (hH.mono e) (.inl rfl) (fun z => by rw [z, q1] at hp; cases hp) (fun z => by rw [z, q2] at hp; cases hp) h1
/-- return [a number], the house as it was -/
theorem s_ret1 {σ : L2.St} {H H0 : Hp} {te : TE} {D : Ends} {h al : Addr} {ax : List Axiom} {z : Int} (k : RetH K CH H0 h al D.rt ax [z]) (hH : HouseIn K CH H0 h al ax) (e : Ex H0 H) (he : Ev te σ H (.int z)) : tRet (tLst (tCons te tNil)) D σ H :=
  s_retL (el_lst (ea_cons he ea_nil) (by show 1 ≤ 100000; decide)) fun p H1 hp e1 h1 => k.same hH (e.trans e1) (fresh_back e hp) h1
def spBegins (K : PySem.W.Frag) (CH : Addr) : Sp := fun vs H Q _ => ∃ (h al : Addr) (ax : List Axiom), vs = [.ref h] ∧ HouseIn K CH H h al ax ∧ RetH K CH H h al Q [] [0]
theorem sc_begins : FnScope ["self"] ["self"] (defScope s_begins) := ⟨rfl, rfl, rfl, by decide +kernel, rfl, by decide +kernel, by decide +kernel⟩
theorem ok_begins {f : Addr} {fd : FuncData} (F : Fun K "begins" "House.begins" s_begins f fd) (TH : ClsH K CH) : FnOk P w K mg base CX0 1 f fd ["self"] (spBegins K CH) := by
  refine F.ok sc_begins (fun vs H Q E h => ?_) (fun cdv A outer s H vs Q E hr h => ⟨_, pss_cons (ps_fld (pv 0) (pe_lst pa_nil) rfl) (pss_one (ps_ret (pe_lst (pa_cons pe_int pa_nil)))), ?_⟩)
  · obtain ⟨h, al, ax, rfl, _⟩ := h
    rfl
  · obtain ⟨h, al, ax, rfl, hH, k⟩ := h
    obtain ⟨dx, avs, h1, h2, hA, hg⟩ := hH
    refine ⟨sz_of (by decide), fun al' hal => ⟨_, rfl, h, CH, dx, hF al, rfl, ?_, TH.cl, TH.nA, (by show 1 < 1000; decide), ?_⟩⟩
    · rw [upd_ne (ne_of_none h1 hal)]
      exact h1
    · have hput : putF "axioms" (.ref al') (hF al) = hF al' := put_here
      rw [hput]
      have nah : al' ≠ h := Ne.symm (ne_of_none h1 hal)
      refine s_retL (σ := [some (.ref h)]) (el_lst (ea_cons ev_c ea_nil) (by show 1 ≤ 100000; decide)) fun p H3 hp e3 h3 => ?_
      have hal3 : H3 al' = some (.lst []) := e3 al' _ (by rw [upd_ne nah]; exact upd_same)
      refine k p al' H3 ?_ (fun b o hb n1 n2 => e3 b o (by rw [upd_ne n1, upd_ne (ne_of_none hb hal)]; exact hb)) ⟨dx, [], e3 h _ upd_same, hal3, .nil, ⟨Nat.zero_le _, fun a ha => by cases ha⟩⟩ (.inr hal) ?_ ?_ h3
      · cases q : H p with
        | none => rfl
        | some o =>
          exfalso
          by_cases z : p = h
          · rw [z, upd_same] at hp
            cases hp
          · rw [upd_ne z, upd_ne (ne_of_none q hal), q] at hp
            cases hp
      · rintro rfl
        rw [upd_same] at hp
        cases hp
      · rintro rfl
        rw [upd_ne nah, upd_same] at hp
        cases hp
/-! ### drop -/
def spDrop (K : PySem.W.Frag) (CH : Addr) : Sp := fun vs H Q _ => ∃ (h al : Addr) (ax : List Axiom) (n : Nat), vs = [.ref h, vN n] ∧ HouseIn K CH H h al ax ∧ n < 2 ^ 40 ∧ RetH K CH H h al Q (if ax.length ≤ n then ax else ax.take n ++ ax.drop (n + 1)) [if ax.length ≤ n then -2 else ((ax.length - 1 : Nat) : Int)]
theorem sc_drop : FnScope ["self", "which"] ["self", "which"] (defScope s_drop) := ⟨rfl, rfl, rfl, by decide +kernel, rfl, by decide +kernel, by decide +kernel⟩
theorem All2.erase {α β : Type} {R : α → β → Prop} {xs : List α} {ys : List β} (h : All2 R xs ys) (n : Nat) : All2 R (xs.eraseIdx n) (ys.eraseIdx n) := by
  refine ⟨by rw [List.length_eraseIdx, List.length_eraseIdx, h.1], fun i x y a b => ?_⟩
  rw [List.getElem?_eraseIdx] at a b
  split at a
  · rename_i q
    rw [if_pos q] at b
    exact h.2 _ x y a b
  · rename_i q
    rw [if_neg q] at b
    exact h.2 _ x y a b
theorem AxP.upd {H : Hp} {l : Addr} {xs ys : List V} {v : V} {a : Axiom} (hl : H l = some (.lst xs)) (h : AxP K H v a) : AxP K (upd H l (.lst ys)) v a := by
  obtain ⟨p, x, y, rfl, h1, h2, h3⟩ := h
  exact ⟨p, x, y, rfl, sqT_upd hl h1, h2.upd hl, h3.upd hl⟩
theorem ok_drop {f : Addr} {fd : FuncData} (F : Fun K "drop" "House.drop" s_drop f fd) (T : Txt K mg) (TH : ClsH K CH) (TX : TxtH mg) : FnOk P w K mg base CX0 1 f fd ["self", "which"] (spDrop K CH) := by
  refine F.ok sc_drop (fun vs H Q E h => ?_) (fun cdv A outer s H vs Q E hr h => ⟨_, pss_cons (ps_if (pt_cmpR op_ge (pv 1) (pe_len T.len (pe_fld (pv 0) rfl)) (nomark _)) (pss_one (ps_ret (pe_lst (pa_cons (pe_cst TX.kNO_SUCH_AXIOM) pa_nil)))) pss_nil)
    (pss_cons (ps_expr (pe_bm PySem.F.plainAttrs_list PySem.F.slot_list_pop PySem.F.type_list_pop mt_popAt (pe_fld (pv 0) rfl) (pa_cons (pv 1) pa_nil)))
    (pss_one (ps_ret (pe_lst (pa_cons (pe_len T.len (pe_fld (pv 0) rfl)) pa_nil))))), ?_⟩)
  · obtain ⟨h, al, ax, n, rfl, _⟩ := h
    rfl
  · obtain ⟨h, al, ax, n, rfl, hH, hn, k⟩ := h
    obtain ⟨dx, avs, h1, h2, hA, hg⟩ := id hH
    refine q_when (et_test (ev_op (ev_var rfl) (ev_len (ev_fld (ev_var rfl) h1 TH.cl TH.nA hF_axioms) (sq_of h2)) rv_I0)) (fun hb H1 e1 => ?_) (fun hb H1 e1 => ?_)
    · have hle : ax.length ≤ n := by
        have := of_decide_eq_true hb
        rw [hA.1] at this
        omega
      rw [if_pos hle, if_pos hle] at k
      exact s_ret1 k hH e1 ev_c
    · have hlt : n < ax.length := by
        have := of_decide_eq_false hb
        rw [hA.1] at this
        omega
      rw [if_neg (by omega), if_neg (by omega)] at k
      have h11 := e1 h _ h1
      have h21 := e1 al _ h2
      have hne : al ≠ h := fun z => by
        rw [z, h1] at h2
        cases h2
      have hy : ∃ y, avs[n]? = some y := ⟨_, List.getElem?_eq_getElem (by rw [hA.1]; exact hlt)⟩
      obtain ⟨y, hy⟩ := hy
      have hix : seqIndex? (n : Int) avs.length = some n := (ixN_seq (ixN_nat (by rw [hA.1]; exact hlt))).1
      refine ⟨_, rfl, h, CH, dx, _, _, rfl, h11, TH.cl, TH.nA, hF_axioms, Or.inl ⟨rfl, avs, sq_of h21⟩, _, rfl, al, avs, (n : Int), n, y, rfl, rfl, h21, ?_, ?_, hix, hy, ?_⟩
      · have : (0 : Int) ≤ (n : Int) := by omega
        exact Int.le_trans (by decide) this
      · have : (n : Int) < 2 ^ 40 := by exact_mod_cast hn
        exact Int.lt_trans this (by decide)
      · have h13 : upd H1 al (.lst (avs.eraseIdx n)) h = some (.ins CH dx (hF al)) := by
          rw [upd_ne (Ne.symm hne)]
          exact h11
        refine s_retL (el_lst (ea_cons (ev_len (ev_fld (ev_var rfl) h13 TH.cl TH.nA hF_axioms) (sq_of upd_same)) ea_nil) (by show 1 ≤ 100000; decide)) fun p H3 hp e3 h3 => ?_
        have hp1 : H1 p = none := by
          by_cases z : p = al
          · rw [z, upd_same] at hp
            cases hp
          · rw [upd_ne z] at hp
            exact hp
        refine k p al H3 (fresh_back e1 hp1) (fun b o hb n1 n2 => e3 b o (by rw [upd_ne n2]; exact e1 b o hb)) ⟨dx, avs.eraseIdx n, e3 h _ h13, e3 al _ upd_same, ?_, ?_⟩ (.inl rfl) ?_ ?_ ?_
        · rw [← List.eraseIdx_eq_take_drop_succ]
          exact ((hA.erase n).mono fun _ _ z => ((z.mono e1).upd h21).mono e3)
        · rw [← List.eraseIdx_eq_take_drop_succ]
          refine ⟨?_, fun a ha => hg.ok a (List.mem_of_mem_eraseIdx ha)⟩
          have := hg.len
          rw [List.length_eraseIdx_of_lt hlt]
          omega
        · rintro rfl
          rw [h13] at hp
          cases hp
        · rintro rfl
          rw [upd_same] at hp
          cases hp
        · rw [h3]
          show some (HO.lst [V.int (((avs.eraseIdx n).length : Nat) : Int)]) = some (HO.lst [V.int ((ax.length - 1 : Nat) : Int)])
          rw [List.length_eraseIdx_of_lt (by rw [hA.1]; exact hlt), hA.1]
end
end Bk

namespace Bk
open PySem PySem.Spec PyProof.Rows L2 Evl
open Oc (C Axiom)
theorem just_ok {n : Nat} : ∀ {l : List Nat} {cs : List C}, just n l = some cs → cs.length = n ∧ ∀ c ∈ cs, Ok c ∧ (enc c).length ≤ l.length := by
  induction n with
  | zero =>
    intro l cs h
    rw [just_zero] at h
    split at h
    · cases h
      exact ⟨rfl, fun c hc => by cases hc⟩
    · cases h
  | succ n ih =>
    intro l cs h
    unfold just at h
    cases q : Oc.read (l.length + 1) l with
    | none =>
      rw [q] at h
      cases h
    | some x =>
      obtain ⟨c, r⟩ := x
      rw [q] at h
      obtain ⟨cs', h1, h2⟩ := Option.map_eq_some_iff.mp (show (just n r).map (fun cs => c :: cs) = some cs from h)
      subst h2
      obtain ⟨o, e⟩ := of_read _ _ _ _ q
      obtain ⟨i1, i2⟩ := ih h1
      have hl := congrArg List.length e
      rw [List.length_append] at hl
      refine ⟨by rw [List.length_cons, i1], fun d hd => ?_⟩
      rcases List.mem_cons.mp hd with rfl | hd
      · exact ⟨o, by omega⟩
      · exact ⟨(i2 d hd).1, Nat.le_trans (i2 d hd).2 (by omega)⟩
theorem much_eq (ax : List Axiom) (l : List C) : Oc12.much ⟨ax⟩ l = decide (5 < (Oc.atomsFor ax l).length) := rfl
/-- what line makes of the axioms, and answers -/
def lineAx (ax : List Axiom) (ns : List Nat) : List Axiom := (Oc12.step ⟨ax⟩ (.line ns)).1.axioms
def lineAns (ax : List Axiom) (ns : List Nat) : Int := (Oc12.step ⟨ax⟩ (.line ns)).2.v
theorem line_no {ax : List Axiom} {ns : List Nat} (h : Oc.two ns = none) : lineAx ax ns = ax ∧ lineAns ax ns = -1 := by
  unfold lineAx lineAns Oc12.step
  simp only [h]
  exact ⟨trivial, rfl⟩
theorem line_much {ax : List Axiom} {ns : List Nat} {a : Axiom} (h : Oc.two ns = some a) (hm : ax.length = 5 ∨ 5 < (Oc.atomsFor ax [a.1, a.2]).length) : lineAx ax ns = ax ∧ lineAns ax ns = -7 := by
  have hm' : ax.length = Oc12.AXIOMS ∨ Oc12.much ⟨ax⟩ [a.1, a.2] = true := hm.imp id fun z => decide_eq_true z
  unfold lineAx lineAns Oc12.step
  simp only [h, if_pos hm']
  exact ⟨trivial, rfl⟩
theorem line_yes {ax : List Axiom} {ns : List Nat} {a : Axiom} (h : Oc.two ns = some a) (hm : ¬ (ax.length = 5 ∨ 5 < (Oc.atomsFor ax [a.1, a.2]).length)) : lineAx ax ns = ax ++ [a] ∧ lineAns ax ns = (ax.length : Int) := by
  have hm' : ¬ (ax.length = Oc12.AXIOMS ∨ Oc12.much ⟨ax⟩ [a.1, a.2] = true) := fun z => hm (z.imp id fun z => of_decide_eq_true z)
  unfold lineAx lineAns Oc12.step
  simp only [h, if_neg hm']
  exact ⟨trivial, rfl⟩
theorem step_line (ax : List Axiom) (ns : List Nat) : Oc12.step ⟨ax⟩ (.line ns) = (⟨lineAx ax ns⟩, ⟨lineAns ax ns, []⟩) := by
  cases h : Oc.two ns with
  | none =>
    obtain ⟨q1, q2⟩ := line_no (ax := ax) h
    rw [q1, q2]
    unfold Oc12.step
    simp only [h]
    rfl
  | some a =>
    by_cases hm : ax.length = 5 ∨ 5 < (Oc.atomsFor ax [a.1, a.2]).length
    · obtain ⟨q1, q2⟩ := line_much h hm
      have hm' : ax.length = Oc12.AXIOMS ∨ Oc12.much ⟨ax⟩ [a.1, a.2] = true := hm.imp id fun z => decide_eq_true z
      rw [q1, q2]
      unfold Oc12.step
      simp only [h, if_pos hm']
      rfl
    · obtain ⟨q1, q2⟩ := line_yes h hm
      have hm' : ¬ (ax.length = Oc12.AXIOMS ∨ Oc12.much ⟨ax⟩ [a.1, a.2] = true) := fun z => hm (z.imp id fun z => of_decide_eq_true z)
      rw [q1, q2]
      unfold Oc12.step
      simp only [h, if_neg hm']
      rfl
section
variable {P : Program} {w : World} {K : PySem.W.Frag} {mg : Str → Option Value} {base : Heap} {CH : Addr}
/-! ### line -/
def spLine (K : PySem.W.Frag) (CH : Addr) : Sp := fun vs H Q _ => ∃ (h al : Addr) (ax : List Axiom) (a : Addr) (ns : List Nat), vs = [.ref h, .ref a] ∧ HouseIn K CH H h al ax ∧ SqL K H a (ns.map vN) ∧ ns.length ≤ 100 ∧ RetH K CH H h al Q (lineAx ax ns) [lineAns ax ns]
theorem sc_line : FnScope ["self", "numbers", "concepts"] ["self", "numbers"] (defScope s_line) := ⟨rfl, rfl, rfl, by decide +kernel, rfl, by decide +kernel, by decide +kernel⟩
theorem et_isN {σ : L2.St} {H : Hp} {ta : TE} {v : V} (ha : Ev ta σ H v) : EvT (tTest (tOp (fun x y H Q => y = .non ∧ Q (.bl (decide (x = .non))) H) ta (tC .non))) σ H (decide (v = .non)) := et_test (ev_op ha ev_c fun H1 _ Q q => ⟨rfl, q H1 (Ex.refl H1)⟩)
theorem Row.notNone {H : Hp} {v : V} {cs : List C} (h : Row K H v cs) : decide (v = .non) = false := by
  obtain ⟨a, vs, rfl, _⟩ := h
  exact decide_eq_false fun q => by cases q
/-- len of a new row -/
theorem ev_lenP {σ : L2.St} {H : Hp} {ta : TE} {cs : List C} (ha : EvP ta σ H fun v H' => Row K H' v cs) : Ev (tCB (rLenS K) (tCons ta tNil)) σ H (.int (cs.length : Int)) := fun H1 e Q q =>
  ha H1 e _ fun v H2 e2 hv => by
    obtain ⟨a, vs, rfl, h1, h2⟩ := hv
    exact ⟨a, vs, rfl, Or.inl (sq_of h1), by rw [h2.1]; exact q H2 e2⟩
theorem ok_line {f : Addr} {fd : FuncData} (F : Fun K "line" "House.line" s_line f fd) (T : Txt K mg) (TH : ClsH K CH) (TX : TxtH mg) (uRC : Use P w K mg base 3 "read_concepts" ["numbers", "count"] (spRC K)) (uAW : MUse P w K mg base 5 CH "atoms_with" ["self", "concepts"] (spAW K CH)) : FnOk P w K mg base CX0 6 f fd ["self", "numbers"] (spLine K CH) := by
  refine F.ok sc_line (fun vs H Q E h => ?_) (fun cdv A outer s H vs Q E hr h => ⟨_, pss_cons (ps_set (i := 2) sc_line.nd rfl (.inl rfl) (pe_use uRC (hr.mono (by decide)) (pa_cons (pv 1) (pa_cons pe_int pa_nil))))
    (pss_cons (ps_if (pt_cmpR op_isN (pv 2) pe_non (nomark _)) (pss_one (ps_ret (pe_lst (pa_cons (pe_cst TX.kNOT_CONCEPTS) pa_nil)))) pss_nil)
    (pss_cons (ps_if (PW.pt (pw_or (pt_cmpR op_ge (pe_len T.len (pe_fld (pv 0) rfl)) (pe_cst TX.kMOST_AXIOMS) (nomark _)) (pw_or1 (pt_cmpR op_gt (pe_len T.len (pe_muse uAW (pv 0) TH.cl hr (pa_cons (pv 2) pa_nil))) (pe_cst TX.kMOST_ATOMS) (nomark _))))) (pss_one (ps_ret (pe_lst (pa_cons (pe_cst TX.kTOO_MANY) pa_nil)))) pss_nil)
    (pss_cons (ps_expr (pe_bm PySem.F.plainAttrs_list PySem.F.slot_list_append PySem.F.type_list_append mt_append (pe_fld (pv 0) rfl) (pa_cons (pe_tuple T.tuple (pv 2)) pa_nil)))
    (pss_one (ps_ret (pe_lst (pa_cons (pe_op op_sub (pe_len T.len (pe_fld (pv 0) rfl)) pe_int) pa_nil))))))), ?_⟩)
  · obtain ⟨h, al, ax, a, ns, rfl, _⟩ := h
    rfl
  · obtain ⟨h, al, ax, a, ns, rfl, hH, hN, hlen, k⟩ := h
    refine q_asgP (evp_call (ea_cons (ev_var rfl) (ea_cons ev_c ea_nil)) (sp_rc (n := 2) hN (by decide))) fun v H1 e1 hv => ?_
    have hH1 := hH.mono e1
    rw [just_two] at hv
    cases ht : Oc.two ns with
    | none =>
      rw [ht] at hv
      obtain rfl : v = .non := hv
      obtain ⟨q1, q2⟩ := line_no (ax := ax) ht
      rw [q1, q2] at k
      refine q_when (et_is (et_isN (ev_var rfl)) (decide_eq_true rfl)) (fun _ H2 e2 => s_ret1 k hH (e1.trans e2) ev_c) (fun q => by cases q)
    | some p =>
      rw [ht] at hv
      have hv1 : Row K H1 v [p.1, p.2] := hv
      refine q_when (et_is (et_isN (ev_var rfl)) hv1.notNone) (fun q => by cases q) (fun _ H2 e2 => ?_)
      have hj : just 2 ns = some [p.1, p.2] := by rw [just_two, ht]; rfl
      obtain ⟨_, hok⟩ := just_ok hj
      have hok1 : ∀ c ∈ [p.1, p.2], Ok c ∧ (enc c).length ≤ 1000 := fun c hc => ⟨(hok c hc).1, Nat.le_trans (hok c hc).2 (by omega)⟩
      have hH2 := hH1.mono e2
      have hv2 := hv1.mono e2
      obtain ⟨dx, avs, h1, h2, hA, hg⟩ := id hH2
      have hg5 := hg.len
      refine q_when (et_or (et_test (ev_op (ev_len (ev_fld (ev_var rfl) h1 TH.cl TH.nA hF_axioms) (sq_of h2)) ev_c rv_I0)) fun _ => et_test (ev_op (ev_lenP (evp_meth (ev_var rfl) h1 (hF_no (by decide +kernel)) (ea_cons (ev_var rfl) ea_nil) (sp_aw hH2 hv2 hok1 (by show 2 ≤ 10; decide)))) ev_c rv_I0)) (fun hb H3 e3 => ?_) (fun hb H3 e3 => ?_)
      · have hm : ax.length = 5 ∨ 5 < (Oc.atomsFor ax [p.1, p.2]).length := by
          rcases Bool.or_eq_true_iff.mp hb with q | q
          · left
            have := of_decide_eq_true q
            rw [hA.1] at this
            omega
          · right
            have := of_decide_eq_true q
            omega
        obtain ⟨q1, q2⟩ := line_much ht hm
        rw [q1, q2] at k
        exact s_ret1 k hH (e1.trans (e2.trans e3)) ev_c
      · obtain ⟨b1, b2⟩ := Bool.or_eq_false_iff.mp hb
        have n1 := of_decide_eq_false b1
        have n2 := of_decide_eq_false b2
        rw [hA.1] at n1
        have hm : ¬ (ax.length = 5 ∨ 5 < (Oc.atomsFor ax [p.1, p.2]).length) := by
          rintro (q | q)
          · exact n1 (by omega)
          · exact n2 (by omega)
        obtain ⟨q1, q2⟩ := line_yes ht hm
        rw [q1, q2] at k
        have h13 := e3 h _ h1
        have h23 := e3 al _ h2
        have e0 := e1.trans (e2.trans e3)
        have hne : al ≠ h := fun z => by
          rw [z, h1] at h2
          cases h2
        obtain ⟨va, cvs, rfl, hva, hC⟩ := hv2.mono e3
        obtain ⟨x, y, rfl⟩ : ∃ x y, cvs = [x, y] := by
          have hl := hC.1
          match cvs, hl with
          | [x, y], _ => exact ⟨x, y, rfl⟩
        have hx : CT K H3 x p.1 := hC.2 0 x _ rfl rfl
        have hy : CT K H3 y p.2 := hC.2 1 y _ rfl rfl
        refine q_appU h23 (ev_fld (ev_var rfl) h13 TH.cl TH.nA hF_axioms) (eu_tupleL (ev_var rfl) (sq_of hva)) (by rw [hA.1]; omega) fun b H4 hb4 e4 h4 => ?_
        have h24 := e4 al _ h23
        have h15 : upd H4 al (.lst (avs ++ [.ref b])) h = some (.ins CH dx (hF al)) := by
          rw [upd_ne (Ne.symm hne)]
          exact e4 h _ h13
        refine s_retL (el_lst (ea_cons (ev_op (ev_len (ev_fld (ev_var rfl) h15 TH.cl TH.nA hF_axioms) (sq_of upd_same)) ev_c rv_I0) ea_nil) (by show 1 ≤ 100000; decide)) fun r H5 hr5 e5 h5 => ?_
        have hr4 : H4 r = none := by
          by_cases z : r = al
          · rw [z, upd_same] at hr5
            cases hr5
          · rw [upd_ne z] at hr5
            exact hr5
        refine k r al H5 (fresh_back (e0.trans e4) hr4) (fun b' o hb' n1 n2 => e5 b' o (by rw [upd_ne n2]; exact (e0.trans e4) b' o hb')) ⟨dx, avs ++ [.ref b], e5 h _ h15, e5 al _ upd_same, ?_, ?_⟩ (.inl rfl) ?_ ?_ ?_
        · refine (hA.mono fun _ _ z => ((z.mono (e3.trans e4)).upd h24).mono e5).snoc (AxP.mono e5 (AxP.upd h24 ⟨b, x, y, rfl, st_of h4, hx.mono e4, hy.mono e4⟩))
        · refine ⟨?_, fun a' ha' => ?_⟩
          · rw [List.length_append]
            show ax.length + 1 ≤ 5
            omega
          · rcases List.mem_append.mp ha' with ha' | ha'
            · exact hg.ok a' ha'
            · rw [List.mem_singleton] at ha'
              subst ha'
              exact ⟨hok1 _ (by simp), hok1 _ (by simp)⟩
        · rintro rfl
          rw [h15] at hr5
          cases hr5
        · rintro rfl
          rw [upd_same] at hr5
          cases hr5
        · rw [h5]
          show some (HO.lst [V.int ((((avs ++ [V.ref b]).length : Nat) : Int) - 1)]) = some (HO.lst [V.int (ax.length : Int)])
          rw [List.length_append, hA.1]
          have : (((ax.length + [V.ref b].length : Nat) : Int) - 1) = (ax.length : Int) := by
            show (((ax.length + 1 : Nat) : Int) - 1) = (ax.length : Int)
            omega
          rw [this]
/-! ### what is asked of a concept -/
theorem asks_no {ax : List Axiom} {ns : List Nat} {f : C → Oc12.Ans} (h : Oc.concept ns = none) : (Oc12.asks ⟨ax⟩ ns f).2 = Oc12.ok (-1) := by
  unfold Oc12.asks
  simp only [h]
theorem asks_much {ax : List Axiom} {ns : List Nat} {f : C → Oc12.Ans} {c : C} (h : Oc.concept ns = some c) (hm : 5 < (Oc.atomsFor ax [c]).length) : (Oc12.asks ⟨ax⟩ ns f).2 = Oc12.ok (-7) := by
  unfold Oc12.asks
  simp only [h, much_eq, decide_eq_true hm, if_true]
theorem asks_yes {ax : List Axiom} {ns : List Nat} {f : C → Oc12.Ans} {c : C} (h : Oc.concept ns = some c) (hm : ¬ 5 < (Oc.atomsFor ax [c]).length) : (Oc12.asks ⟨ax⟩ ns f).2 = f c := by
  unfold Oc12.asks
  simp only [h, much_eq, decide_eq_false hm]
  rfl
def stI (s : Oc12.Step) : List Int := [(s.type : Int), ((if s.byAtom = true then 1 else 0 : Nat) : Int), (s.i : Int)]
theorem stV_map (s : Oc12.Step) : stV s = (stI s).map V.int := rfl
theorem good_for {ax : List Axiom} {c : C} (hg : AxGood ax) (oc : Ok c) : Good (Oc.atomsFor ax [c]) := good_atomsOf fun d hd => by
  rcases List.mem_append.mp hd with hd | hd
  · obtain ⟨a, ha, hd⟩ := List.mem_flatMap.mp hd
    have := hg.ok a ha
    simp at hd
    rcases hd with rfl | rfl
    · exact this.1.1
    · exact this.2.1
  · rw [List.mem_singleton] at hd
    subst hd
    exact oc
theorem enc_subs_len : ∀ (c d : C), d ∈ subs c → (enc d).length ≤ (enc c).length
  | .top, d, h => by simp [subs] at h; subst h; exact Nat.le_refl _
  | .bot, d, h => by simp [subs] at h; subst h; exact Nat.le_refl _
  | .name a, d, h => by simp [subs] at h; subst h; exact Nat.le_refl _
  | .and a b, d, h => by
    simp [subs] at h
    rcases h with rfl | h | h
    · exact Nat.le_refl _
    · have := enc_subs_len a d h; simp [enc]; omega
    · have := enc_subs_len b d h; simp [enc]; omega
  | .or a b, d, h => by
    simp [subs] at h
    rcases h with rfl | h | h
    · exact Nat.le_refl _
    · have := enc_subs_len a d h; simp [enc]; omega
    · have := enc_subs_len b d h; simp [enc]; omega
  | .not a, d, h => by
    simp [subs] at h
    rcases h with rfl | h
    · exact Nat.le_refl _
    · have := enc_subs_len a d h; simp [enc]; omega
  | .some r a, d, h => by
    simp [subs] at h
    rcases h with rfl | h
    · exact Nat.le_refl _
    · have := enc_subs_len a d h; simp [enc]; omega
  | .all r a, d, h => by
    simp [subs] at h
    rcases h with rfl | h
    · exact Nat.le_refl _
    · have := enc_subs_len a d h; simp [enc]; omega
theorem len_for {ax : List Axiom} {c : C} (hg : AxGood ax) (hc : (enc c).length ≤ 1000) : ∀ x ∈ Oc.atomsFor ax [c], (enc x).length ≤ 1000 := fun x hx => by
  obtain ⟨d, hd, hx⟩ := mem_atomsOf.mp hx
  rw [atoms_subs] at hx
  refine Nat.le_trans (enc_subs_len d x (List.mem_filter.mp hx).1) ?_
  rcases List.mem_append.mp hd with hd | hd
  · obtain ⟨a, ha, hd⟩ := List.mem_flatMap.mp hd
    have := hg.ok a ha
    simp at hd
    rcases hd with rfl | rfl
    · exact this.1.2
    · exact this.2.2
  · rw [List.mem_singleton] at hd
    subst hd
    exact hc
theorem axok_for {ax : List Axiom} {c : C} (hg : AxGood ax) : AxOk (Oc.atomsFor ax [c]) ax := ⟨by have := hg.len; omega, fun a ha => by
  have := hg.ok a ha
  have m1 : a.1 ∈ (ax.flatMap fun a => [a.1, a.2]) ++ [c] := List.mem_append_left _ (List.mem_flatMap.mpr ⟨a, ha, by simp⟩)
  have m2 : a.2 ∈ (ax.flatMap fun a => [a.1, a.2]) ++ [c] := List.mem_append_left _ (List.mem_flatMap.mpr ⟨a, ha, by simp⟩)
  exact ⟨⟨this.1.1, this.1.2, within_atomsOf m1⟩, ⟨this.2.1, this.2.2, within_atomsOf m2⟩⟩⟩
theorem within_for (ax : List Axiom) (c : C) : Within (Oc.atomsFor ax [c]) c := within_atomsOf (List.mem_append_right _ (by simp))
end
end Bk

namespace Bk
open PySem PySem.Spec PyProof.Rows L2 Evl LamX NdefX
open Oc (C Axiom)
open Oc01 (Thing)
/-! ### what is due for each question -/
def qNone (ax : List Axiom) (c : C) : List Int := Oc12Neutral.out (match Oc12.ownNone ax c with
  | none => Oc12.ok (-6)
  | some p => ⟨(p.length : Nat), p.flatMap fun s => [s.type, if s.byAtom = true then 1 else 0, s.i]⟩)
def qModel (ax : List Axiom) (c : C) : List Int := Oc12Neutral.out ⟨(Oc01.told (Oc01.model ax c)).v, (Oc01.told (Oc01.model ax c)).l⟩
def qCN (ax : List Axiom) (c : C) (p : List Nat) : List Int := Oc12Neutral.out (match Oc12.steps? p with
  | none => Oc12.ok (-3)
  | some s => Oc12.told (Oc12.checkNone ax c s))
def qCM (ax : List Axiom) (c : C) (m : List (List Nat)) : List Int := Oc12Neutral.out (match Oc12.things? m with
  | none => Oc12.ok (-3)
  | some x => Oc12.told (Oc12.checkModel ax c x))
def qCan (ax : List Axiom) (c : C) : List Int := Oc12Neutral.out (Oc12.ok (if Oc.can ax c = true then 1 else 0))
theorem find_any {α : Type} (p : α → Bool) : ∀ l : List α, (l.find? p).isSome = l.any p
  | [] => rfl
  | x :: l => by
    rw [List.find?_cons, List.any_cons]
    cases p x with
    | true => rfl
    | false => exact find_any p l
theorem orNo_ge (o : Option Nat) : decide ((0 : Int) ≤ orNo o) = o.isSome := by
  cases o with
  | none => rfl
  | some k =>
    show decide ((0 : Int) ≤ (k : Int)) = true
    exact decide_eq_true (by omega)
theorem orNo_lt (o : Option Nat) : decide (orNo o < (0 : Int)) = !o.isSome := by
  cases o with
  | none => rfl
  | some k =>
    show decide ((k : Int) < 0) = false
    exact decide_eq_false (by omega)
theorem toV_nat (l : List Nat) : (l.map fun (n : Nat) => (n : Int)).map V.int = l.map vN := by
  rw [List.map_map]
  rfl
theorem qNone_val (ax : List Axiom) (c : C) :
    qNone ax c = if (Oc.types (Oc.atomsFor ax [c]) ax).any (fun t => Oc.holds (Oc.atomsFor ax [c]) t c) = true then [-6] else ((ownSteps (Oc.atomsFor ax [c]) ax).length : Int) :: (ownSteps (Oc.atomsFor ax [c]) ax).flatMap stI := by
  unfold qNone
  simp only [own_none]
  by_cases q : (Oc.types (Oc.atomsFor ax [c]) ax).any (fun t => Oc.holds (Oc.atomsFor ax [c]) t c) = true
  · simp only [if_pos q]
    rfl
  · simp only [if_neg q]
    unfold Oc12Neutral.out
    simp only [List.map_flatMap]
    rfl
/-- the numbers of a thing -/
def thI (th : Thing) : List Nat := th.names :: th.to.length :: th.to.flatMap fun e => [e.1, e.2]
theorem qModel_val (ax : List Axiom) (c : C) : (qModel ax c).map V.int = match (Oc.types (Oc.atomsFor ax [c]) ax).find? fun t => Oc.holds (Oc.atomsFor ax [c]) t c with
    | none => [V.int (-6)]
    | some t => ((told1 (Oc.atomsFor ax [c]) (Oc.types (Oc.atomsFor ax [c]) ax) t).length :: (told1 (Oc.atomsFor ax [c]) (Oc.types (Oc.atomsFor ax [c]) ax) t).flatMap thI).map vN := by
  have e : Oc01.model ax c = ((Oc.types (Oc.atomsFor ax [c]) ax).find? fun t => Oc.holds (Oc.atomsFor ax [c]) t c).map fun t => told1 (Oc.atomsFor ax [c]) (Oc.types (Oc.atomsFor ax [c]) ax) t := rfl
  unfold qModel
  rw [e]
  cases q : (Oc.types (Oc.atomsFor ax [c]) ax).find? fun t => Oc.holds (Oc.atomsFor ax [c]) t c with
  | none => rfl
  | some t =>
    show V.int _ :: (List.map V.int (List.map _ _)) = _
    rw [toV_nat]
    rfl
theorem qCN_none {ax : List Axiom} {c : C} {p : List Nat} (h : Oc12.steps? p = none) : qCN ax c p = [-3] := by
  unfold qCN
  rw [h]
  rfl
theorem qCN_some {ax : List Axiom} {c : C} {p : List Nat} {ss : List Oc12.Step} (h : Oc12.steps? p = some ss) : (qCN ax c p).map V.int = (ckN (Oc.atomsFor ax [c]) ax c ss).map vN := by
  unfold qCN
  rw [h]
  show (Oc12Neutral.out (Oc12.told (Oc12.checkNone ax c ss))).map V.int = _
  unfold Oc12.checkNone ckN
  show (Oc12Neutral.out (Oc12.told (match Oc12.goes (Oc.atomsFor ax [c]) ax 0 (List.range (2 ^ (Oc.atomsFor ax [c]).length)) ss with
    | .inr f => some f
    | .inl l => (l.find? fun t => Oc.holds (Oc.atomsFor ax [c]) t c).map fun t => [3, t]))).map V.int = _
  cases q : Oc12.goes (Oc.atomsFor ax [c]) ax 0 (List.range (2 ^ (Oc.atomsFor ax [c]).length)) ss with
  | inr f =>
    obtain ⟨n, r, rfl⟩ := fault_pos _ _ _ _ q
    show V.int _ :: List.map V.int (List.map _ r) = _
    rw [toV_nat]
    rfl
  | inl l =>
    show (Oc12Neutral.out (Oc12.told ((l.find? fun t => Oc.holds (Oc.atomsFor ax [c]) t c).map fun t => [3, t]))).map V.int = _
    cases z : l.find? fun t => Oc.holds (Oc.atomsFor ax [c]) t c with
    | none => simp only [z]; rfl
    | some t => simp only [z]; rfl
theorem qCM_none {ax : List Axiom} {c : C} {m : List (List Nat)} (h : Oc12.things? m = none) : qCM ax c m = [-3] := by
  unfold qCM
  rw [h]
  rfl
theorem cm_pos {ax : List Axiom} {c : C} {m : List Thing} {f : List Nat} (h : Oc12.checkModel ax c m = some f) : ∃ n r, f = n :: r := by
  unfold Oc12.checkModel at h
  split at h
  · cases h
    exact ⟨_, _, rfl⟩
  · split at h
    · cases h
      exact ⟨_, _, rfl⟩
    · split at h
      · rename_i f' hf
        cases h
        obtain ⟨i, _, z⟩ := List.exists_of_findSome?_eq_some hf
        obtain ⟨k, _, rfl⟩ := Option.map_eq_some_iff.mp z
        exact ⟨_, _, rfl⟩
      · split at h
        · cases h
        · cases h
          exact ⟨_, _, rfl⟩
theorem qCM_some {ax : List Axiom} {c : C} {m : List (List Nat)} {x : List Thing} (h : Oc12.things? m = some x) : (qCM ax c m).map V.int = (ck (Oc12.checkModel ax c x)).map vN := by
  unfold qCM
  rw [h]
  show (Oc12Neutral.out (Oc12.told (Oc12.checkModel ax c x))).map V.int = _
  cases q : Oc12.checkModel ax c x with
  | none => rfl
  | some f =>
    obtain ⟨n, r, rfl⟩ := cm_pos q
    show V.int _ :: List.map V.int (List.map _ r) = _
    rw [toV_nat]
    rfl
theorem qCan_val (ax : List Axiom) (c : C) : qCan ax c = [if (Oc.types (Oc.atomsFor ax [c]) ax).any (fun t => Oc.holds (Oc.atomsFor ax [c]) t c) = true then 1 else 0] := rfl
theorem thing_len {l : List Nat} {th : Thing} (h : Oc12.thing? l = some th) : th.to.length ≤ l.length := by
  by_cases q : l.length % 2 = 0
  · rw [thing_bad q] at h
    cases h
  · cases l with
    | nil => cases h
    | cons n l =>
      rw [thing_good q] at h
      cases h
      show (duo l).length ≤ _
      rw [duo_len, List.length_cons]
      omega
theorem things_len : ∀ {ls : List (List Nat)} {m : List Thing}, Oc12.things? ls = some m → m.length = ls.length ∧ ∀ th ∈ m, ∃ l ∈ ls, th.to.length ≤ l.length
  | [], m, h => by
    cases h
    exact ⟨rfl, fun th ht => by cases ht⟩
  | r :: ls, m, h => by
    unfold Oc12.things? at h
    split at h
    · rename_i x y h1 h2
      cases h
      obtain ⟨i1, i2⟩ := things_len h2
      refine ⟨by rw [List.length_cons, List.length_cons, i1], fun th ht => ?_⟩
      rcases List.mem_cons.mp ht with rfl | ht
      · exact ⟨r, List.mem_cons_self, thing_len h1⟩
      · obtain ⟨l, hl, q⟩ := i2 th ht
        exact ⟨l, List.mem_cons_of_mem _ hl, q⟩
    · cases h
/-! ### sizes of the told model -/
theorem gather_in {at_ : List C} {l : List Nat} : ∀ (n i : Nat) (w : List Nat), w.Nodup → (∀ u ∈ w, u ∈ l) → (Oc01.gather at_ l n i w).Nodup ∧ ∀ u ∈ Oc01.gather at_ l n i w, u ∈ l
  | 0, i, w, h1, h2 => ⟨h1, h2⟩
  | n + 1, i, w, h1, h2 => by
    rw [gather_succ]
    split
    · exact ⟨h1, h2⟩
    · rename_i t ht
      refine gather_in n (i + 1) _ (nodup_foldK _ _ h1) fun z hz => ?_
      rcases (mem_foldK _ _ _).mp hz with q | ⟨x, hx, rfl⟩
      · exact h2 z q
      · exact needs_in hx
theorem told_len {at_ : List C} {l : List Nat} {t : Nat} (ht : t ∈ l) : (told1 at_ l t).length ≤ l.length := by
  obtain ⟨h1, h2⟩ := gather_in (at_ := at_) (l := l) (l.length + 1) 0 [t] (by simp) (fun u hu => by rw [List.mem_singleton.mp hu]; exact ht)
  unfold told1
  show (List.map _ (Oc01.gather at_ l (l.length + 1) 0 [t])).length ≤ _
  rw [List.length_map]
  exact sub_len _ _ h1 h2
theorem told_to {at_ : List C} {l : List Nat} {t : Nat} : ∀ th ∈ told1 at_ l t, th.to.length ≤ at_.length := fun th hth => by
  unfold told1 at hth
  obtain ⟨u, _, rfl⟩ := List.mem_map.mp hth
  show (Oc01.once _).length ≤ _
  rw [once_eq]
  refine Nat.le_trans (foldP_len _ []) ?_
  rw [List.length_nil, Nat.zero_add]
  refine Nat.le_trans (fm_len _ _) ?_
  rw [needs_eq]
  exact fm_len _ _
theorem pairs_len (l : List (Nat × Nat)) : (l.flatMap fun e => [e.1, e.2]).length = 2 * l.length := by
  induction l with
  | nil => rfl
  | cons a ax ih =>
    rw [List.flatMap_cons, List.length_append, ih, List.length_cons (as := ax)]
    show 2 + 2 * ax.length = _
    omega
theorem thI_len {k : Nat} : ∀ (m : List Thing), (∀ th ∈ m, th.to.length ≤ k) → (m.flatMap thI).length ≤ (2 + 2 * k) * m.length
  | [], _ => Nat.zero_le _
  | th :: m, h => by
    have ih := thI_len m fun x hx => h x (List.mem_cons_of_mem _ hx)
    have h1 := h th List.mem_cons_self
    rw [List.flatMap_cons, List.length_append, List.length_cons (as := m), Nat.mul_succ]
    have : (thI th).length = 2 + 2 * th.to.length := by
      unfold thI
      rw [List.length_cons, List.length_cons, pairs_len]
      omega
    omega
end Bk

namespace Bk
open PySem PySem.Spec PyProof.Rows L2 Evl LamX NdefX
open Oc (C Axiom)
open Oc01 (Thing)
abbrev s_Question_init : Stmt := inClass (top 65) 0
abbrev s_none : Stmt := inClass (top 65) 1
abbrev s_model : Stmt := inClass (top 65) 2
abbrev s_checknone : Stmt := inClass (top 65) 3
abbrev s_checkmodel : Stmt := inClass (top 65) 4
abbrev s_can : Stmt := inClass (top 65) 5
structure ClsQ (K : PySem.W.Frag) (CQ : Addr) : Prop where
  cl : Cls K CQ
  nX : NoAttr K CQ "axioms"
  nC : NoAttr K CQ "concept"
  nA : NoAttr K CQ "atoms"
structure TxtQ (mg : Str → Option Value) : Prop where
  kNOT_A_PROOF : Cst mg "NOT_A_PROOF" (.int (-3))
  kNO_SUCH_PROOF : Cst mg "NO_SUCH_PROOF" (.int (-6))
def qF (va vc vt : V) : List (Str × V) := [("axioms", va), ("concept", vc), ("atoms", vt)]
theorem qF_axioms {va vc vt : V} : (qF va vc vt).lookup ("axioms" : Str) = some va := lk_here
theorem qF_concept {va vc vt : V} : (qF va vc vt).lookup ("concept" : Str) = some vc := (lk_past (by decide +kernel)).trans lk_here
theorem qF_atoms {va vc vt : V} : (qF va vc vt).lookup ("atoms" : Str) = some vt := (lk_past (by decide +kernel)).trans ((lk_past (by decide +kernel)).trans lk_here)
theorem qF_no {va vc vt : V} {m : Str} (h1 : (m == ("axioms" : Str)) = false) (h2 : (m == ("concept" : Str)) = false) (h3 : (m == ("atoms" : Str)) = false) : (qF va vc vt).lookup m = none := (lk_past h1).trans ((lk_past h2).trans ((lk_past h3).trans rfl))
theorem qF_new (va vc vt : V) : putF "atoms" vt (putF "concept" vc (putF "axioms" va [])) = qF va vc vt := by
  have e1 : putF "axioms" va [] = [(("axioms" : Str), va)] := rfl
  rw [e1, put_past (by decide +kernel)]
  have e2 : putF "concept" vc [] = [(("concept" : Str), vc)] := rfl
  rw [e2, put_past (by decide +kernel), put_past (by decide +kernel)]
  rfl
/-- a question about a concept by some axioms -/
def QAt (K : PySem.W.Frag) (CQ : Addr) (H : Hp) (q : Addr) (ax : List Axiom) (c : C) : Prop := ∃ (dx : Addr) (va vc vt : V), H q = some (.ins CQ dx (qF va vc vt)) ∧ Axs K H va ax ∧ CT K H vc c ∧ Row K H vt (Oc.atomsFor ax [c])
theorem QAt.mono {K : PySem.W.Frag} {CQ : Addr} {H H' : Hp} {q : Addr} {ax : List Axiom} {c : C} (e : Ex H H') (h : QAt K CQ H q ax c) : QAt K CQ H' q ax c := by
  obtain ⟨dx, va, vc, vt, h1, h2, h3, h4⟩ := h
  exact ⟨dx, va, vc, vt, e q _ h1, h2.mono e, h3.mono e, h4.mono e⟩
theorem QAt.w {Z : List NTab} {K : PySem.W.Frag} {CQ : Addr} {H H' : Hp} {q : Addr} {ax : List Axiom} {c : C} (e : Wx Z H H') (h : QAt K CQ H q ax c) : QAt K CQ H' q ax c := by
  obtain ⟨dx, va, vc, vt, h1, h2, h3, h4⟩ := h
  exact ⟨dx, va, vc, vt, e.at h1, h2.w e, h3.w e, h4.w e⟩
structure QOk (ax : List Axiom) (c : C) : Prop where
  g : AxGood ax
  oc : Ok c
  lc : (enc c).length ≤ 1000
  le : (Oc.atomsFor ax [c]).length ≤ 5
section
variable {Z : List NTab} {K : PySem.W.Frag} {σ : L2.St} {H H' : Hp} {ta tb te : TE} {Φ Ψ : V → Hp → Prop}
theorem spw_l {sp : Sp} {vs xs : List V} (t : TabsN Z H) (h : SpL sp vs H xs) : SpW Z sp vs H (NewL H xs) := fun Q E q => h H (Ex.refl H) Q (fun p H2 hp e h2 => q _ H2 (.of t e) ⟨p, rfl, hp, h2⟩) E
/-- the first argument is a value behind which tables may have grown -/
theorem ea_consW {tr : TA} {vs : List V} (hm : ∀ v H H', Ex H H' → Φ v H → Φ v H') (h : EvW Z ta σ H Φ) (hr : ∀ v H1, Wx Z H H1 → Φ v H1 → EvA tr σ H1 vs) : ∀ Q : List V → Hp → Prop, (∀ ws H2, Wx Z H H2 → (∃ v, ws = v :: vs ∧ Φ v H2) → Q ws H2) → tCons ta tr σ H Q := fun Q q =>
  h _ fun v H1 w1 hv => hr v H1 w1 hv H1 (Ex.refl H1) _ fun H2 e2 => q _ H2 (w1.ex e2) ⟨v, rfl, hm v H1 H2 e2 hv⟩
variable {CQ : Addr} {q : Addr} {ax : List Axiom} {c : C}
/-- left_after(house_steps(self.axioms, self.atoms), self.atoms) -/
theorem ew_there (TQ : ClsQ K CQ) (t : TabsN Z H) (hs : σ[0]? = some (some (.ref q))) (hq : QAt K CQ H q ax c) (ok : QOk ax c) :
    EvW Z (tCall (spLA K) [] E0 (tCons (tCall (spHS K Z) [] E0 (tCons (tFld K (tVar 0) "axioms") (tCons (tFld K (tVar 0) "atoms") tNil))) (tCons (tFld K (tVar 0) "atoms") tNil))) σ H (NewL H ((Oc.types (Oc.atomsFor ax [c]) ax).map vN)) := by
  obtain ⟨dx, va, vc, vt, h1, h2, h3, h4⟩ := hq
  have hol := own_len (at_ := Oc.atomsFor ax [c]) (ax := ax) ok.le
  refine ew_callA (Ξ := fun ws H2 => ∃ v, ws = v :: [vt] ∧ NewA H (fun p H' => StL K H' p (ownSteps (Oc.atomsFor ax [c]) ax)) v H2) (ea_consW (fun v H H' e ⟨p, r1, r2, r3⟩ => ⟨p, r1, r2, r3.mono e⟩) (ew_call t (ea_cons (ev_fld (ev_var hs) h1 TQ.cl TQ.nX qF_axioms) (ea_cons (ev_fld (ev_var hs) h1 TQ.cl TQ.nA qF_atoms) ea_nil)) fun H1 e1 Q' E' q' =>
    sp_hs (tab_ex t e1) (h2.mono e1) (h4.mono e1) (good_for ok.g ok.oc) ok.le (len_for ok.g ok.lc) (axok_for ok.g) Q' E' fun v3 H3 w3 h3 => q' v3 H3 w3 (h3.back (.of t e1))) fun v H1 w1 _ => ea_cons (ev_fld (ev_var hs) (w1.at h1) TQ.cl TQ.nA qF_atoms) ea_nil) fun vs H1 w1 hv => ?_
  obtain ⟨v, rfl, p, rfl, hp0, hS⟩ := hv
  have k := spw_l (Z := Z) w1.tab (sp_la (K := K) hS (h4.w w1) ok.le (by omega))
  rw [left_own] at k
  exact fun Q E q' => k Q E fun v H2 w2 hv => q' v H2 w2 (hv.back w1)
/-- lowest_holding(self.concept, self.atoms, there) -/
theorem ew_low {tl : TE} {b : Addr} {l : List Nat} (TQ : ClsQ K CQ) (t : TabsN Z H) (hs : σ[0]? = some (some (.ref q))) (hq : QAt K CQ H q ax c) (ok : QOk ax c) (ht : Ev tl σ H (.ref b)) (hb : SqL K H b (l.map vN)) (hl : ∀ u ∈ l, u < 2 ^ (Oc.atomsFor ax [c]).length) :
    EvW Z (tCall (spLH K Z) [] E0 (tCons (tFld K (tVar 0) "concept") (tCons (tFld K (tVar 0) "atoms") (tCons tl tNil)))) σ H fun v _ => v = .int (orNo (l.find? fun t => Oc.holds (Oc.atomsFor ax [c]) t c)) := by
  obtain ⟨dx, va, vc, vt, h1, h2, h3, h4⟩ := hq
  refine ew_call t (ea_cons (ev_fld (ev_var hs) h1 TQ.cl TQ.nC qF_concept) (ea_cons (ev_fld (ev_var hs) h1 TQ.cl TQ.nA qF_atoms) (ea_cons ht ea_nil))) fun H1 e1 => ?_
  exact sp_lh (tab_ex t e1) (h3.mono e1) (h4.mono e1) (good_for ok.g ok.oc) (Nat.le_trans ok.le (by decide)) ok.oc ok.lc (within_for ax c) (ex_l e1 hb) hl
end
section
variable {P : Program} {w : World} {K : PySem.W.Frag} {mg : Str → Option Value} {base : Heap} {CQ : Addr} {Z : List NTab}
/-! ### the constructor -/
def spQI (CQ : Addr) : Sp := fun vs H Q _ => ∃ (p dx : Addr) (va vc vt : V), vs = [.ref p, va, vc, vt] ∧ H p = some (.ins CQ dx []) ∧ ∀ H' : Hp, H' p = some (.ins CQ dx (qF va vc vt)) → Ex (del H p) H' → Q .non H'
theorem sc_Question_init : FnScope ["self", "axioms", "concept", "atoms"] ["self", "axioms", "concept", "atoms"] (defScope s_Question_init) := ⟨rfl, rfl, rfl, by decide +kernel, rfl, by decide +kernel, by decide +kernel⟩
theorem ok_Question_init {f : Addr} {fd : FuncData} (F : Fun K "__init__" "Question.__init__" s_Question_init f fd) (TQ : ClsQ K CQ) : FnOk P w K mg base CX0 1 f fd ["self", "axioms", "concept", "atoms"] (spQI CQ) := by
  refine F.ok sc_Question_init (fun vs H Q E h => ?_) (fun cdv A outer s H vs Q E hr h => ⟨_, pss_cons (ps_fld (pv 0) (pv 1) rfl) (pss_cons (ps_fld (pv 0) (pv 2) rfl) (pss_one (ps_fld (pv 0) (pv 3) rfl))), ?_⟩)
  · obtain ⟨p, dx, va, vc, vt, rfl, _⟩ := h
    rfl
  · obtain ⟨p, dx, va, vc, vt, rfl, hp, k⟩ := h
    refine q_fld (ev_var rfl) (Ex.refl H) (ev_var rfl) hp TQ.cl TQ.nX (by show 0 < 1000; decide) fun H1 e1 => ?_
    refine q_fld (ev_var rfl) (Ex.refl _) (ev_var rfl) upd_same TQ.cl TQ.nC (by show 1 < 1000; decide) fun H2 e2 => ?_
    refine s_fld (ev_var rfl) (Ex.refl _) (ev_var rfl) upd_same TQ.cl TQ.nA (by show 2 < 1000; decide) fun H3 e3 => ?_
    rw [qF_new]
    refine k _ upd_same (Ex.mut ?_ (del_at H p))
    exact (Ex.mut ((Ex.mut ((del_ex H p).trans e1) (del_at H p)).trans e2) (del_at H p)).trans e3
/-! ### can -/
def spCan (K : PySem.W.Frag) (CQ : Addr) (Z : List NTab) : Sp := fun vs H Q _ => ∃ (q : Addr) (ax : List Axiom) (c : C), vs = [.ref q] ∧ TabsN Z H ∧ QAt K CQ H q ax c ∧ QOk ax c ∧ RetLW Z ((qCan ax c).map V.int) H Q
theorem sc_can : FnScope ["self", "there"] ["self"] (defScope s_can) := ⟨rfl, rfl, rfl, by decide +kernel, rfl, by decide +kernel, by decide +kernel⟩
/-- lowest_holding(..) >= 0 -/
theorem q_holds {σ : L2.St} {H : Hp} {te : TE} {tu tz : TS} {D : Ends} {o : Option Nat} (h : EvW Z te σ H fun v _ => v = .int (orNo o)) (h1 : o.isSome = true → ∀ H1, Wx Z H H1 → tu { D with nx := tz D } σ H1) (h2 : o.isSome = false → ∀ H1, Wx Z H H1 → tz D σ H1) :
    tSeq (tIfS (tTest (tOp (rI0 fun i j => .bl (decide (j ≤ i))) te (tC (.int 0)))) tu tNext) tz D σ H := by
  refine q_whenW (Z := Z) (b := o.isSome) (EvW.imp (ew_op (x := .bl (decide ((0 : Int) ≤ orNo o))) (y := .int 0) (z := .non) h (fun v H1 w1 hv => ev_c) fun v H1 w1 hv => ?_) fun v H2 w2 hv => ?_) h1 h2
  · subst hv
    exact rv_I0
  · rw [← orNo_ge]
    exact hv
theorem ok_can {f : Addr} {fd : FuncData} (F : Fun K "can" "Question.can" s_can f fd) (TQ : ClsQ K CQ) (uHS : Use P w K mg base 10 "house_steps" ["axioms", "atoms"] (spHS K Z)) (uLA : Use P w K mg base 2 "left_after" ["steps", "atoms"] (spLA K)) (uLH : Use P w K mg base 7 "lowest_holding" ["concept", "atoms", "there"] (spLH K Z)) : FnOk P w K mg base CX0 11 f fd ["self"] (spCan K CQ Z) := by
  refine F.ok sc_can (fun vs H Q E h => ?_) (fun cdv A outer s H vs Q E hr h => ⟨_,
    pss_cons (ps_set (i := 1) sc_can.nd rfl (.inl rfl) (pe_use uLA (hr.mono (by decide)) (pa_cons (pe_use uHS hr (pa_cons (pe_fld (pv 0) rfl) (pa_cons (pe_fld (pv 0) rfl) pa_nil))) (pa_cons (pe_fld (pv 0) rfl) pa_nil))))
    (pss_cons (ps_if (pt_cmpR op_ge (pe_use uLH (hr.mono (by decide)) (pa_cons (pe_fld (pv 0) rfl) (pa_cons (pe_fld (pv 0) rfl) (pa_cons (pv 1) pa_nil)))) pe_int (nomark _)) (pss_one (ps_ret (pe_lst (pa_cons pe_int pa_nil)))) pss_nil)
    (pss_one (ps_ret (pe_lst (pa_cons pe_int pa_nil))))), ?_⟩)
  · obtain ⟨q, ax, c, rfl, _⟩ := h
    rfl
  · obtain ⟨q, ax, c, rfl, t, hq, ok, k⟩ := h
    refine q_asgW (ew_there (Z := Z) TQ t rfl hq ok) fun v H1 w1 hv => ?_
    obtain ⟨b, rfl, hb0, hb⟩ := hv
    rw [qCan_val, ← find_any] at k
    refine q_holds (Z := Z) (ew_low TQ w1.tab rfl (hq.w w1) ok (ev_var rfl) (sq_of hb) fun u hu => types_lt hu) (fun hs H2 w2 => ?_) (fun hs H2 w2 => ?_)
    · rw [if_pos hs] at k
      exact s_retL (el_lst (ea_cons ev_c ea_nil) (by show 1 ≤ 100000; decide)) fun p H3 hp e3 h3 => k p H3 ((w1.trans w2).fr p hp) ((w1.trans w2).ex e3) h3
    · rw [if_neg (by rw [hs]; exact Bool.false_ne_true)] at k
      exact s_retL (el_lst (ea_cons ev_c ea_nil) (by show 1 ≤ 100000; decide)) fun p H3 hp e3 h3 => k p H3 ((w1.trans w2).fr p hp) ((w1.trans w2).ex e3) h3
end
end Bk

namespace Bk
open PySem PySem.Spec PyProof.Rows L2 Evl LamX NdefX
open Oc (C Axiom)
open Oc01 (Thing)
section
variable {P : Program} {w : World} {K : PySem.W.Frag} {mg : Str → Option Value} {base : Heap} {CQ : Addr} {Z : List NTab}
/-! ### none -/
def spNone (K : PySem.W.Frag) (CQ : Addr) (Z : List NTab) : Sp := fun vs H Q _ => ∃ (q : Addr) (ax : List Axiom) (c : C), vs = [.ref q] ∧ TabsN Z H ∧ QAt K CQ H q ax c ∧ QOk ax c ∧ RetLW Z ((qNone ax c).map V.int) H Q
theorem sc_none : FnScope ["self", "steps", "answer", "step"] ["self"] (defScope s_none) := ⟨rfl, rfl, rfl, by decide +kernel, rfl, by decide +kernel, by decide +kernel⟩
theorem stI_len (l : List Oc12.Step) : (l.flatMap stI).length = 3 * l.length := by
  induction l with
  | nil => rfl
  | cons s l ih =>
    rw [List.flatMap_cons, List.length_append, ih, List.length_cons (as := l)]
    show 3 + 3 * l.length = _
    omega
theorem ok_none {f : Addr} {fd : FuncData} (F : Fun K "none" "Question.none" s_none f fd) (T : Txt K mg) (TQ : ClsQ K CQ) (TX : TxtQ mg) (uHS : Use P w K mg base 10 "house_steps" ["axioms", "atoms"] (spHS K Z)) (uLA : Use P w K mg base 2 "left_after" ["steps", "atoms"] (spLA K)) (uLH : Use P w K mg base 7 "lowest_holding" ["concept", "atoms", "there"] (spLH K Z)) : FnOk P w K mg base CX0 11 f fd ["self"] (spNone K CQ Z) := by
  refine F.ok sc_none (fun vs H Q E h => ?_) (fun cdv A outer s H vs Q E hr h => ⟨_,
    pss_cons (ps_set (i := 1) sc_none.nd rfl (.inl rfl) (pe_use uHS hr (pa_cons (pe_fld (pv 0) rfl) (pa_cons (pe_fld (pv 0) rfl) pa_nil))))
    (pss_cons (ps_if (pt_cmpR op_ge (pe_use uLH (hr.mono (by decide)) (pa_cons (pe_fld (pv 0) rfl) (pa_cons (pe_fld (pv 0) rfl) (pa_cons (pe_use uLA (hr.mono (by decide)) (pa_cons (pv 1) (pa_cons (pe_fld (pv 0) rfl) pa_nil))) pa_nil)))) pe_int (nomark _)) (pss_one (ps_ret (pe_lst (pa_cons (pe_cst TX.kNO_SUCH_PROOF) pa_nil)))) pss_nil)
    (pss_cons (ps_set (i := 2) sc_none.nd rfl (.inl rfl) (pe_lst (pa_cons (pe_len T.len (pv 1)) pa_nil)))
    (pss_cons (ps_for PassesOwn.never rfl (pi_list (pv 1)) (pg_name (i := 3) sc_none.nd rfl (.inl rfl)) (pss_one (ps_expr (pe_bm PySem.F.plainAttrs_list PySem.F.slot_list_extend PySem.F.type_list_extend mt_extT (pv 2) (pa_cons (pv 3) pa_nil)))))
    (pss_one (ps_ret (pv 2)))))), ?_⟩)
  · obtain ⟨q, ax, c, rfl, _⟩ := h
    rfl
  · obtain ⟨q, ax, c, rfl, t, hq, ok, k⟩ := h
    obtain ⟨dx, va, vc, vt, h1, h2, h3, h4⟩ := id hq
    have hol := own_len (at_ := Oc.atomsFor ax [c]) (ax := ax) ok.le
    refine q_asgW (Z := Z) (Φ := NewA H fun p H' => StL K H' p (ownSteps (Oc.atomsFor ax [c]) ax)) (ew_call t (ea_cons (ev_fld (ev_var rfl) h1 TQ.cl TQ.nX qF_axioms) (ea_cons (ev_fld (ev_var rfl) h1 TQ.cl TQ.nA qF_atoms) ea_nil)) fun H1 e1 Q' E' q' =>
      sp_hs (tab_ex t e1) (h2.mono e1) (h4.mono e1) (good_for ok.g ok.oc) ok.le (len_for ok.g ok.lc) (axok_for ok.g) Q' E' fun v3 H3 w3 h3 => q' v3 H3 w3 (h3.back (.of t e1))) fun sv H1 w1 hsv => ?_
    obtain ⟨sp, rfl, hs0, hS⟩ := hsv
    have hq1 := hq.w w1
    obtain ⟨dx1, va1, vc1, vt1, h11, h12, h13, h14⟩ := id hq1
    rw [qNone_val, ← find_any] at k
    have hlow : EvW Z (tCall (spLH K Z) [] E0 (tCons (tFld K (tVar 0) "concept") (tCons (tFld K (tVar 0) "atoms") (tCons (tCall (spLA K) [] E0 (tCons (tVar 1) (tCons (tFld K (tVar 0) "atoms") tNil))) tNil)))) [some (.ref q), some (.ref sp), none, none] H1 fun v _ => v = .int (orNo ((Oc.types (Oc.atomsFor ax [c]) ax).find? fun t => Oc.holds (Oc.atomsFor ax [c]) t c)) := by
      refine ew_callP w1.tab (eap_cons (ev_fld (ev_var rfl) h11 TQ.cl TQ.nC qF_concept) (eap_cons (ev_fld (ev_var rfl) h11 TQ.cl TQ.nA qF_atoms) (eap_consP ofL_mono (evp_ofL (el_call (ea_cons (ev_var rfl) (ea_cons (ev_fld (ev_var rfl) h11 TQ.cl TQ.nA qF_atoms) ea_nil)) (sp_la hS h14 ok.le (by omega)))) ea_nil))) fun vs H2 e2 hv => ?_
      obtain ⟨vs1, rfl, vs2, rfl, vb, rfl, b, rfl, hb⟩ := hv
      rw [left_own] at hb
      exact sp_lh (tab_ex w1.tab e2) (h13.mono e2) (h14.mono e2) (good_for ok.g ok.oc) (Nat.le_trans ok.le (by decide)) ok.oc ok.lc (within_for ax c) (sq_of hb) fun u hu => types_lt hu
    refine q_holds (Z := Z) hlow (fun hs H2 w2 => ?_) (fun hs H2 w2 => ?_)
    · rw [if_pos hs] at k
      exact s_retL (el_lst (ea_cons ev_c ea_nil) (by show 1 ≤ 100000; decide)) fun p H3 hp e3 h3 => k p H3 ((w1.trans w2).fr p hp) ((w1.trans w2).ex e3) h3
    · rw [if_neg (by rw [hs]; exact Bool.false_ne_true)] at k
      have w02 := w1.trans w2
      obtain ⟨svs, hsv, hSA⟩ := hS.w w2
      refine q_asgL (el_lst (ea_cons (ev_len (ev_var rfl) (sq_of hsv)) ea_nil) (by show 1 ≤ 100000; decide)) fun r H7 hr7 e7 h7 => ?_
      refine q_forLn (K := K) (ev_var rfl) (sq_of (e7 sp _ hsv)) (fun i σ' H' => ∃ (x3 : Option V), σ' = [some (.ref q), some (.ref sp), some (.ref r), x3] ∧ Ex H2 H' ∧ i ≤ svs.length ∧ H' r = some (.lst (V.int (svs.length : Int) :: (((ownSteps (Oc.atomsFor ax [c]) ax).take i).flatMap stI).map V.int)))
        (fun H8 e8 => ⟨none, rfl, e7.trans e8, Nat.zero_le _, e8 r _ h7⟩) (fun i σ' H' _ ⟨_, _, e, _⟩ => sq_of (e sp _ hsv)) ?_ ?_
      · rintro i v σ' H' hi ⟨x3, rfl, e, hle, hL⟩
        obtain ⟨st, hst, ⟨p, rfl, hp⟩⟩ := hSA.got hi
        have hi' := (List.getElem?_eq_some_iff.mp hi).1
        refine ⟨_, rfl, Or.inl ⟨rfl, _, sq_of hL⟩, _, rfl, r, p, _, stV st, rfl, rfl, hL, ex_t e hp, ?_, ?_⟩
        · rw [List.length_cons, List.length_map, stI_len]
          have q1 : ((ownSteps (Oc.atomsFor ax [c]) ax).take i).length ≤ (ownSteps (Oc.atomsFor ax [c]) ax).length := List.length_take_le' _ _
          show _ + 3 ≤ 100000
          omega
        · refine ⟨_, rfl, Ex.mut e hr7, hi', ?_⟩
          rw [upd_same, take_more hst, List.flatMap_append, List.map_append, stV_map]
          simp
      · rintro σ' H' ⟨x3, rfl, e, hle, hL⟩
        refine s_ret (ev_var rfl) fun H8 e8 => k r H8 (w02.fr r hr7) (w02.ex (e.trans e8)) ?_
        rw [e8 r _ hL, hSA.1, List.take_length]
        rfl
/-! ### checknone -/
def spQCN (K : PySem.W.Frag) (CQ : Addr) (Z : List NTab) : Sp := fun vs H Q _ => ∃ (q a : Addr) (ax : List Axiom) (c : C) (ns : List Nat), vs = [.ref q, .ref a] ∧ TabsN Z H ∧ QAt K CQ H q ax c ∧ QOk ax c ∧ SqL K H a (ns.map vN) ∧ ns.length ≤ 1000 ∧ RetLW Z ((qCN ax c ns).map V.int) H Q
theorem sc_checknone : FnScope ["self", "numbers", "steps"] ["self", "numbers"] (defScope s_checknone) := ⟨rfl, rfl, rfl, by decide +kernel, rfl, by decide +kernel, by decide +kernel⟩
theorem ok_checknone {f : Addr} {fd : FuncData} (F : Fun K "checknone" "Question.checknone" s_checknone f fd) (TQ : ClsQ K CQ) (TX : TxtQ mg) (uRSt : Use P w K mg base 1 "read_steps" ["numbers"] (spRSt K)) (uCN : Use P w K mg base 10 "check_none" ["axioms", "atoms", "concept", "steps"] (spCN K Z)) : FnOk P w K mg base CX0 11 f fd ["self", "numbers"] (spQCN K CQ Z) := by
  refine F.ok sc_checknone (fun vs H Q E h => ?_) (fun cdv A outer s H vs Q E hr h => ⟨_,
    pss_cons (ps_set (i := 2) sc_checknone.nd rfl (.inl rfl) (pe_use uRSt (hr.mono (by decide)) (pa_cons (pv 1) pa_nil)))
    (pss_cons (ps_if (pt_cmpR op_isN (pv 2) pe_non (nomark _)) (pss_one (ps_ret (pe_lst (pa_cons (pe_cst TX.kNOT_A_PROOF) pa_nil)))) pss_nil)
    (pss_one (ps_ret (pe_use uCN hr (pa_cons (pe_fld (pv 0) rfl) (pa_cons (pe_fld (pv 0) rfl) (pa_cons (pe_fld (pv 0) rfl) (pa_cons (pv 2) pa_nil)))))))), ?_⟩)
  · obtain ⟨q, a, ax, c, ns, rfl, _⟩ := h
    rfl
  · obtain ⟨q, a, ax, c, ns, rfl, t, hq, ok, ha, hn, k⟩ := h
    refine q_asgP (evp_call (ea_cons (ev_var rfl) ea_nil) (sp_rst ha hn)) fun v H1 e1 hv => ?_
    cases hs : Oc12.steps? ns with
    | none =>
      rw [hs] at hv
      obtain rfl : v = .non := hv
      rw [qCN_none hs] at k
      refine q_when (et_is (et_isN (ev_var rfl)) (decide_eq_true rfl)) (fun _ H2 e2 => ?_) (fun q => by cases q)
      exact s_retL (el_lst (ea_cons ev_c ea_nil) (by show 1 ≤ 100000; decide)) fun p H3 hp e3 h3 => k p H3 (fresh_back (e1.trans e2) hp) (.of t (e1.trans (e2.trans e3))) h3
    | some ss =>
      rw [hs] at hv
      obtain ⟨p, rfl, hS⟩ : ∃ p, v = .ref p ∧ StL K H1 p ss := hv
      rw [qCN_some hs] at k
      refine q_when (et_is (et_isN (ev_var rfl)) (decide_eq_false fun q => by cases q)) (fun q => by cases q) (fun _ H2 e2 => ?_)
      have e12 := e1.trans e2
      have t2 := tab_ex t e12
      obtain ⟨dx, va, vc, vt, h1, h2, h3, h4⟩ := hq.mono e12
      refine s_retW (Z := Z) (Φ := NewL H2 ((ckN (Oc.atomsFor ax [c]) ax c ss).map vN)) (ew_call t2 (ea_cons (ev_fld (ev_var rfl) h1 TQ.cl TQ.nX qF_axioms) (ea_cons (ev_fld (ev_var rfl) h1 TQ.cl TQ.nA qF_atoms) (ea_cons (ev_fld (ev_var rfl) h1 TQ.cl TQ.nC qF_concept) (ea_cons (ev_var rfl) ea_nil)))) fun H3 e3 Q' E' q' =>
        sp_cn (tab_ex t2 e3) (h2.mono e3) (h4.mono e3) (h3.mono e3) (hS.mono (e2.trans e3)) (good_for ok.g ok.oc) ok.le (len_for ok.g ok.lc) (axok_for ok.g) ok.oc ok.lc (within_for ax c) Q' E' fun v3 H4 w4 h4 => q' v3 H4 w4 (h4.back (.of t2 e3))) fun v H3 w3 hv => ?_
      obtain ⟨r, rfl, hr0, hr3⟩ := hv
      exact k r H3 (fresh_back e12 hr0) ((Wx.of t e12).trans w3) hr3
/-! ### checkmodel -/
def spQCM (K : PySem.W.Frag) (CQ : Addr) (Z : List NTab) : Sp := fun vs H Q _ => ∃ (q a : Addr) (ax : List Axiom) (c : C) (lvs : List V) (ls : List (List Nat)), vs = [.ref q, .ref a] ∧ TabsN Z H ∧ QAt K CQ H q ax c ∧ QOk ax c ∧ SqL K H a lvs ∧ All2 (Nss K H) lvs ls ∧ ls.length ≤ 100 ∧ (∀ l ∈ ls, l.length ≤ 1000) ∧ RetLW Z ((qCM ax c ls).map V.int) H Q
theorem sc_checkmodel : FnScope ["self", "lists", "things"] ["self", "lists"] (defScope s_checkmodel) := ⟨rfl, rfl, rfl, by decide +kernel, rfl, by decide +kernel, by decide +kernel⟩
theorem ThL.notNone {H : Hp} {v : V} {m : List Thing} (h : ThL K H v m) : decide (v = .non) = false := by
  obtain ⟨a, vs, rfl, _⟩ := h
  exact decide_eq_false fun q => by cases q
theorem AxGood.c {ax : List Axiom} (h : AxGood ax) : AxC ax := ⟨Nat.le_trans h.len (by decide), h.ok⟩
theorem ok_checkmodel {f : Addr} {fd : FuncData} (F : Fun K "checkmodel" "Question.checkmodel" s_checkmodel f fd) (TQ : ClsQ K CQ) (TX : TxtQ mg) (uRT : Use P w K mg base 2 "read_things" ["lists"] (spRThs K)) (uCM : Use P w K mg base 7 "check_model" ["axioms", "concept", "things"] (spCM K Z)) : FnOk P w K mg base CX0 8 f fd ["self", "lists"] (spQCM K CQ Z) := by
  refine F.ok sc_checkmodel (fun vs H Q E h => ?_) (fun cdv A outer s H vs Q E hr h => ⟨_,
    pss_cons (ps_set (i := 2) sc_checkmodel.nd rfl (.inl rfl) (pe_use uRT (hr.mono (by decide)) (pa_cons (pv 1) pa_nil)))
    (pss_cons (ps_if (pt_cmpR op_isN (pv 2) pe_non (nomark _)) (pss_one (ps_ret (pe_lst (pa_cons (pe_cst TX.kNOT_A_PROOF) pa_nil)))) pss_nil)
    (pss_one (ps_ret (pe_use uCM hr (pa_cons (pe_fld (pv 0) rfl) (pa_cons (pe_fld (pv 0) rfl) (pa_cons (pv 2) pa_nil))))))), ?_⟩)
  · obtain ⟨q, a, ax, c, lvs, ls, rfl, _⟩ := h
    rfl
  · obtain ⟨q, a, ax, c, lvs, ls, rfl, t, hq, ok, ha, hA, hn, hl, k⟩ := h
    refine q_asgP (evp_call (ea_cons (ev_var rfl) ea_nil) (sp_rths ha hA hn hl)) fun v H1 e1 hv => ?_
    cases hs : Oc12.things? ls with
    | none =>
      rw [hs] at hv
      obtain rfl : v = .non := hv
      rw [qCM_none hs] at k
      refine q_when (et_is (et_isN (ev_var rfl)) (decide_eq_true rfl)) (fun _ H2 e2 => ?_) (fun q => by cases q)
      exact s_retL (el_lst (ea_cons ev_c ea_nil) (by show 1 ≤ 100000; decide)) fun p H3 hp e3 h3 => k p H3 (fresh_back (e1.trans e2) hp) (.of t (e1.trans (e2.trans e3))) h3
    | some m =>
      rw [hs] at hv
      have hv1 : ThL K H1 v m := hv
      rw [qCM_some hs] at k
      obtain ⟨hm1, hm2⟩ := things_len hs
      refine q_when (et_is (et_isN (ev_var rfl)) hv1.notNone) (fun q => by cases q) (fun _ H2 e2 => ?_)
      have e12 := e1.trans e2
      have t2 := tab_ex t e12
      obtain ⟨dx, va, vc, vt, h1, h2, h3, h4⟩ := hq.mono e12
      refine s_retW (Z := Z) (Φ := NewL H2 ((ck (Oc12.checkModel ax c m)).map vN)) (ew_call t2 (ea_cons (ev_fld (ev_var rfl) h1 TQ.cl TQ.nX qF_axioms) (ea_cons (ev_fld (ev_var rfl) h1 TQ.cl TQ.nC qF_concept) (ea_cons (ev_var rfl) ea_nil))) fun H3 e3 Q' E' q' =>
        sp_cm (tab_ex t2 e3) (h2.mono e3) (h3.mono e3) (hv1.mono (e2.trans e3)) ok.g.c ok.oc ok.lc (by omega) (fun th hth => ?_) Q' E' fun v3 H4 w4 h4 => q' v3 H4 w4 (h4.back (.of t2 e3))) fun v H3 w3 hv => ?_
      · obtain ⟨l, hl1, hl2⟩ := hm2 th hth
        exact Nat.le_trans hl2 (hl l hl1)
      · obtain ⟨r, rfl, hr0, hr3⟩ := hv
        exact k r H3 (fresh_back e12 hr0) ((Wx.of t e12).trans w3) hr3
end
end Bk

namespace Bk
open PySem PySem.Spec PyProof.Rows L2 Evl LamX NdefX
open Oc (C Axiom)
open Oc01 (Thing)
section
variable {K : PySem.W.Frag} {H : Hp}
theorem SqL.upd1 {a l : Addr} {zs xs ys : List V} (hl : H l = some (.lst xs)) (n : a ≠ l) (h : SqL K H a zs) : SqL K (upd H l (.lst ys)) a zs := by
  rcases h with (h | ⟨o, h⟩) | h
  · exact .inl (.inl (by rw [upd_ne n]; exact h))
  · exact .inl (.inr ⟨o, by rw [upd_ne n]; exact h⟩)
  · exact .inr h
end
section
variable {P : Program} {w : World} {K : PySem.W.Frag} {mg : Str → Option Value} {base : Heap} {CQ : Addr} {Z : List NTab}
/-! ### model -/
def spModel (K : PySem.W.Frag) (CQ : Addr) (Z : List NTab) : Sp := fun vs H Q _ => ∃ (q : Addr) (ax : List Axiom) (c : C), vs = [.ref q] ∧ TabsN Z H ∧ QAt K CQ H q ax c ∧ QOk ax c ∧ RetLW Z ((qModel ax c).map V.int) H Q
abbrev nModel : List Str := ["self", "there", "first", "things", "answer", "thing", "way"]
theorem sc_model : FnScope nModel ["self"] (defScope s_model) := ⟨rfl, rfl, rfl, by decide +kernel, rfl, by decide +kernel, by decide +kernel⟩
theorem ok_model {f : Addr} {fd : FuncData} (F : Fun K "model" "Question.model" s_model f fd) (T : Txt K mg) (TQ : ClsQ K CQ) (TX : TxtQ mg) (uHS : Use P w K mg base 10 "house_steps" ["axioms", "atoms"] (spHS K Z)) (uLA : Use P w K mg base 2 "left_after" ["steps", "atoms"] (spLA K)) (uLH : Use P w K mg base 7 "lowest_holding" ["concept", "atoms", "there"] (spLH K Z))
    (uTM : Use P w K mg base 10 "told_model" ["atoms", "there", "first"] (spTM K Z)) : FnOk P w K mg base CX0 11 f fd ["self"] (spModel K CQ Z) := by
  refine F.ok sc_model (fun vs H Q E h => ?_) (fun cdv A outer s H vs Q E hr h => ⟨_,
    pss_cons (ps_set (i := 1) sc_model.nd rfl (.inl rfl) (pe_use uLA (hr.mono (by decide)) (pa_cons (pe_use uHS hr (pa_cons (pe_fld (pv 0) rfl) (pa_cons (pe_fld (pv 0) rfl) pa_nil))) (pa_cons (pe_fld (pv 0) rfl) pa_nil))))
    (pss_cons (ps_set (i := 2) sc_model.nd rfl (.inl rfl) (pe_use uLH (hr.mono (by decide)) (pa_cons (pe_fld (pv 0) rfl) (pa_cons (pe_fld (pv 0) rfl) (pa_cons (pv 1) pa_nil)))))
    (pss_cons (ps_if (pt_cmpR op_lt (pv 2) pe_int (nomark _)) (pss_one (ps_ret (pe_lst (pa_cons (pe_cst TX.kNO_SUCH_PROOF) pa_nil)))) pss_nil)
    (pss_cons (ps_set (i := 3) sc_model.nd rfl (.inl rfl) (pe_use uTM hr (pa_cons (pe_fld (pv 0) rfl) (pa_cons (pv 1) (pa_cons (pv 2) pa_nil)))))
    (pss_cons (ps_set (i := 4) sc_model.nd rfl (.inl rfl) (pe_lst (pa_cons (pe_len T.len (pv 3)) pa_nil)))
    (pss_cons (ps_for PassesOwn.never rfl (pi_list (pv 3)) (pg_name (i := 5) sc_model.nd rfl (.inl rfl))
      (pss_cons (ps_expr (pe_bm PySem.F.plainAttrs_list PySem.F.slot_list_append PySem.F.type_list_append mt_append (pv 4) (pa_cons (pe_ix ix_tup (pv 5) pe_int (fun _ _ => rfl)) pa_nil)))
      (pss_cons (ps_expr (pe_bm PySem.F.plainAttrs_list PySem.F.slot_list_append PySem.F.type_list_append mt_append (pv 4) (pa_cons (pe_len T.len (pe_ix ix_tup (pv 5) pe_int (fun _ _ => rfl))) pa_nil)))
      (pss_one (ps_for PassesOwn.never rfl (pi_list (pe_ix ix_tup (pv 5) pe_int (fun _ _ => rfl))) (pg_name (i := 6) sc_model.nd rfl (.inl rfl)) (pss_one (ps_expr (pe_bm PySem.F.plainAttrs_list PySem.F.slot_list_extend PySem.F.type_list_extend mt_extT (pv 4) (pa_cons (pv 6) pa_nil)))))))))
    (pss_one (ps_ret (pv 4)))))))), ?_⟩)
  · obtain ⟨q, ax, c, rfl, _⟩ := h
    rfl
  · obtain ⟨q, ax, c, rfl, t, hq, ok, k⟩ := h
    rw [qModel_val] at k
    have hp5 := pow_le5 ok.le
    have htl := types_len (Oc.atomsFor ax [c]) ax
    refine q_asgW (ew_there (Z := Z) TQ t rfl hq ok) fun v H1 w1 hv => ?_
    obtain ⟨b, rfl, hb0, hb⟩ := hv
    refine q_asgW (ew_low (Z := Z) TQ w1.tab rfl (hq.w w1) ok (ev_var rfl) (sq_of hb) fun u hu => types_lt hu) fun v H2 w2 hv => ?_
    subst hv
    have w02 := w1.trans w2
    have hb2 := w2.at hb
    refine q_when (et_is (et_test (ev_op (ev_var rfl) ev_c rv_I0)) (orNo_lt _)) (fun hs H3 e3 => ?_) (fun hs H3 e3 => ?_)
    · cases z : (Oc.types (Oc.atomsFor ax [c]) ax).find? fun t => Oc.holds (Oc.atomsFor ax [c]) t c with
      | some y =>
        rw [z] at hs
        cases hs
      | none =>
        rw [z] at k
        exact s_retL (el_lst (ea_cons ev_c ea_nil) (by show 1 ≤ 100000; decide)) fun p H4 hp e4 h4 => k p H4 (w02.fr p (fresh_back e3 hp)) (w02.ex (e3.trans e4)) h4
    · cases z : (Oc.types (Oc.atomsFor ax [c]) ax).find? fun t => Oc.holds (Oc.atomsFor ax [c]) t c with
      | none =>
        rw [z] at hs
        cases hs
      | some y =>
        rw [z] at k
        change RetLW Z (((told1 (Oc.atomsFor ax [c]) (Oc.types (Oc.atomsFor ax [c]) ax) y).length :: (told1 (Oc.atomsFor ax [c]) (Oc.types (Oc.atomsFor ax [c]) ax) y).flatMap thI).map vN) H Q at k
        have hyl : y ∈ Oc.types (Oc.atomsFor ax [c]) ax := List.mem_of_find?_eq_some z
        have w03 := w02.ex e3
        obtain ⟨dx, va, vc, vt, h1, h2, h3, h4⟩ := hq.w w03
        have hb3 := e3 b _ hb2
        generalize hm : told1 (Oc.atomsFor ax [c]) (Oc.types (Oc.atomsFor ax [c]) ax) y = m at k
        have hm1 : m.length ≤ 32 := by
          have := told_len (at_ := Oc.atomsFor ax [c]) hyl
          rw [hm] at this
          omega
        have hm2 : ∀ th ∈ m, th.to.length ≤ 5 := fun th hth => by
          rw [← hm] at hth
          exact Nat.le_trans (told_to th hth) ok.le
        refine q_asgW (Z := Z) (Φ := NewA H3 fun p H' => ThL K H' (.ref p) m) (ew_call w03.tab (ea_cons (ev_fld (ev_var rfl) h1 TQ.cl TQ.nA qF_atoms) (ea_cons (ev_var rfl) (ea_cons (ev_var rfl) ea_nil))) fun H4 e4 Q' E' q' =>
          sp_tm (t := y) (tab_ex w03.tab e4) (h4.mono e4) (good_for ok.g ok.oc) ok.le (len_for ok.g ok.lc) (sq_of (e4 b _ hb3)) (fun u hu => types_lt hu) (by omega) (types_fix _ _) hyl Q' E' fun v5 H5 w5 h5 => q' v5 H5 w5 (by rw [hm] at h5; exact h5.back (.of w03.tab e4))) fun tv H4 w4 htv => ?_
        obtain ⟨tp, rfl, ht0, a, tvs, ea, hta, hT⟩ := htv
        cases ea
        have w04 := w03.trans w4
        refine q_asgL (el_lst (ea_cons (ev_len (ev_var rfl) hta) ea_nil) (by show 1 ≤ 100000; decide)) fun r H5 hr4 e5 h5 => ?_
        have hlv : tvs.length = m.length := hT.1
        have keep : ∀ {H' : Hp} {xs ys : List V} {l : Addr} {v : V} {e : Nat × Nat}, H' l = some (.lst xs) → WyP K H' v e → WyP K (upd H' l (.lst ys)) v e := fun hl z => WyP.upd hl z
        refine q_forLn (K := K) (ev_var rfl) (ex_l e5 hta) (fun i σ' H' => ∃ (x5 x6 : Option V), σ' = [some (.ref q), some (.ref b), some (vN y), some (.ref tp), some (.ref r), x5, x6] ∧ Ex H4 H' ∧ i ≤ tvs.length ∧ H' r = some (.lst ((m.length :: (m.take i).flatMap thI).map vN)))
          (fun H6 e6 => ⟨none, none, rfl, e5.trans e6, Nat.zero_le _, by rw [e6 r _ h5, hlv]; rfl⟩) (fun i σ' H' _ ⟨_, _, _, e, _⟩ => ex_l e hta) ?_ ?_
        · rintro i v σ' H6 hi ⟨x5, x6, rfl, e6, hle, hL⟩
          obtain ⟨th, hth, p, wb, wvs, rfl, hp, hwb, hW⟩ := hT.got hi
          have hi' := (List.getElem?_eq_some_iff.mp hi).1
          have hto := hm2 th (List.mem_of_getElem? hth)
          have hln : ((m.length :: (m.take i).flatMap thI).map vN).length ≤ 1 + 12 * 32 := by
            rw [List.length_map, List.length_cons]
            have q1 := thI_len (k := 5) (m.take i) fun x hx => hm2 x (List.mem_of_mem_take hx)
            have q2 : (m.take i).length ≤ m.length := List.length_take_le' _ _
            have q3 : (2 + 2 * 5) * (m.take i).length ≤ 12 * 32 := Nat.mul_le_mul_left 12 (by omega)
            omega
          refine q_app hL (ev_var rfl) (ev_op (ev_var rfl) ev_c (rv_ixT (ex_t e6 hp) (atI_nat (j := 0) rfl))) (by omega) fun H7 e7 => ?_
          have e47 : Ex H4 (upd H7 r (.lst ((m.length :: (m.take i).flatMap thI).map vN ++ [vN th.names]))) := Ex.mut (e6.trans e7) hr4
          refine q_app upd_same (ev_var rfl) (ev_len (ev_op (ev_var rfl) ev_c (rv_ixT (ex_t e47 hp) (atI_nat (j := 1) rfl))) (ex_l e47 hwb)) (by rw [List.length_append]; show _ + 1 < 100000; omega) fun H8 e8 => ?_
          generalize hG : upd H8 r (.lst ((m.length :: (m.take i).flatMap thI).map vN ++ [vN th.names] ++ [.int (wvs.length : Int)])) = G
          have e4G : Ex H4 G := by
            rw [← hG]
            exact Ex.mut (e47.trans e8) hr4
          have hGr : G r = some (.lst ((m.length :: (m.take i).flatMap thI).map vN ++ [vN th.names] ++ [.int (wvs.length : Int)])) := by
            rw [← hG]
            exact upd_same
          have hwl : wvs.length = th.to.length := hW.1
          refine s_forLn (K := K) (ev_op (ev_var rfl) ev_c (rv_ixT (ex_t e4G hp) (atI_nat (j := 1) rfl))) (ex_l e4G hwb) (fun j σ' H' => ∃ (x6 : Option V), σ' = [some (.ref q), some (.ref b), some (vN y), some (.ref tp), some (.ref r), some (.ref p), x6] ∧ Ex H4 H' ∧ H' r = some (.lst ((m.length :: (m.take i).flatMap thI).map vN ++ [vN th.names] ++ [.int (wvs.length : Int)] ++ ((th.to.take j).flatMap fun e => [e.1, e.2]).map vN)))
            (fun H9 e9 => ⟨_, rfl, e4G.trans e9, by rw [e9 r _ hGr]; simp⟩) (fun j σ' H' _ ⟨_, _, e, _⟩ => ex_l e hwb) ?_ ?_
          · rintro j v σ' H9 hj ⟨x6, rfl, e9, hL9⟩
            obtain ⟨e, he, wp, rfl, hwp⟩ := hW.got hj
            refine ⟨_, rfl, Or.inl ⟨rfl, _, sq_of hL9⟩, _, rfl, r, wp, _, [vN e.1, vN e.2], rfl, rfl, hL9, ex_t e9 hwp, ?_, ?_⟩
            · rw [List.length_append, List.length_append, List.length_append, List.length_map (as := (th.to.take j).flatMap _), pairs_len]
              have q2 : (th.to.take j).length ≤ th.to.length := List.length_take_le' _ _
              show _ + 1 + 1 + _ + 2 ≤ 100000
              omega
            · refine ⟨_, rfl, Ex.mut e9 hr4, ?_⟩
              rw [upd_same, take_more he, List.flatMap_append, List.map_append]
              simp
          · rintro σ' H9 ⟨x6, rfl, e9, hL9⟩
            refine ⟨_, _, rfl, e9, hi', ?_⟩
            rw [hL9, hwl, List.take_length, take_more hth, List.flatMap_append]
            unfold thI
            simp [vN]
        · rintro σ' H6 ⟨x5, x6, rfl, e6, hle, hL⟩
          refine s_ret (ev_var rfl) fun H7 e7 => k r H7 (w04.fr r hr4) (w04.ex (e6.trans e7)) ?_
          rw [e7 r _ hL, hlv, List.take_length]
end
end Bk

namespace Bk
open PySem PySem.Spec PyProof.Rows L2 Evl LamX NdefX
open Oc (C Axiom)
open Oc01 (Thing)
abbrev s_answer_question : Stmt := top 83
structure TxtA (mg : Str → Option Value) : Prop where
  kNONE : Cst mg "NONE" (.int 3)
  kMODEL : Cst mg "MODEL" (.int 4)
  kCHECKNONE : Cst mg "CHECKNONE" (.int 5)
  kCHECKMODEL : Cst mg "CHECKMODEL" (.int 6)
/-- how a call about a concept may stand -/
inductive FineQ : Nat → List (List Nat) → Prop
  | none (l : List Nat) : l.length ≤ 100 → FineQ 3 [l]
  | model (l : List Nat) : l.length ≤ 100 → FineQ 4 [l]
  | checknone (l p : List Nat) : l.length ≤ 100 → p.length ≤ 100 → FineQ 5 [l, p]
  | checkmodel (l : List Nat) (m : List (List Nat)) : l.length ≤ 100 → m.length ≤ 10 → (∀ r ∈ m, r.length ≤ 30) → FineQ 6 (l :: m)
  | can (l : List Nat) : l.length ≤ 100 → FineQ 7 [l]
def aqAns (ax : List Axiom) (c : C) (n : Nat) (rows : List (List Nat)) : List Int := if n = 3 then qNone ax c else if n = 4 then qModel ax c else if n = 5 then qCN ax c (rows.getD 1 []) else if n = 6 then qCM ax c (rows.drop 1) else qCan ax c
def askAns (ax : List Axiom) (n : Nat) (rows : List (List Nat)) : List Int := match Oc.concept (rows.headD []) with
  | none => [-1]
  | some c => if 5 < (Oc.atomsFor ax [c]).length then [-7] else aqAns ax c n rows
theorem RetLW.up {Z : List NTab} {xs : List V} {H H1 : Hp} {Q : VK} (k : RetLW Z xs H Q) (w : Wx Z H H1) : RetLW Z xs H1 Q := fun p H2 hp w2 h2 => k p H2 (w.fr p hp) (w.trans w2) h2
section
variable {K : PySem.W.Frag} {σ : L2.St} {H : Hp} {to ta tb td : TE} {t : TA} {D : Ends} {CQ : Addr}
theorem eap_of {vs : List V} (h : EvA t σ H vs) : EvAP t σ H fun ws _ => ws = vs := fun H1 e Q q => h H1 e _ fun H2 e2 => q vs H2 e2 rfl
/-- return question.m(..) -/
theorem s_qm {m : Str} {sp : Sp} {q : Addr} {ax : List Axiom} {c : C} {Ξ : List V → Hp → Prop} (hto : Ev to σ H (.ref q)) (hq : QAt K CQ H q ax c) (h1 : (m == ("axioms" : Str)) = false) (h2 : (m == ("concept" : Str)) = false) (h3 : (m == ("atoms" : Str)) = false) (ht : EvAP t σ H Ξ) (hs : ∀ vs H1, Ex H H1 → Ξ vs H1 → sp (.ref q :: vs) H1 D.rt E0) : tRet (tMeth CQ m sp [] E0 to t) D σ H := by
  obtain ⟨dx, va, vc, vt, hq1, _⟩ := hq
  refine hto H (Ex.refl H) _ fun H1 e1 => ⟨q, dx, _, rfl, e1 q _ hq1, qF_no h1 h2 h3, ht H1 e1 _ fun vs H2 e2 hv => ?_⟩
  rw [List.append_nil]
  exact hs vs H2 (e1.trans e2) hv
/-- Question(axioms, concept, atoms) -/
theorem evp_question {va vc vt : V} {ax : List Axiom} {c : C} (h1 : Ev ta σ H va) (h2 : Ev tb σ H vc) (h3 : Ev td σ H vt) (ha : Axs K H va ax) (hc : CT K H vc c) (hr : Row K H vt (Oc.atomsFor ax [c])) : EvP (tMake CQ (spQI CQ) [] E0 (tCons ta (tCons tb (tCons td tNil)))) σ H fun v H' => ∃ q, v = .ref q ∧ QAt K CQ H' q ax c := fun H1 e Q q =>
  h1 H1 e _ fun H2 e2 => h2 H2 (e.trans e2) _ fun H3 e3 => h3 H3 ((e.trans e2).trans e3) _ fun H4 e4 x dx hx hdx hne => by
    have ex : Ex H4 (upd (upd H4 dx (.own x)) x (.ins CQ dx [])) := fun b o h => by
      rw [upd_ne (ne_of_none h hx), upd_ne (ne_of_none h hdx)]
      exact h
    refine ⟨x, dx, va, vc, vt, rfl, upd_same, fun H5 hq5 e5 => ⟨rfl, ?_⟩⟩
    have e45 : Ex H4 H5 := fun b o h => e5 b o (by rw [del_ne (ne_of_none h hx)]; exact ex b o h)
    have e14 := (e2.trans e3).trans e4
    have e0 := e.trans (e14.trans e45)
    exact q _ H5 (e14.trans e45) ⟨x, rfl, dx, va, vc, vt, hq5, ha.mono e0, hc.mono e0, hr.mono e0⟩
theorem cut_one (xs : List V) (x : V) : cutV (x :: xs) (some 1) none = xs := by
  unfold cutV
  rw [show (some 1 : Option Int) = some ((1 : Nat) : Int) from rfl, HT.sIx_nat, HT.sIx_none]
  simp [List.take_of_length_le]
end
section
variable {P : Program} {w : World} {K : PySem.W.Frag} {mg : Str → Option Value} {base : Heap} {CQ CH : Addr} {Z : List NTab}
/-! ### answer_question -/
def spAQ (K : PySem.W.Frag) (CQ : Addr) (Z : List NTab) : Sp := fun vs H Q _ => ∃ (q lb : Addr) (ax : List Axiom) (c : C) (n : Nat) (lvs : List V) (rows : List (List Nat)), vs = [.ref q, vN n, .ref lb] ∧ TabsN Z H ∧ QAt K CQ H q ax c ∧ QOk ax c ∧ SqL K H lb lvs ∧ All2 (Nss K H) lvs rows ∧ FineQ n rows ∧ RetLW Z ((aqAns ax c n rows).map V.int) H Q
theorem sc_answer_question : FnScope ["question", "call", "lists"] ["question", "call", "lists"] (defScope s_answer_question) := ⟨rfl, rfl, rfl, by decide +kernel, rfl, by decide +kernel, by decide +kernel⟩
theorem ok_answer_question {f : Addr} {fd : FuncData} (F : Fun K "answer_question" "answer_question" s_answer_question f fd) (TQ : ClsQ K CQ) (TA : TxtA mg) (uNo : MUse P w K mg base 11 CQ "none" ["self"] (spNone K CQ Z)) (uMo : MUse P w K mg base 11 CQ "model" ["self"] (spModel K CQ Z)) (uCN : MUse P w K mg base 11 CQ "checknone" ["self", "numbers"] (spQCN K CQ Z))
    (uCM : MUse P w K mg base 8 CQ "checkmodel" ["self", "lists"] (spQCM K CQ Z)) (uCa : MUse P w K mg base 11 CQ "can" ["self"] (spCan K CQ Z)) : FnOk P w K mg base CX0 12 f fd ["question", "call", "lists"] (spAQ K CQ Z) := by
  refine F.ok sc_answer_question (fun vs H Q E h => ?_) (fun cdv A outer s H vs Q E hr h => ⟨_,
    pss_cons (ps_if (pt_cmpR op_eq (pv 1) (pe_cst TA.kNONE) (nomark _)) (pss_one (ps_ret (pe_muse0 uNo (pv 0) TQ.cl hr))) pss_nil)
    (pss_cons (ps_if (pt_cmpR op_eq (pv 1) (pe_cst TA.kMODEL) (nomark _)) (pss_one (ps_ret (pe_muse0 uMo (pv 0) TQ.cl hr))) pss_nil)
    (pss_cons (ps_if (pt_cmpR op_eq (pv 1) (pe_cst TA.kCHECKNONE) (nomark _)) (pss_one (ps_ret (pe_muse uCN (pv 0) TQ.cl hr (pa_cons (pe_ix ix_list (pv 2) pe_int (fun _ _ => rfl)) pa_nil)))) pss_nil)
    (pss_cons (ps_if (pt_cmpR op_eq (pv 1) (pe_cst TA.kCHECKMODEL) (nomark _)) (pss_one (ps_ret (pe_muse uCM (pv 0) TQ.cl (hr.mono (by decide)) (pa_cons (pe_slice sl_list (pv 2) (po_some pe_int) po_none) pa_nil)))) pss_nil)
    (pss_one (ps_ret (pe_muse0 uCa (pv 0) TQ.cl hr)))))), ?_⟩)
  · obtain ⟨q, lb, ax, c, n, lvs, rows, rfl, _⟩ := h
    rfl
  · obtain ⟨q, lb, ax, c, n, lvs, rows, rfl, t, hq, ok, hL, hA, hF, k⟩ := h
    have tst : ∀ {σ : L2.St} {H : Hp} {ta : TE} {n m : Nat}, Ev ta σ H (vN n) → EvT (tTest (tOp rEq ta (tC (vN m)))) σ H (decide (n = m)) := fun {σ H ta n m} hta => et_is (et_test (ev_op hta ev_c (rv_eq rfl))) dec_nat
    cases hF with
    | none l hl =>
      have k : RetLW Z ((qNone ax c).map V.int) H Q := k
      refine q_when (tst (n := 3) (m := 3) (ev_var rfl)) (fun _ H1 e1 => ?_) (fun q => by cases q)
      refine s_qm (ev_var rfl) (hq.mono e1) (by decide +kernel) (by decide +kernel) (by decide +kernel) (eap_of ea_nil) fun vs H2 e2 hv => ?_
      subst hv
      exact ⟨q, ax, c, rfl, tab_ex t (e1.trans e2), hq.mono (e1.trans e2), ok, k.up (.of t (e1.trans e2))⟩
    | model l hl =>
      have k : RetLW Z ((qModel ax c).map V.int) H Q := k
      refine q_when (tst (n := 4) (m := 3) (ev_var rfl)) (fun q => by cases q) (fun _ H1 e1 => ?_)
      refine q_when (tst (n := 4) (m := 4) (ev_var rfl)) (fun _ H2 e2 => ?_) (fun q => by cases q)
      have e := e1.trans e2
      refine s_qm (ev_var rfl) (hq.mono e) (by decide +kernel) (by decide +kernel) (by decide +kernel) (eap_of ea_nil) fun vs H3 e3 hv => ?_
      subst hv
      exact ⟨q, ax, c, rfl, tab_ex t (e.trans e3), hq.mono (e.trans e3), ok, k.up (.of t (e.trans e3))⟩
    | checknone l p hl hp =>
      have k : RetLW Z ((qCN ax c p).map V.int) H Q := k
      obtain ⟨v, hv, b, rfl, hb⟩ := hA.get (i := 1) (y := p) rfl
      refine q_when (tst (n := 5) (m := 3) (ev_var rfl)) (fun q => by cases q) (fun _ H1 e1 => ?_)
      refine q_when (tst (n := 5) (m := 4) (ev_var rfl)) (fun q => by cases q) (fun _ H2 e2 => ?_)
      refine q_when (tst (n := 5) (m := 5) (ev_var rfl)) (fun _ H3 e3 => ?_) (fun q => by cases q)
      have e := e1.trans (e2.trans e3)
      refine s_qm (ev_var rfl) (hq.mono e) (by decide +kernel) (by decide +kernel) (by decide +kernel) (eap_of (ea_cons (ev_op (ev_var rfl) ev_c (rv_ixL (ex_l e hL) (atI_nat (j := 1) hv))) ea_nil)) fun vs H4 e4 hv4 => ?_
      subst hv4
      exact ⟨q, b, ax, c, p, rfl, tab_ex t (e.trans e4), hq.mono (e.trans e4), ok, ex_l (e.trans e4) hb, Nat.le_trans hp (by decide), k.up (.of t (e.trans e4))⟩
    | checkmodel l m hl hm hr2 =>
      have k : RetLW Z ((qCM ax c m).map V.int) H Q := k
      obtain ⟨lv, lvs', rfl⟩ : ∃ x xs, lvs = x :: xs := by
        have := hA.1
        cases lvs with
        | nil => cases this
        | cons x xs => exact ⟨x, xs, rfl⟩
      have hA' := hA.tail.2
      refine q_when (tst (n := 6) (m := 3) (ev_var rfl)) (fun q => by cases q) (fun _ H1 e1 => ?_)
      refine q_when (tst (n := 6) (m := 4) (ev_var rfl)) (fun q => by cases q) (fun _ H2 e2 => ?_)
      refine q_when (tst (n := 6) (m := 5) (ev_var rfl)) (fun q => by cases q) (fun _ H3 e3 => ?_)
      refine q_when (tst (n := 6) (m := 6) (ev_var rfl)) (fun _ H4 e4 => ?_) (fun q => by cases q)
      have e := e1.trans (e2.trans (e3.trans e4))
      refine s_qm (ev_var rfl) (hq.mono e) (by decide +kernel) (by decide +kernel) (by decide +kernel) (eap_consP ofL_mono (evp_ofL (el_sl (K := K) (lo := some 1) (hi := none) (ev_var rfl) (eo_some ev_c) eo_none (ex_l e hL))) ea_nil) fun vs H5 e5 hv5 => ?_
      obtain ⟨u, rfl, b, rfl, hb⟩ := hv5
      rw [cut_one] at hb
      exact ⟨q, b, ax, c, lvs', m, rfl, tab_ex t (e.trans e5), hq.mono (e.trans e5), ok, sq_of hb, hA'.mono fun _ _ z => z.mono (e.trans e5), Nat.le_trans hm (by decide), fun r hr => Nat.le_trans (hr2 r hr) (by decide), k.up (.of t (e.trans e5))⟩
    | can l hl =>
      have k : RetLW Z ((qCan ax c).map V.int) H Q := k
      refine q_when (tst (n := 7) (m := 3) (ev_var rfl)) (fun q => by cases q) (fun _ H1 e1 => ?_)
      refine q_when (tst (n := 7) (m := 4) (ev_var rfl)) (fun q => by cases q) (fun _ H2 e2 => ?_)
      refine q_when (tst (n := 7) (m := 5) (ev_var rfl)) (fun q => by cases q) (fun _ H3 e3 => ?_)
      refine q_when (tst (n := 7) (m := 6) (ev_var rfl)) (fun q => by cases q) (fun _ H4 e4 => ?_)
      have e := e1.trans (e2.trans (e3.trans e4))
      refine s_qm (ev_var rfl) (hq.mono e) (by decide +kernel) (by decide +kernel) (by decide +kernel) (eap_of ea_nil) fun vs H5 e5 hv => ?_
      subst hv
      exact ⟨q, ax, c, rfl, tab_ex t (e.trans e5), hq.mono (e.trans e5), ok, k.up (.of t (e.trans e5))⟩
/-! ### ask -/
def spAsk (K : PySem.W.Frag) (CH : Addr) (Z : List NTab) : Sp := fun vs H Q _ => ∃ (h al lb : Addr) (ax : List Axiom) (n : Nat) (lvs : List V) (rows : List (List Nat)), vs = [.ref h, vN n, .ref lb] ∧ TabsN Z H ∧ HouseIn K CH H h al ax ∧ SqL K H lb lvs ∧ All2 (Nss K H) lvs rows ∧ FineQ n rows ∧ RetLW Z ((askAns ax n rows).map V.int) H Q
theorem sc_ask : FnScope ["self", "call", "lists", "concepts", "atoms"] ["self", "call", "lists"] (defScope s_ask) := ⟨rfl, rfl, rfl, by decide +kernel, rfl, by decide +kernel, by decide +kernel⟩
theorem FineQ.head {n : Nat} {rows : List (List Nat)} (h : FineQ n rows) : ∃ l r, rows = l :: r ∧ l.length ≤ 100 := by
  cases h with
  | none l hl => exact ⟨_, _, rfl, hl⟩
  | model l hl => exact ⟨_, _, rfl, hl⟩
  | checknone l p hl hp => exact ⟨_, _, rfl, hl⟩
  | checkmodel l m hl _ _ => exact ⟨_, _, rfl, hl⟩
  | can l hl => exact ⟨_, _, rfl, hl⟩
theorem ok_ask {f : Addr} {fd : FuncData} (F : Fun K "ask" "House.ask" s_ask f fd) (T : Txt K mg) (TH : ClsH K CH) (TX : TxtH mg) (uRC : Use P w K mg base 3 "read_concepts" ["numbers", "count"] (spRC K)) (uAW : MUse P w K mg base 5 CH "atoms_with" ["self", "concepts"] (spAW K CH)) (uMQ : MkUse P w K mg base 1 "Question" CQ ["self", "axioms", "concept", "atoms"] (spQI CQ))
    (uAQ : Use P w K mg base 12 "answer_question" ["question", "call", "lists"] (spAQ K CQ Z)) : FnOk P w K mg base CX0 13 f fd ["self", "call", "lists"] (spAsk K CH Z) := by
  refine F.ok sc_ask (fun vs H Q E h => ?_) (fun cdv A outer s H vs Q E hr h => ⟨_,
    pss_cons (ps_set (i := 3) sc_ask.nd rfl (.inl rfl) (pe_use uRC (hr.mono (by decide)) (pa_cons (pe_ix ix_list (pv 2) pe_int (fun _ _ => rfl)) (pa_cons pe_int pa_nil))))
    (pss_cons (ps_if (pt_cmpR op_isN (pv 3) pe_non (nomark _)) (pss_one (ps_ret (pe_lst (pa_cons (pe_cst TX.kNOT_CONCEPTS) pa_nil)))) pss_nil)
    (pss_cons (ps_set (i := 4) sc_ask.nd rfl (.inl rfl) (pe_muse uAW (pv 0) TH.cl (hr.mono (by decide)) (pa_cons (pv 3) pa_nil)))
    (pss_cons (ps_if (pt_cmpR op_gt (pe_len T.len (pv 4)) (pe_cst TX.kMOST_ATOMS) (nomark _)) (pss_one (ps_ret (pe_lst (pa_cons (pe_cst TX.kTOO_MANY) pa_nil)))) pss_nil)
    (pss_one (ps_ret (pe_use uAQ hr (pa_cons (pe_mkuse uMQ (hr.mono (by decide)) (pa_cons (pe_fld (pv 0) rfl) (pa_cons (pe_ix ix_list (pv 3) pe_int (fun _ _ => rfl)) (pa_cons (pv 4) pa_nil)))) (pa_cons (pv 1) (pa_cons (pv 2) pa_nil))))))))), ?_⟩)
  · obtain ⟨h, al, lb, ax, n, lvs, rows, rfl, _⟩ := h
    rfl
  · obtain ⟨h, al, lb, ax, n, lvs, rows, rfl, t, hH, hL, hA, hF, k⟩ := h
    obtain ⟨ns, rr, er, hlen⟩ := hF.head
    obtain ⟨v0, hv0, a, rfl, hN⟩ := hA.get (i := 0) (y := ns) (by rw [er]; rfl)
    have hans : askAns ax n rows = match Oc.concept ns with
        | none => [-1]
        | some c => if 5 < (Oc.atomsFor ax [c]).length then [-7] else aqAns ax c n rows := by
      unfold askAns
      rw [er]
      rfl
    rw [hans] at k
    refine q_asgP (evp_call (ea_cons (ev_op (ev_var rfl) ev_c (rv_ixL hL (atI_nat (j := 0) hv0))) (ea_cons ev_c ea_nil)) (sp_rc (n := 1) hN (by decide))) fun v H1 e1 hv => ?_
    have hH1 := hH.mono e1
    rw [just_one] at hv
    cases ht : Oc.concept ns with
    | none =>
      rw [ht] at hv k
      obtain rfl : v = .non := hv
      refine q_when (et_is (et_isN (ev_var rfl)) (decide_eq_true rfl)) (fun _ H2 e2 => ?_) (fun q => by cases q)
      exact s_retL (el_lst (ea_cons ev_c ea_nil) (by show 1 ≤ 100000; decide)) fun p H3 hp e3 h3 => k p H3 (fresh_back (e1.trans e2) hp) (.of t (e1.trans (e2.trans e3))) h3
    | some c =>
      rw [ht] at hv k
      have hv1 : Row K H1 v [c] := hv
      refine q_when (et_is (et_isN (ev_var rfl)) hv1.notNone) (fun q => by cases q) (fun _ H2 e2 => ?_)
      have hj : just 1 ns = some [c] := by rw [just_one, ht]; rfl
      obtain ⟨_, hok⟩ := just_ok hj
      have hok1 : ∀ d ∈ [c], Ok d ∧ (enc d).length ≤ 1000 := fun d hd => ⟨(hok d hd).1, Nat.le_trans (hok d hd).2 (by omega)⟩
      obtain ⟨oc, lc⟩ := hok1 c (by simp)
      have hH2 := hH1.mono e2
      have hv2 := hv1.mono e2
      obtain ⟨dx, avs, h1, h2, hAx, hg⟩ := id hH2
      refine q_asgP (evp_meth (ev_var rfl) h1 (hF_no (by decide +kernel)) (ea_cons (ev_var rfl) ea_nil) (sp_aw hH2 hv2 hok1 (by show 1 ≤ 10; decide))) fun va H3 e3 hR => ?_
      obtain ⟨ra, rvs, rfl, hra, hRA⟩ := id hR
      refine q_when (et_test (ev_op (ev_len (ev_var rfl) (sq_of hra)) ev_c rv_I0)) (fun hb H4 e4 => ?_) (fun hb H4 e4 => ?_)
      · have hm : 5 < (Oc.atomsFor ax [c]).length := by
          have := of_decide_eq_true hb
          rw [hRA.1] at this
          omega
        have k : RetLW Z (([-7] : List Int).map V.int) H Q := by
          have k' := k
          simp only [if_pos hm] at k'
          exact k'
        have e04 := e1.trans (e2.trans (e3.trans e4))
        exact s_retL (el_lst (ea_cons ev_c ea_nil) (by show 1 ≤ 100000; decide)) fun p H5 hp e5 h5 => k p H5 (fresh_back e04 hp) (.of t (e04.trans e5)) h5
      · have hm : ¬ 5 < (Oc.atomsFor ax [c]).length := by
          have := of_decide_eq_false hb
          rw [hRA.1] at this
          omega
        have k : RetLW Z ((aqAns ax c n rows).map V.int) H Q := by
          have k' := k
          simp only [if_neg hm] at k'
          exact k'
        have e04 := e1.trans (e2.trans (e3.trans e4))
        have hH4 := hH2.mono (e3.trans e4)
        have hR4 := hR.mono e4
        have h14 := (e3.trans e4) h _ h1
        obtain ⟨va1, cvs, rfl, hva, hC⟩ := hv2.mono (e3.trans e4)
        obtain ⟨x, hx0⟩ : ∃ x, cvs[0]? = some x := by
          obtain ⟨x, h0, _⟩ := hC.get (i := 0) (y := c) rfl
          exact ⟨x, h0⟩
        have hx : CT K H4 x c := hC.2 0 x c hx0 rfl
        have t4 := tab_ex t e04
        refine s_retW (Z := Z) (Φ := NewL H4 ((aqAns ax c n rows).map V.int)) (ew_callP t4 (eap_consP (fun v H H' e ⟨q, r1, r2⟩ => ⟨q, r1, r2.mono e⟩) (evp_question (K := K) (CQ := CQ) (ev_fld (ev_var rfl) h14 TH.cl TH.nA hF_axioms) (ev_op (ev_var rfl) ev_c (rv_ixL (sq_of hva) (atI_nat (j := 0) hx0))) (ev_var rfl) hH4.axs hx hR4) (ea_cons (ev_var rfl) (ea_cons (ev_var rfl) ea_nil))) fun vs H5 e5 hvs => ?_) fun v H5 w5 hv5 => ?_
        · obtain ⟨u, rfl, q, rfl, hq⟩ := hvs
          intro Q' E' q'
          exact ⟨q, lb, ax, c, n, lvs, rows, rfl, tab_ex t4 e5, hq, ⟨hg, oc, lc, by omega⟩, ex_l (e04.trans e5) hL, hA.mono fun _ _ z => z.mono (e04.trans e5), hF, fun p H6 hp w6 h6 => q' _ H6 w6 ⟨p, rfl, fresh_back e5 hp, h6⟩⟩
        · obtain ⟨r, rfl, hr0, hr5⟩ := hv5
          exact k r H5 (fresh_back e04 hr0) ((Wx.of t e04).trans w5) hr5
end
end Bk

namespace Bk
open PySem PySem.Spec PyProof.Rows L2 Evl
open Oc (C Axiom)
/-! ### Reader -/
abbrev s_Reader_init : Stmt := inClass (top 82) 0
abbrev s_at_end : Stmt := inClass (top 82) 1
abbrev s_take : Stmt := inClass (top 82) 2
abbrev s_take_row : Stmt := inClass (top 82) 3
abbrev s_take_rows : Stmt := inClass (top 82) 4
structure ClsR (K : PySem.W.Frag) (CR : Addr) : Prop where
  cl : Cls K CR
  nN : NoAttr K CR "numbers"
  nP : NoAttr K CR "place"
def rF (a : Addr) (p : Nat) : List (Str × V) := [("numbers", .ref a), ("place", vN p)]
theorem rF_numbers {a : Addr} {p : Nat} : (rF a p).lookup ("numbers" : Str) = some (.ref a) := lk_here
theorem rF_place {a : Addr} {p : Nat} : (rF a p).lookup ("place" : Str) = some (vN p) := (lk_past (by decide +kernel)).trans lk_here
theorem rF_no {a : Addr} {p : Nat} {m : Str} (h1 : (m == ("numbers" : Str)) = false) (h2 : (m == ("place" : Str)) = false) : (rF a p).lookup m = none := (lk_past h1).trans ((lk_past h2).trans rfl)
theorem rF_put {a : Addr} {p q : Nat} {v : V} (h : v = vN q) : putF "place" v (rF a p) = rF a q := by
  subst h
  exact (put_past (by decide +kernel)).trans (congrArg _ put_here)
theorem rF_new (a : Addr) : putF "place" (.int 0) (putF "numbers" (.ref a) []) = rF a 0 := (put_past (by decide +kernel)).trans rfl
def RdAt (CR : Addr) (H : Hp) (r a : Addr) (p : Nat) : Prop := ∃ dx, H r = some (.ins CR dx (rF a p))
section
variable {P : Program} {w : World} {K : PySem.W.Frag} {mg : Str → Option Value} {base : Heap} {CR : Addr}
def spRI (CR : Addr) : Sp := fun vs H Q _ => ∃ (p dx a : Addr), vs = [.ref p, .ref a] ∧ H p = some (.ins CR dx []) ∧ ∀ H' : Hp, RdAt CR H' p a 0 → Ex (del H p) H' → Q .non H'
theorem sc_Reader_init : FnScope ["self", "numbers"] ["self", "numbers"] (defScope s_Reader_init) := ⟨rfl, rfl, rfl, by decide +kernel, rfl, by decide +kernel, by decide +kernel⟩
theorem ok_Reader_init {f : Addr} {fd : FuncData} (F : Fun K "__init__" "Reader.__init__" s_Reader_init f fd) (TR : ClsR K CR) : FnOk P w K mg base CX0 1 f fd ["self", "numbers"] (spRI CR) := by
  refine F.ok sc_Reader_init (fun vs H Q E h => ?_) (fun cdv A outer s H vs Q E hr h => ⟨_, pss_cons (ps_fld (pv 0) (pv 1) rfl) (pss_one (ps_fld (pv 0) pe_int rfl)), ?_⟩)
  · obtain ⟨p, dx, a, rfl, _⟩ := h
    rfl
  · obtain ⟨p, dx, a, rfl, hp, k⟩ := h
    refine q_fld (ev_var rfl) (Ex.refl H) (ev_var rfl) hp TR.cl TR.nN (by show 0 < 1000; decide) fun H1 e1 => ?_
    refine s_fld ev_c (Ex.refl _) (ev_var rfl) upd_same TR.cl TR.nP (by show 1 < 1000; decide) fun H2 e2 => ?_
    rw [rF_new]
    refine k _ ⟨dx, upd_same⟩ (Ex.mut ?_ (del_at H p))
    exact (Ex.mut ((del_ex H p).trans e1) (del_at H p)).trans e2
/-! ### at_end -/
def spAE (K : PySem.W.Frag) (CR : Addr) : Sp := fun vs H Q _ => ∃ (r a : Addr) (all : List Nat) (p : Nat), vs = [.ref r] ∧ RdAt CR H r a p ∧ SqL K H a (all.map vN) ∧ Ret H Q fun v _ => v = .bl (decide (all.length ≤ p))
theorem sp_ae {H : Hp} {r a : Addr} {all : List Nat} {p : Nat} (hR : RdAt CR H r a p) (hS : SqL K H a (all.map vN)) : SpP (spAE K CR) [.ref r] H fun v _ => v = .bl (decide (all.length ≤ p)) := fun H1 e Q q E => ⟨r, a, all, p, rfl, by obtain ⟨dx, h⟩ := hR; exact ⟨dx, e r _ h⟩, ex_l e hS, q⟩
theorem sc_at_end : FnScope ["self"] ["self"] (defScope s_at_end) := ⟨rfl, rfl, rfl, by decide +kernel, rfl, by decide +kernel, by decide +kernel⟩
theorem ok_at_end {f : Addr} {fd : FuncData} (F : Fun K "at_end" "Reader.at_end" s_at_end f fd) (T : Txt K mg) (TR : ClsR K CR) : FnOk P w K mg base CX0 1 f fd ["self"] (spAE K CR) := by
  refine F.ok sc_at_end (fun vs H Q E h => ?_) (fun cdv A outer s H vs Q E hr h => ⟨_, pss_one (ps_ret (pe_cmpR op_ge (pe_fld (pv 0) rfl) (pe_len T.len (pe_fld (pv 0) rfl)) (nomark _))), ?_⟩)
  · obtain ⟨r, a, all, p, rfl, _⟩ := h
    rfl
  · obtain ⟨r, a, all, p, rfl, ⟨dx, hr⟩, hS, k⟩ := h
    refine s_ret (v := .bl (decide (all.length ≤ p))) (ev_is (ev_op (ev_fld (ev_var rfl) hr TR.cl TR.nP rF_place) (ev_lenN2 (ns := all) (ev_fld (ev_var rfl) hr TR.cl TR.nN rF_numbers) (.inl hS)) rv_I0) ?_) fun H1 e => k _ H1 e rfl
    show V.bl (decide ((all.length : Int) ≤ (p : Int))) = _
    congr 1
    rw [decide_eq_decide]
    omega
/-! ### take -/
def spTake (K : PySem.W.Frag) (CR : Addr) : Sp := fun vs H Q _ => ∃ (r a : Addr) (all : List Nat) (p n : Nat), vs = [.ref r] ∧ RdAt CR H r a p ∧ SqL K H a (all.map vN) ∧ all[p]? = some n ∧ ∀ H' : Hp, RdAt CR H' r a (p + 1) → Ex (del H r) H' → Q (vN n) H'
theorem sc_take : FnScope ["self", "number"] ["self"] (defScope s_take) := ⟨rfl, rfl, rfl, by decide +kernel, rfl, by decide +kernel, by decide +kernel⟩
/-- self.place += n -/
theorem q_place {σ : L2.St} {H : Hp} {ta tv : TE} {D : Ends} {tz : TS} {r a dx : Addr} {p n : Nat} (TR : ClsR K CR) (ha : Ev ta σ H (.ref r)) (hr : H r = some (.ins CR dx (rF a p))) (hv : Ev tv σ H (vN n)) (k : ∀ H2, Ex H H2 → tz D σ (upd H2 r (.ins CR dx (rF a (p + n))))) :
    tSeq (sFldAug K ta tv L2.rAdd "place") tz D σ H :=
  ha H (Ex.refl H) _ fun H1 e1 => ⟨r, CR, dx, _, _, rfl, e1 r _ hr, TR.cl, TR.nP, rF_place, hv H1 e1 _ fun H2 e2 => ⟨(p : Int), (n : Int), rfl, rfl, dx, _, (e1.trans e2) r _ hr, by show 2 < 1000; decide, by
    show tz D σ (upd H2 r (.ins CR dx (putF "place" (.int ((p : Int) + (n : Int))) (rF a p))))
    rw [rF_put (q := p + n) (show V.int ((p : Int) + (n : Int)) = V.int (((p + n : Nat) : Int)) by rw [Int.natCast_add])]
    exact k H2 (e1.trans e2)⟩⟩
theorem ok_take {f : Addr} {fd : FuncData} (F : Fun K "take" "Reader.take" s_take f fd) (TR : ClsR K CR) : FnOk P w K mg base CX0 1 f fd ["self"] (spTake K CR) := by
  refine F.ok sc_take (fun vs H Q E h => ?_) (fun cdv A outer s H vs Q E hr h => ⟨_, pss_cons (ps_set (i := 1) sc_take.nd rfl (.inl rfl) (pe_ix ix_list (pe_fld (pv 0) rfl) (pe_fld (pv 0) rfl) (fun _ _ => rfl))) (pss_cons (ps_fldaug (pv 0) pe_int in_add) (pss_one (ps_ret (pv 1)))), ?_⟩)
  · obtain ⟨r, a, all, p, n, rfl, _⟩ := h
    rfl
  · obtain ⟨r, a, all, p, n, rfl, ⟨dx, hr⟩, hS, hn, k⟩ := h
    refine q_asg (ev_op (ev_fld (ev_var rfl) hr TR.cl TR.nN rF_numbers) (ev_fld (ev_var rfl) hr TR.cl TR.nP rF_place) (rv_ixL hS (atN hn))) fun H1 e1 => ?_
    refine q_place (n := 1) TR (ev_var rfl) (e1 r _ hr) ev_c fun H2 e2 => ?_
    refine s_ret (ev_var rfl) fun H3 e3 => k H3 ⟨dx, e3 r _ upd_same⟩ ((Ex.mut ((del_ex H r).trans (e1.trans e2)) (del_at H r)).trans e3)
/-- x = reader.take() -/
theorem q_take {σ : L2.St} {H : Hp} {D : Ends} {tz : TS} {i : Nat} {to : TE} {r a : Addr} {all : List Nat} {p n : Nat} (hto : Ev to σ H (.ref r)) (hR : RdAt CR H r a p) (hS : SqL K H a (all.map vN)) (hn : all[p]? = some n) (k : ∀ H', RdAt CR H' r a (p + 1) → Ex (del H r) H' → tz D (σ.set i (some (vN n))) H') :
    tSeq (tAsg (tMeth CR "take" (spTake K CR) [] E0 to tNil) (gName i)) tz D σ H := by
  obtain ⟨dx, hr⟩ := id hR
  refine hto H (Ex.refl H) _ fun H1 e1 => ?_
  refine ⟨r, dx, _, rfl, e1 r _ hr, rF_no (by decide +kernel) (by decide +kernel), ?_⟩
  refine ⟨r, a, all, p, n, rfl, ⟨dx, e1 r _ hr⟩, ex_l e1 hS, hn, fun H' q1 q2 => k H' q1 ?_⟩
  exact fun b o hb => q2 b o (by
    by_cases z : b = r
    · rw [z, del_at] at hb
      cases hb
    · rw [del_ne z] at hb ⊢
      exact e1 b o hb)
/-! ### take_row -/
def spRow (K : PySem.W.Frag) (CR : Addr) : Sp := fun vs H Q _ => ∃ (r a : Addr) (all row rest : List Nat) (p : Nat), vs = [.ref r] ∧ RdAt CR H r a p ∧ SqL K H a (all.map vN) ∧ all.drop p = row.length :: (row ++ rest) ∧ ∀ (q : Addr) (H' : Hp), H q = none → H' q = some (.lst (row.map vN)) → RdAt CR H' r a (p + 1 + row.length) → Ex (del H r) H' → Q (.ref q) H'
theorem sc_take_row : FnScope ["self", "count", "start"] ["self"] (defScope s_take_row) := ⟨rfl, rfl, rfl, by decide +kernel, rfl, by decide +kernel, by decide +kernel⟩
theorem none_del {H H' : Hp} {r q : Addr} (e : Ex (del H r) H') (hr : ∃ o, H' r = some o) (h : H' q = none) : H q = none := by
  by_cases z : q = r
  · obtain ⟨o, ho⟩ := hr
    rw [z, ho] at h
    cases h
  · have := fresh_back e h
    rwa [del_ne z] at this
theorem ok_take_row {f : Addr} {fd : FuncData} (F : Fun K "take_row" "Reader.take_row" s_take_row f fd) (TR : ClsR K CR) (uT : MUse P w K mg base 1 CR "take" ["self"] (spTake K CR)) : FnOk P w K mg base CX0 2 f fd ["self"] (spRow K CR) := by
  refine F.ok sc_take_row (fun vs H Q E h => ?_) (fun cdv A outer s H vs Q E hr h => ⟨_, pss_cons (ps_set (i := 1) sc_take_row.nd rfl (.inl rfl) (pe_muse0 uT (pv 0) TR.cl hr)) (pss_cons (ps_set (i := 2) sc_take_row.nd rfl (.inl rfl) (pe_fld (pv 0) rfl))
    (pss_cons (ps_fldaug (pv 0) (pv 1) in_add) (pss_one (ps_ret (pe_slice sl_list (pe_fld (pv 0) rfl) (po_some (pv 2)) (po_some (pe_fld (pv 0) rfl))))))), ?_⟩)
  · obtain ⟨r, a, all, row, rest, p, rfl, _⟩ := h
    rfl
  · obtain ⟨r, a, all, row, rest, p, rfl, hR, hS, hd, k⟩ := h
    have hn : all[p]? = some row.length := by
      have : (all.drop p)[0]? = all[p]? := by rw [List.getElem?_drop]; rfl
      rw [← this, hd]
      rfl
    have hd1 : all.drop (p + 1) = row ++ rest := by
      rw [← List.drop_drop, hd]
      rfl
    have hlen := congrArg List.length hd1
    rw [List.length_drop, List.length_append] at hlen
    obtain ⟨dx0, hr0⟩ := id hR
    refine q_take (ev_var rfl) hR hS hn fun H1 ⟨dx, hr1⟩ e1 => ?_
    have hS1 : SqL K H1 a (all.map vN) := ex_l e1 (sqL_del hr0 hS)
    refine q_asg (ev_fld (ev_var rfl) hr1 TR.cl TR.nP rF_place) fun H2 e2 => ?_
    refine q_place (n := row.length) TR (ev_var rfl) (e2 r _ hr1) (ev_var rfl) fun H3 e3 => ?_
    have e4 : Ex (del H r) (upd H3 r (.ins CR dx (rF a (p + 1 + row.length)))) := Ex.mut (e1.trans (e2.trans e3)) (del_at H r)
    have hS4 := ex_l e4 (sqL_del hr0 hS)
    refine s_retL (el_sl (K := K) (ev_fld (ev_var rfl) upd_same TR.cl TR.nN rF_numbers) (eo_some (ev_var rfl)) (eo_some (ev_fld (ev_var rfl) upd_same TR.cl TR.nP rF_place)) hS4) fun q H5 hq e5 h5 => ?_
    refine k q H5 (none_del e4 ⟨_, upd_same⟩ hq) ?_ ⟨dx, e5 r _ upd_same⟩ (e4.trans e5)
    rw [h5]
    congr 2
    rw [show (some ((p + 1 : Nat) : Int) : Option Int) = some ((p + 1 : Nat) : Int) from rfl]
    by_cases hp : p + 1 + row.length ≤ all.length
    · rw [cut_nat (α := Nat) (by omega) (by rw [List.length_map]; omega), ← List.map_drop, hd1, ← List.map_take, show p + 1 + row.length - (p + 1) = row.length by omega, List.take_left]
    · have hpl : p < all.length := (List.getElem?_eq_some_iff.mp hn).1
      omega
/-! ### take_rows -/
def RowIn (H0 H : Hp) (v : V) (row : List Nat) : Prop := ∃ b, v = .ref b ∧ H0 b = none ∧ H b = some (.lst (row.map vN))
def spRows (K : PySem.W.Frag) (CR : Addr) : Sp := fun vs H Q _ => ∃ (r a : Addr) (all : List Nat) (rows : List (List Nat)) (rest : List Nat) (p : Nat), vs = [.ref r] ∧ RdAt CR H r a p ∧ SqL K H a (all.map vN) ∧ all.drop p = rows.length :: (rows.flatMap putRowN ++ rest) ∧ rows.length ≤ 1000 ∧
  ∀ (q : Addr) (ws : List V) (H' : Hp), H q = none → H' q = some (.lst ws) → All2 (RowIn H H') ws rows → RdAt CR H' r a (p + 1 + (rows.flatMap putRowN).length) → Ex (del H r) H' → Q (.ref q) H'
theorem sc_take_rows : FnScope ["self", "count", "rows"] ["self"] (defScope s_take_rows) := ⟨rfl, rfl, rfl, by decide +kernel, rfl, by decide +kernel, by decide +kernel⟩
theorem ok_take_rows {f : Addr} {fd : FuncData} (F : Fun K "take_rows" "Reader.take_rows" s_take_rows f fd) (T : Txt K mg) (TR : ClsR K CR) (uT : MUse P w K mg base 1 CR "take" ["self"] (spTake K CR)) (uR : MUse P w K mg base 2 CR "take_row" ["self"] (spRow K CR)) : FnOk P w K mg base CX0 3 f fd ["self"] (spRows K CR) := by
  refine F.ok sc_take_rows (fun vs H Q E h => ?_) (fun cdv A outer s H vs Q E hr h => ⟨_, pss_cons (ps_set (i := 1) sc_take_rows.nd rfl (.inl rfl) (pe_muse0 uT (pv 0) TR.cl (hr.mono (by decide)))) (pss_cons (ps_set (i := 2) sc_take_rows.nd rfl (.inl rfl) (pe_lst pa_nil))
    (pss_cons (ps_while PassesOwn.never (pt_cmpR op_lt (pe_len T.len (pv 2)) (pv 1) (nomark _)) (pss_one (ps_expr (pe_bm PySem.F.plainAttrs_list PySem.F.slot_list_append PySem.F.type_list_append mt_append (pv 2) (pa_cons (pe_muse0 uR (pv 0) TR.cl hr) pa_nil)))))
    (pss_one (ps_ret (pv 2))))), ?_⟩)
  · obtain ⟨r, a, all, rows, rest, p, rfl, _⟩ := h
    rfl
  · obtain ⟨r, a, all, rows, rest, p, rfl, hR, hS, hd, hz, k⟩ := h
    have hn : all[p]? = some rows.length := by
      have : (all.drop p)[0]? = all[p]? := by rw [List.getElem?_drop]; rfl
      rw [← this, hd]
      rfl
    have hd1 : all.drop (p + 1) = rows.flatMap putRowN ++ rest := by
      rw [← List.drop_drop, hd]
      rfl
    obtain ⟨dx0, hr0⟩ := id hR
    refine q_take (ev_var rfl) hR hS hn fun H1 hR1 e1 => ?_
    have hSd := sqL_del hr0 hS
    refine q_asgL (el_lst ea_nil (by decide)) fun l H2 hl2 e2 h2 => ?_
    obtain ⟨dx1, hr1⟩ := id hR1
    have hlr : l ≠ r := fun z => by
      rw [z, hr1] at hl2
      cases hl2
    have hl0 : H l = none := none_del e1 ⟨_, hr1⟩ hl2
    have hld : del H r l = none := by
      rw [del_ne hlr]
      exact hl0
    refine q_while (fun m σ' H' => ∃ (i : Nat) (ws : List V), σ' = [some (.ref r), some (vN rows.length), some (.ref l)] ∧ i ≤ rows.length ∧ m = rows.length - i ∧ Ex (del H r) H' ∧ RdAt CR H' r a (p + 1 + ((rows.take i).flatMap putRowN).length) ∧ H' l = some (.lst ws) ∧ All2 (fun v row => ∃ b, v = .ref b ∧ b ≠ r ∧ b ≠ l ∧ H b = none ∧ H' b = some (.lst (row.map vN))) ws (rows.take i)) _
      ⟨0, [], rfl, Nat.zero_le _, rfl, e1.trans e2, ⟨dx1, e2 r _ hr1⟩, h2, .nil⟩ ?_
    rintro m σ' H3 ⟨i, ws, rfl, hi, rfl, e3, hR3, hl3, hA⟩
    have hwl : ws.length = i := by
      rw [hA.1, List.length_take, Nat.min_eq_left hi]
    refine ⟨_, et_test (ev_op (ev_len (ev_var rfl) (sq_of hl3)) (ev_var rfl) rv_I0), fun hb H4 e4 => ?_, fun hb H4 e4 => ?_⟩
    · have hlt : i < rows.length := by
        have := of_decide_eq_true hb
        omega
      obtain ⟨row, hrow⟩ : ∃ row, rows[i]? = some row := ⟨_, List.getElem?_eq_getElem hlt⟩
      refine ⟨_, fun σ2 H2 n => n, ?_⟩
      obtain ⟨dx3, hr3⟩ := id hR3
      have hl4 := e4 l _ hl3
      have hr4 := e4 r _ hr3
      have hsplit : rows.flatMap putRowN = (rows.take i).flatMap putRowN ++ (putRowN row ++ (rows.drop (i + 1)).flatMap putRowN) := by
        obtain ⟨h1, h2⟩ := List.getElem?_eq_some_iff.mp hrow
        rw [← List.flatMap_cons, ← List.flatMap_append, ← h2, ← List.drop_eq_getElem_cons h1, List.take_append_drop]
      refine ⟨_, rfl, Or.inl ⟨rfl, ws, sq_of hl4⟩, _, rfl, r, dx3, _, rfl, hr4, rF_no (by decide +kernel) (by decide +kernel), ?_⟩
      refine ⟨r, a, all, row, (rows.drop (i + 1)).flatMap putRowN ++ rest, _, rfl, ⟨dx3, hr4⟩, ex_l (e3.trans e4) hSd, ?_, fun q H5 hq h5 hR5 e5 => ?_⟩
      · rw [← List.drop_drop, hd1, hsplit]
        simp [putRowN]
      · have hql : q ≠ l := fun z => by
          rw [z, hl4] at hq
          cases hq
        have hqr : q ≠ r := fun z => by
          rw [z, hr4] at hq
          cases hq
        have hl5 : H5 l = some (.lst ws) := e5 l _ (by rw [del_ne hlr]; exact hl4)
        have hq0 : H q = none := none_del (e3.trans e4) ⟨_, hr4⟩ hq
        have e35 : Ex (del H r) H5 := fun b o hb => by
          have hbr : b ≠ r := fun z => by
            rw [z, del_at] at hb
            cases hb
          exact e5 b o (by rw [del_ne hbr]; exact (e3.trans e4) b o hb)
        refine ⟨l, ws, .ref q, rfl, rfl, hl5, sz_lt (by omega), ?_⟩
        refine ⟨_, ?_, i + 1, ws ++ [.ref q], rfl, hlt, rfl, Ex.mut e35 hld, ?_, upd_same, ?_⟩
        · omega
        · obtain ⟨dx5, hr5⟩ := hR5
          refine ⟨dx5, ?_⟩
          rw [upd_ne (Ne.symm hlr), hr5, take_more hrow, List.flatMap_append]
          congr 3
          simp [putRowN]
          omega
        · rw [take_more hrow]
          refine All2.snoc (hA.mono fun v row' ⟨b, hv, n1, n2, n3, hb'⟩ => ⟨b, hv, n1, n2, n3, (by rw [upd_ne n2]; exact e5 b _ (by rw [del_ne n1]; exact e4 b _ hb'))⟩) ⟨q, rfl, hqr, hql, hq0, ?_⟩
          rw [upd_ne hql]
          exact h5
    · have hie : i = rows.length := by
        have := of_decide_eq_false hb
        omega
      subst hie
      rw [List.take_length] at hA hR3
      refine s_ret (ev_var rfl) fun H5 e5 => k l ws H5 hl0 ((e4.trans e5) l _ hl3) (hA.mono fun v row ⟨b, hv, _, _, n3, hb'⟩ => ⟨b, hv, n3, (e4.trans e5) b _ hb'⟩) ?_ (e3.trans (e4.trans e5))
      obtain ⟨dx3, hr3⟩ := hR3
      exact ⟨dx3, (e4.trans e5) r _ hr3⟩
end
end Bk

namespace Bk
open PySem PySem.Spec PyProof.Rows L2 Evl LamX NdefX
open Oc (C Axiom)
abbrev s_answer_call : Stmt := top 84
abbrev s_answers : Stmt := top 85
structure TxtC (mg : Str → Option Value) : Prop where
  kBEGINS : Cst mg "BEGINS" (.int 0)
  kLINE : Cst mg "LINE" (.int 1)
  kDROP : Cst mg "DROP" (.int 2)
  kCAN : Cst mg "CAN" (.int 7)
/-! ### what a call does -/
def stepAx (ax : List Axiom) (c : NCall) : List Axiom := (Oc12Neutral.step ⟨ax⟩ c.asI).1.axioms
def stepAns (ax : List Axiom) (c : NCall) : List Int := (Oc12Neutral.step ⟨ax⟩ c.asI).2
/-- how a call may stand -/
inductive Fine : NCall → Prop
  | begins : Fine ⟨0, [], []⟩
  | line (l : List Nat) : l.length ≤ 100 → Fine ⟨1, [], [l]⟩
  | drop (n : Nat) : n < 4294967296 → Fine ⟨2, [n], []⟩
  | ask (n : Nat) (rows : List (List Nat)) : FineQ n rows → Fine ⟨n, [], rows⟩
theorem nats_nats (l : List Nat) : Oc12Neutral.nats (toI l) = l := nats_ints l
theorem st_begins (ax : List Axiom) : Oc12Neutral.step ⟨ax⟩ (NCall.asI ⟨0, [], []⟩) = (⟨[]⟩, [0]) := rfl
theorem st_line (ax : List Axiom) (l : List Nat) : Oc12Neutral.step ⟨ax⟩ (NCall.asI ⟨1, [], [l]⟩) = (⟨lineAx ax l⟩, [lineAns ax l]) := by
  show ((Oc12.step ⟨ax⟩ (.line (Oc12Neutral.nats (toI l)))).1, Oc12Neutral.out (Oc12.step ⟨ax⟩ (.line (Oc12Neutral.nats (toI l)))).2) = _
  rw [nats_nats, step_line]
  rfl
theorem st_drop (ax : List Axiom) (n : Nat) : Oc12Neutral.step ⟨ax⟩ (NCall.asI ⟨2, [n], []⟩) = (⟨if ax.length ≤ n then ax else ax.take n ++ ax.drop (n + 1)⟩, [if ax.length ≤ n then -2 else ((ax.length - 1 : Nat) : Int)]) := by
  show ((Oc12.step ⟨ax⟩ (.drop ((n : Int).toNat))).1, Oc12Neutral.out (Oc12.step ⟨ax⟩ (.drop ((n : Int).toNat))).2) = _
  rw [Int.toNat_natCast]
  show ((if ax.length ≤ n then ((⟨ax⟩ : Oc12.House), Oc12.ok (-2)) else (⟨ax.take n ++ ax.drop (n + 1)⟩, Oc12.ok (ax.length - 1 : Nat))).1, Oc12Neutral.out (if ax.length ≤ n then ((⟨ax⟩ : Oc12.House), Oc12.ok (-2)) else (⟨ax.take n ++ ax.drop (n + 1)⟩, Oc12.ok (ax.length - 1 : Nat))).2) = _
  by_cases h : ax.length ≤ n
  · simp only [if_pos h]
    rfl
  · simp only [if_neg h]
    rfl
theorem ask_val {ax : List Axiom} {l : List Nat} {f : C → Oc12.Ans} {g : C → List Int} (h : ∀ c, Oc12Neutral.out (f c) = g c) : Oc12Neutral.out (Oc12.asks ⟨ax⟩ l f).2 = match Oc.concept l with
    | none => [-1]
    | some c => if 5 < (Oc.atomsFor ax [c]).length then [-7] else g c := by
  cases ht : Oc.concept l with
  | none =>
    rw [asks_no ht]
    rfl
  | some c =>
    by_cases hm : 5 < (Oc.atomsFor ax [c]).length
    · rw [asks_much ht hm]
      simp only [if_pos hm]
      rfl
    · rw [asks_yes ht hm]
      simp only [if_neg hm]
      exact h c
theorem st_ask (ax : List Axiom) {n : Nat} {rows : List (List Nat)} (h : FineQ n rows) : Oc12Neutral.step ⟨ax⟩ (NCall.asI ⟨n, [], rows⟩) = (⟨ax⟩, askAns ax n rows) := by
  cases h with
  | none l hl =>
    show ((Oc12.step ⟨ax⟩ (.none_ (Oc12Neutral.nats (toI l)))).1, Oc12Neutral.out (Oc12.step ⟨ax⟩ (.none_ (Oc12Neutral.nats (toI l)))).2) = _
    rw [nats_nats]
    exact congrArg (fun z => ((⟨ax⟩ : Oc12.House), z)) (ask_val fun c => rfl)
  | model l hl =>
    show ((Oc12.step ⟨ax⟩ (.model (Oc12Neutral.nats (toI l)))).1, Oc12Neutral.out (Oc12.step ⟨ax⟩ (.model (Oc12Neutral.nats (toI l)))).2) = _
    rw [nats_nats]
    exact congrArg (fun z => ((⟨ax⟩ : Oc12.House), z)) (ask_val fun c => rfl)
  | checknone l p hl hp =>
    show ((Oc12.step ⟨ax⟩ (.checkNone (Oc12Neutral.nats (toI l)) (Oc12Neutral.nats (toI p)))).1, Oc12Neutral.out (Oc12.step ⟨ax⟩ (.checkNone (Oc12Neutral.nats (toI l)) (Oc12Neutral.nats (toI p)))).2) = _
    rw [nats_nats, nats_nats]
    exact congrArg (fun z => ((⟨ax⟩ : Oc12.House), z)) (ask_val fun c => rfl)
  | checkmodel l m hl hm hr =>
    show ((Oc12.step ⟨ax⟩ (.checkModel (Oc12Neutral.nats (toI l)) ((m.map toI).map Oc12Neutral.nats))).1, Oc12Neutral.out (Oc12.step ⟨ax⟩ (.checkModel (Oc12Neutral.nats (toI l)) ((m.map toI).map Oc12Neutral.nats))).2) = _
    rw [nats_nats, List.map_map, show Oc12Neutral.nats ∘ toI = id from funext nats_nats, List.map_id]
    exact congrArg (fun z => ((⟨ax⟩ : Oc12.House), z)) (ask_val fun c => rfl)
  | can l hl =>
    show ((Oc12.step ⟨ax⟩ (.can (Oc12Neutral.nats (toI l)))).1, Oc12Neutral.out (Oc12.step ⟨ax⟩ (.can (Oc12Neutral.nats (toI l)))).2) = _
    rw [nats_nats]
    exact congrArg (fun z => ((⟨ax⟩ : Oc12.House), z)) (ask_val fun c => rfl)
theorem FineQ.range {n : Nat} {rows : List (List Nat)} (h : FineQ n rows) : 3 ≤ n ∧ n ≤ 7 ∧ rows.length ≤ 11 := by
  cases h with
  | none l hl => exact ⟨by decide, by decide, by show 1 ≤ 11; decide⟩
  | model l hl => exact ⟨by decide, by decide, by show 1 ≤ 11; decide⟩
  | checknone l p hl hp => exact ⟨by decide, by decide, by show 2 ≤ 11; decide⟩
  | checkmodel l m hl hm _ => exact ⟨by decide, by decide, by rw [List.length_cons]; omega⟩
  | can l hl => exact ⟨by decide, by decide, by show 1 ≤ 11; decide⟩
/-! ### what the house answers where tables may grow -/
def RetHW (K : PySem.W.Frag) (CH : Addr) (Z : List NTab) (H : Hp) (h al : Addr) (Q : VK) (ax : List Axiom) (ans : List Int) : Prop :=
  ∀ (p al' : Addr) (H' : Hp), H p = none → (∀ b o, H b = some o → b ≠ h → b ≠ al → NoT o → H' b = some o) → (∀ b, b ≠ h → b ≠ al → H' b = none → H b = none) → TabsN Z H' → HouseIn K CH H' h al' ax → (al' = al ∨ H al' = none) → p ≠ h → p ≠ al' → H' p = some (.lst (ans.map V.int)) → Q (.ref p) H'
theorem tab_but {Z : List NTab} {K : PySem.W.Frag} {CH : Addr} {H H' : Hp} {h al : Addr} {ax : List Axiom} (t : TabsN Z H) (hH : HouseIn K CH H h al ax) (hk : ∀ b o, H b = some o → b ≠ h → b ≠ al → H' b = some o) : TabsN Z H' := fun z hz => by
  obtain ⟨dx, vs, q1, q2, _⟩ := hH
  obtain ⟨ps, h1, h2, h3⟩ := t z hz
  refine ⟨ps, hk _ _ h1 (fun e => ?_) (fun e => ?_), h2, fun pos cv hc => ?_⟩
  · rw [e, q1] at h1
    cases h1
  · rw [e, q2] at h1
    cases h1
  · obtain ⟨c, e1, e2⟩ := h3 pos cv hc
    refine ⟨c, e1, hk _ _ e2 (fun e => ?_) (fun e => ?_)⟩
    · rw [e, q1] at e2
      cases e2
    · rw [e, q2] at e2
      cases e2
theorem RetHW.strong {Z : List NTab} {K : PySem.W.Frag} {CH : Addr} {H : Hp} {h al : Addr} {Q : VK} {ax ax0 : List Axiom} {ans : List Int} (k : RetHW K CH Z H h al Q ax ans) (t : TabsN Z H) (hH : HouseIn K CH H h al ax0) : RetH K CH H h al Q ax ans := fun p al' H' hp hk hH' ha n1 n2 h' =>
  k p al' H' hp (fun b o hb n1 n2 _ => hk b o hb n1 n2) (fun b n1 n2 hb => by
    cases q : H b with
    | none => rfl
    | some o =>
      rw [hk b o q n1 n2] at hb
      cases hb) (tab_but t hH hk) hH' ha n1 n2 h'
theorem HouseIn.w {Z : List NTab} {K : PySem.W.Frag} {CH : Addr} {H H' : Hp} {h al : Addr} {ax : List Axiom} (e : Wx Z H H') (q : HouseIn K CH H h al ax) : HouseIn K CH H' h al ax := by
  obtain ⟨dx, vs, h1, h2, h3, h4⟩ := q
  exact ⟨dx, vs, e.at h1, e.at h2, h3.mono fun _ _ z => z.w e, h4⟩
section
variable {P : Program} {w : World} {K : PySem.W.Frag} {mg : Str → Option Value} {base : Heap} {CH CR : Addr} {Z : List NTab}
/-! ### answer_call -/
def spAC (K : PySem.W.Frag) (CH : Addr) (Z : List NTab) : Sp := fun vs H Q _ => ∃ (h al : Addr) (ax : List Axiom) (c : NCall) (nb lb : Addr) (lvs : List V), vs = [.ref h, vN c.place, .ref nb, .ref lb] ∧ TabsN Z H ∧ HouseIn K CH H h al ax ∧ SqL K H nb (c.nums.map vN) ∧ SqL K H lb lvs ∧ All2 (Nss K H) lvs c.rows ∧ Fine c ∧ RetHW K CH Z H h al Q (stepAx ax c) (stepAns ax c)
theorem sc_answer_call : FnScope ["house", "call", "numbers", "lists"] ["house", "call", "numbers", "lists"] (defScope s_answer_call) := ⟨rfl, rfl, rfl, by decide +kernel, rfl, by decide +kernel, by decide +kernel⟩
/-- return house.m(..) -/
theorem RetH.up {H H1 : Hp} {h al : Addr} {Q : VK} {ax : List Axiom} {ans : List Int} (k : RetH K CH H h al Q ax ans) (e : Ex H H1) : RetH K CH H1 h al Q ax ans := fun p al' H' hp hk hH ha n1 n2 h' =>
  k p al' H' (fresh_back e hp) (fun b o hb z1 z2 => hk b o (e b o hb) z1 z2) hH (ha.imp id fun z => fresh_back e z) n1 n2 h'
theorem s_hm {σ : L2.St} {H : Hp} {D : Ends} {to : TE} {t : TA} {m : Str} {sp : Sp} {h al : Addr} {ax : List Axiom} {vs : List V} (hto : Ev to σ H (.ref h)) (hH : HouseIn K CH H h al ax) (hm : (m == ("axioms" : Str)) = false) (ht : EvA t σ H vs) (hs : ∀ H1, Ex H H1 → sp (.ref h :: vs) H1 D.rt E0) : tRet (tMeth CH m sp [] E0 to t) D σ H := by
  obtain ⟨dx, avs, h1, _⟩ := hH
  refine hto H (Ex.refl H) _ fun H1 e1 => ⟨h, dx, _, rfl, e1 h _ h1, hF_no hm, ht H1 e1 _ fun H2 e2 => ?_⟩
  rw [List.append_nil]
  exact hs H2 (e1.trans e2)
theorem ok_answer_call {f : Addr} {fd : FuncData} (F : Fun K "answer_call" "answer_call" s_answer_call f fd) (TH : ClsH K CH) (TC : TxtC mg) (uB : MUse P w K mg base 1 CH "begins" ["self"] (spBegins K CH)) (uL : MUse P w K mg base 6 CH "line" ["self", "numbers"] (spLine K CH)) (uD : MUse P w K mg base 1 CH "drop" ["self", "which"] (spDrop K CH))
    (uA : MUse P w K mg base 13 CH "ask" ["self", "call", "lists"] (spAsk K CH Z)) : FnOk P w K mg base CX0 14 f fd ["house", "call", "numbers", "lists"] (spAC K CH Z) := by
  refine F.ok sc_answer_call (fun vs H Q E h => ?_) (fun cdv A outer s H vs Q E hr h => ⟨_,
    pss_cons (ps_if (pt_cmpR op_eq (pv 1) (pe_cst TC.kBEGINS) (nomark _)) (pss_one (ps_ret (pe_muse0 uB (pv 0) TH.cl (hr.mono (by decide))))) pss_nil)
    (pss_cons (ps_if (pt_cmpR op_eq (pv 1) (pe_cst TC.kLINE) (nomark _)) (pss_one (ps_ret (pe_muse uL (pv 0) TH.cl (hr.mono (by decide)) (pa_cons (pe_ix ix_list (pv 3) pe_int (fun _ _ => rfl)) pa_nil)))) pss_nil)
    (pss_cons (ps_if (pt_cmpR op_eq (pv 1) (pe_cst TC.kDROP) (nomark _)) (pss_one (ps_ret (pe_muse uD (pv 0) TH.cl (hr.mono (by decide)) (pa_cons (pe_ix ix_list (pv 2) pe_int (fun _ _ => rfl)) pa_nil)))) pss_nil)
    (pss_cons (ps_if (pt_cmpR op_le (pv 1) (pe_cst TC.kCAN) (nomark _)) (pss_one (ps_ret (pe_muse uA (pv 0) TH.cl hr (pa_cons (pv 1) (pa_cons (pv 3) pa_nil))))) pss_nil)
    (pss_one ps_never)))), ?_⟩)
  · obtain ⟨h, al, ax, c, nb, lb, lvs, rfl, _⟩ := h
    rfl
  · obtain ⟨h, al, ax, c, nb, lb, lvs, rfl, t, hH, hN, hL, hA, hF, k⟩ := h
    have tst : ∀ {σ : L2.St} {H : Hp} {ta : TE} {n m : Nat}, Ev ta σ H (vN n) → EvT (tTest (tOp rEq ta (tC (vN m)))) σ H (decide (n = m)) := fun {σ H ta n m} hta => et_is (et_test (ev_op hta ev_c (rv_eq rfl))) dec_nat
    unfold stepAx stepAns at k
    cases hF with
    | begins =>
      rw [st_begins] at k
      have k := k.strong t hH
      refine q_when (tst (n := 0) (m := 0) (ev_var rfl)) (fun _ H1 e1 => ?_) (fun q => by cases q)
      exact s_hm (ev_var rfl) (hH.mono e1) (by decide +kernel) ea_nil fun H2 e2 => ⟨h, al, ax, rfl, hH.mono (e1.trans e2), k.up (e1.trans e2)⟩
    | line l hl =>
      rw [st_line] at k
      have k := k.strong t hH
      obtain ⟨v, hv, b, rfl, hb⟩ := hA.get (i := 0) (y := l) rfl
      refine q_when (tst (n := 1) (m := 0) (ev_var rfl)) (fun q => by cases q) (fun _ H1 e1 => ?_)
      refine q_when (tst (n := 1) (m := 1) (ev_var rfl)) (fun _ H2 e2 => ?_) (fun q => by cases q)
      have e := e1.trans e2
      exact s_hm (ev_var rfl) (hH.mono e) (by decide +kernel) (ea_cons (ev_op (ev_var rfl) ev_c (rv_ixL (ex_l e hL) (atI_nat (j := 0) hv))) ea_nil) fun H3 e3 => ⟨h, al, ax, b, l, rfl, hH.mono (e.trans e3), ex_l (e.trans e3) hb, hl, k.up (e.trans e3)⟩
    | drop n hn =>
      rw [st_drop] at k
      have k := k.strong t hH
      refine q_when (tst (n := 2) (m := 0) (ev_var rfl)) (fun q => by cases q) (fun _ H1 e1 => ?_)
      refine q_when (tst (n := 2) (m := 1) (ev_var rfl)) (fun q => by cases q) (fun _ H2 e2 => ?_)
      refine q_when (tst (n := 2) (m := 2) (ev_var rfl)) (fun _ H3 e3 => ?_) (fun q => by cases q)
      have e := e1.trans (e2.trans e3)
      exact s_hm (ev_var rfl) (hH.mono e) (by decide +kernel) (ea_cons (ev_op (ev_var rfl) ev_c (rv_ixL (ex_l e hN) (atI_nat (j := 0) rfl))) ea_nil) fun H4 e4 => ⟨h, al, ax, n, rfl, hH.mono (e.trans e4), Nat.lt_trans hn (by decide), k.up (e.trans e4)⟩
    | ask n rows hq =>
      rw [st_ask ax hq] at k
      obtain ⟨r3, r7, _⟩ := hq.range
      refine q_when (tst (n := n) (m := 0) (ev_var rfl)) (fun q => by have := of_decide_eq_true q; omega) (fun _ H1 e1 => ?_)
      refine q_when (tst (n := n) (m := 1) (ev_var rfl)) (fun q => by have := of_decide_eq_true q; omega) (fun _ H2 e2 => ?_)
      refine q_when (tst (n := n) (m := 2) (ev_var rfl)) (fun q => by have := of_decide_eq_true q; omega) (fun _ H3 e3 => ?_)
      refine q_when (et_test (ev_op (ev_var rfl) ev_c rv_I0)) (fun _ H4 e4 => ?_) (fun q => by
        have : ¬ ((n : Int) ≤ 7) := of_decide_eq_false q
        omega)
      have e := e1.trans (e2.trans (e3.trans e4))
      refine s_hm (ev_var rfl) (hH.mono e) (by decide +kernel) (ea_cons (ev_var rfl) (ea_cons (ev_var rfl) ea_nil)) fun H5 e5 => ?_
      have e05 := e.trans e5
      refine ⟨h, al, lb, ax, n, lvs, rows, rfl, tab_ex t e05, hH.mono e05, ex_l e05 hL, hA.mono fun _ _ z => z.mono e05, hq, fun p H6 hp w6 h6 => ?_⟩
      have w06 := (Wx.of t e05).trans w6
      obtain ⟨dx, vs, q1, q2, _⟩ := id hH
      have hp0 := fresh_back e05 hp
      refine k p al H6 hp0 (fun b o hb _ _ nt => w06.ext b o hb nt) (fun b _ _ hb => w06.fr b hb) w06.tab (hH.w w06) (.inl rfl) (fun z => ?_) (fun z => ?_) h6
      · rw [z, q1] at hp0
        cases hp0
      · rw [z, q2] at hp0
        cases hp0
/-! ### answers -/
theorem HouseIn.del {H : Hp} {r C' dx' : Addr} {fs : List (Str × V)} {h al : Addr} {ax : List Axiom} (hr : H r = some (.ins C' dx' fs)) (n1 : h ≠ r) (q : HouseIn K CH H h al ax) : HouseIn K CH (del H r) h al ax := by
  obtain ⟨dx, vs, h1, h2, h3, h4⟩ := q
  refine ⟨dx, vs, by rw [del_ne n1]; exact h1, by rw [del_ne (ne_of h2 hr (by intro q; cases q))]; exact h2, h3.mono fun v a z => ?_, h4⟩
  obtain ⟨p, x, y, rfl, z1, z2, z3⟩ := z
  exact ⟨p, x, y, rfl, sqT_del hr z1, z2.del hr, z3.del hr⟩
theorem tab_del {H : Hp} {r C' dx : Addr} {fs : List (Str × V)} (t : TabsN Z H) (hr : H r = some (.ins C' dx fs)) : TabsN Z (del H r) := fun z hz => by
  obtain ⟨ps, h1, h2, h3⟩ := t z hz
  refine ⟨ps, ?_, h2, fun pos cv hc => ?_⟩
  · rw [del_ne fun e => ?_]
    · exact h1
    · rw [e, hr] at h1
      cases h1
  · obtain ⟨c, e1, e2⟩ := h3 pos cv hc
    refine ⟨c, e1, ?_⟩
    rw [del_ne fun e => ?_]
    · exact e2
    · rw [e, hr] at e2
      cases e2
theorem q_house {σ : L2.St} {H : Hp} {D : Ends} {tz : TS} {i : Nat} (k : ∀ h al H1, H h = none → H al = none → h ≠ al → Ex H H1 → HouseIn K CH H1 h al [] → tz D (σ.set i (some (.ref h))) H1) : tSeq (tAsg (tMake CH (spHI CH) [] E0 tNil) (gName i)) tz D σ H := by
  intro x dx hx hdx hne
  have ex : Ex H (upd (upd H dx (.own x)) x (.ins CH dx [])) := fun b o h => by
    rw [upd_ne (ne_of_none h hx), upd_ne (ne_of_none h hdx)]
    exact h
  refine ⟨x, dx, rfl, upd_same, fun al H1 hal h1 h2 hk => ⟨rfl, ?_⟩⟩
  have hal0 : H al = none := fresh_back ex hal
  have hxa : x ≠ al := fun z => by
    rw [← z, upd_same] at hal
    cases hal
  exact k x al H1 hx hal0 hxa (fun b o h => hk b o (ex b o h) (ne_of_none h hx)) ⟨dx, [], h1, h2, .nil, ⟨Nat.zero_le _, fun a ha => by cases ha⟩⟩
theorem q_reader {σ : L2.St} {H : Hp} {D : Ends} {tz : TS} {i : Nat} {ta : TE} {a : Addr} (ha : Ev ta σ H (.ref a)) (k : ∀ r H1, H r = none → Ex H H1 → RdAt CR H1 r a 0 → tz D (σ.set i (some (.ref r))) H1) : tSeq (tAsg (tMake CR (spRI CR) [] E0 (tCons ta tNil)) (gName i)) tz D σ H := by
  refine ha H (Ex.refl H) _ fun H1 e1 x dx hx hdx hne => ?_
  have ex : Ex H1 (upd (upd H1 dx (.own x)) x (.ins CR dx [])) := fun b o h => by
    rw [upd_ne (ne_of_none h hx), upd_ne (ne_of_none h hdx)]
    exact h
  refine ⟨x, dx, a, rfl, upd_same, fun H2 hR e2 => ⟨rfl, k x H2 (fresh_back e1 hx) (fun b o h => ?_) hR⟩⟩
  have h1 := e1 b o h
  exact e2 b o (by rw [del_ne (ne_of_none h1 hx)]; exact ex b o h1)
theorem q_row {σ : L2.St} {H : Hp} {D : Ends} {tz : TS} {i : Nat} {to : TE} {r a : Addr} {all row rest : List Nat} {p : Nat} (hto : Ev to σ H (.ref r)) (hR : RdAt CR H r a p) (hS : SqL K H a (all.map vN)) (hd : all.drop p = row.length :: (row ++ rest))
    (k : ∀ q H', H q = none → H' q = some (.lst (row.map vN)) → RdAt CR H' r a (p + 1 + row.length) → Ex (del H r) H' → tz D (σ.set i (some (.ref q))) H') : tSeq (tAsg (tMeth CR "take_row" (spRow K CR) [] E0 to tNil) (gName i)) tz D σ H := by
  obtain ⟨dx, hr⟩ := id hR
  refine hto H (Ex.refl H) _ fun H1 e1 => ?_
  refine ⟨r, dx, _, rfl, e1 r _ hr, rF_no (by decide +kernel) (by decide +kernel), ?_⟩
  refine ⟨r, a, all, row, rest, p, rfl, ⟨dx, e1 r _ hr⟩, ex_l e1 hS, hd, fun q H' hq h' hR' e' => k q H' (fresh_back e1 hq) h' hR' fun b o hb => ?_⟩
  have hbr : b ≠ r := fun z => by
    rw [z, del_at] at hb
    cases hb
  rw [del_ne hbr] at hb
  exact e' b o (by rw [del_ne hbr]; exact e1 b o hb)
theorem q_rows {σ : L2.St} {H : Hp} {D : Ends} {tz : TS} {i : Nat} {to : TE} {r a : Addr} {all : List Nat} {rows : List (List Nat)} {rest : List Nat} {p : Nat} (hto : Ev to σ H (.ref r)) (hR : RdAt CR H r a p) (hS : SqL K H a (all.map vN)) (hd : all.drop p = rows.length :: (rows.flatMap putRowN ++ rest)) (hz : rows.length ≤ 1000)
    (k : ∀ q ws H', H q = none → H' q = some (.lst ws) → All2 (RowIn H H') ws rows → RdAt CR H' r a (p + 1 + (rows.flatMap putRowN).length) → Ex (del H r) H' → tz D (σ.set i (some (.ref q))) H') : tSeq (tAsg (tMeth CR "take_rows" (spRows K CR) [] E0 to tNil) (gName i)) tz D σ H := by
  obtain ⟨dx, hr⟩ := id hR
  refine hto H (Ex.refl H) _ fun H1 e1 => ?_
  refine ⟨r, dx, _, rfl, e1 r _ hr, rF_no (by decide +kernel) (by decide +kernel), ?_⟩
  refine ⟨r, a, all, rows, rest, p, rfl, ⟨dx, e1 r _ hr⟩, ex_l e1 hS, hd, hz, fun q ws H' hq h' hA hR' e' => k q ws H' (fresh_back e1 hq) h' (hA.mono fun v row ⟨b, hv, z1, z2⟩ => ⟨b, hv, fresh_back e1 z1, z2⟩) hR' fun b o hb => ?_⟩
  have hbr : b ≠ r := fun z => by
    rw [z, del_at] at hb
    cases hb
  rw [del_ne hbr] at hb
  exact e' b o (by rw [del_ne hbr]; exact e1 b o hb)
theorem Fine.rows {c : NCall} (h : Fine c) : c.rows.length ≤ 1000 := by
  cases h with
  | begins => exact Nat.zero_le _
  | line l hl => show 1 ≤ 1000; decide
  | drop n hn => exact Nat.zero_le _
  | ask n rows hq =>
    have := hq.range.2.2
    show rows.length ≤ 1000
    omega
def full (ax : List Axiom) (ncs : List NCall) : List Int := PyFlat.told (PyFlat.played Oc12Neutral.step ⟨ax⟩ (ncs.map NCall.asI))
theorem full_cons (ax : List Axiom) (c : NCall) (ncs : List NCall) : full ax (c :: ncs) = ((stepAns ax c).length : Int) :: (stepAns ax c ++ full (stepAx ax c) ncs) := rfl
def spAns (K : PySem.W.Frag) (Z : List NTab) : Sp := fun vs H Q _ => ∃ (a : Addr) (all : List Nat) (ncs : List NCall), vs = [.ref a] ∧ TabsN Z H ∧ SqL K H a (all.map vN) ∧ all = ncs.flatMap NCall.put ∧ (∀ c ∈ ncs, Fine c) ∧ (full [] ncs).length ≤ 10000000 ∧
  ∀ (H' : Hp) (p : Addr), H' p = some (.lst ((full [] ncs).map V.int)) → Q (.ref p) H'
abbrev nAnswers : List Str := ["calls", "house", "reader", "answered", "call", "numbers", "lists", "answer"]
theorem sc_answers : FnScope nAnswers ["calls"] (defScope s_answers) := ⟨rfl, rfl, rfl, by decide +kernel, rfl, by decide +kernel, by decide +kernel⟩
theorem put_ne (c : NCall) : c.put ≠ [] := by intro h; cases h
theorem ok_answers {f : Addr} {fd : FuncData} (F : Fun K "answers" "answers" s_answers f fd) (T : Txt K mg) (TR : ClsR K CR) (uMH : MkUse P w K mg base 1 "House" CH ["self"] (spHI CH)) (uMR : MkUse P w K mg base 1 "Reader" CR ["self", "numbers"] (spRI CR)) (uAE : MUse P w K mg base 1 CR "at_end" ["self"] (spAE K CR))
    (uT : MUse P w K mg base 1 CR "take" ["self"] (spTake K CR)) (uR : MUse P w K mg base 2 CR "take_row" ["self"] (spRow K CR)) (uRs : MUse P w K mg base 3 CR "take_rows" ["self"] (spRows K CR)) (uAC : Use P w K mg base 14 "answer_call" ["house", "call", "numbers", "lists"] (spAC K CH Z)) : FnOk P w K mg base CX0 15 f fd ["calls"] (spAns K Z) := by
  refine F.ok sc_answers (fun vs H Q E h => ?_) (fun cdv A outer s H vs Q E hr h => ⟨_,
    pss_cons (ps_set (i := 1) sc_answers.nd rfl (.inl rfl) (pe_mkuse0 uMH (hr.mono (by decide))))
    (pss_cons (ps_set (i := 2) sc_answers.nd rfl (.inl rfl) (pe_mkuse uMR (hr.mono (by decide)) (pa_cons (pv 0) pa_nil)))
    (pss_cons (ps_set (i := 3) sc_answers.nd rfl (.inl rfl) (pe_lst pa_nil))
    (pss_cons (ps_while PassesOwn.never (pt_not (pt_val (pe_muse0 uAE (pv 2) TR.cl (hr.mono (by decide)))))
      (pss_cons (ps_set (i := 4) sc_answers.nd rfl (.inl rfl) (pe_muse0 uT (pv 2) TR.cl (hr.mono (by decide))))
      (pss_cons (ps_set (i := 5) sc_answers.nd rfl (.inl rfl) (pe_muse0 uR (pv 2) TR.cl (hr.mono (by decide))))
      (pss_cons (ps_set (i := 6) sc_answers.nd rfl (.inl rfl) (pe_muse0 uRs (pv 2) TR.cl (hr.mono (by decide))))
      (pss_cons (ps_set (i := 7) sc_answers.nd rfl (.inl rfl) (pe_use uAC hr (pa_cons (pv 1) (pa_cons (pv 4) (pa_cons (pv 5) (pa_cons (pv 6) pa_nil))))))
      (pss_cons (ps_expr (pe_bm PySem.F.plainAttrs_list PySem.F.slot_list_append PySem.F.type_list_append mt_append (pv 3) (pa_cons (pe_len T.len (pv 7)) pa_nil)))
      (pss_one (ps_expr (pe_bm PySem.F.plainAttrs_list PySem.F.slot_list_extend PySem.F.type_list_extend mt_extend (pv 3) (pa_cons (pv 7) pa_nil))))))))))
    (pss_one (ps_ret (pv 3)))))), ?_⟩)
  · obtain ⟨a, all, ncs, rfl, _⟩ := h
    rfl
  · obtain ⟨a, all, ncs, rfl, t0, hS, hall, hfine, hlen, k⟩ := h
    refine q_house (K := K) (CH := CH) fun h al H1 hh0 hal0 hha e1 hH1 => ?_
    refine q_reader (CR := CR) (ev_var rfl) fun r H2 hr0 e2 hR2 => ?_
    refine q_asgL (el_lst ea_nil (by decide)) fun l H3 hl0 e3 h3 => ?_
    obtain ⟨dxh, avs, hh1, hal1, _⟩ := id hH1
    obtain ⟨dxr, hr2⟩ := id hR2
    have nrh : r ≠ h := fun z => by rw [z, hh1] at hr0; cases hr0
    have nra : r ≠ al := fun z => by rw [z, hal1] at hr0; cases hr0
    have nlh : l ≠ h := fun z => by rw [z, e2 h _ hh1] at hl0; cases hl0
    have nla : l ≠ al := fun z => by rw [z, e2 al _ hal1] at hl0; cases hl0
    have nlr : l ≠ r := fun z => by rw [z, hr2] at hl0; cases hl0
    have hr00 : H r = none := fresh_back e1 hr0
    have hl00 : H l = none := fresh_back (e1.trans e2) hl0
    refine q_while (fun m σ' H' => ∃ (al : Addr) (ax : List Axiom) (rest : List NCall) (p : Nat) (acc : List Int) (x4 x5 x6 x7 : Option V), σ' = [some (.ref a), some (.ref h), some (.ref r), some (.ref l), x4, x5, x6, x7] ∧ Wx Z H H' ∧ H al = none ∧ r ≠ al ∧ l ≠ al ∧ HouseIn K CH H' h al ax ∧ RdAt CR H' r a p ∧ H' l = some (.lst (acc.map V.int)) ∧
        all.drop p = rest.flatMap NCall.put ∧ p ≤ all.length ∧ (∀ c ∈ rest, Fine c) ∧ acc ++ full ax rest = full [] ncs ∧ m = rest.length) _
      ⟨al, [], ncs, 0, [], none, none, none, none, rfl, .of t0 (e1.trans (e2.trans e3)), hal0, nra, nla, hH1.mono (e2.trans e3), ⟨dxr, e3 r _ hr2⟩, h3, hall, Nat.zero_le _, hfine, rfl, rfl⟩ ?_
    clear hH1 hR2 hal1 hal0 nra nla
    rintro m σ' H4 ⟨al, ax, rest, p, acc, x4, x5, x6, x7, rfl, e4, hal0, nra, nla, hH4, hR4, hl4, hdr, hp, hfi, hacc, rfl⟩
    have hS4 := wx_l e4 hS
    obtain ⟨dx4, hr4⟩ := id hR4
    refine ⟨_, et_not (et_B (ev_meth (ev_var rfl) hr4 (rF_no (by decide +kernel) (by decide +kernel)) ea_nil (sp_ae hR4 hS4))), fun hb H5 e5 => ?_, fun hb H5 e5 => ?_⟩
    · have hlt : p < all.length := by
        rw [Bool.not_eq_true', decide_eq_false_iff_not] at hb
        omega
      cases rest with
      | nil =>
        have := congrArg List.length hdr
        rw [List.length_drop] at this
        simp at this
        omega
      | cons c rest =>
        have hc := hfi c List.mem_cons_self
        have hd0 : all.drop p = c.place :: (putRowN c.nums ++ (c.rows.length :: (c.rows.flatMap putRowN ++ rest.flatMap NCall.put))) := by
          rw [hdr, List.flatMap_cons]
          simp [NCall.put, putRowN]
        have hn : all[p]? = some c.place := by
          have : (all.drop p)[0]? = all[p]? := by rw [List.getElem?_drop]; rfl
          rw [← this, hd0]
          rfl
        have hd1 : all.drop (p + 1) = c.nums.length :: (c.nums ++ (c.rows.length :: (c.rows.flatMap putRowN ++ rest.flatMap NCall.put))) := by
          rw [← List.drop_drop, hd0]
          rfl
        have hd2 : all.drop (p + 1 + 1 + c.nums.length) = c.rows.length :: (c.rows.flatMap putRowN ++ rest.flatMap NCall.put) := by
          rw [show p + 1 + 1 + c.nums.length = (p + 1) + (1 + c.nums.length) by omega, ← List.drop_drop, hd1, Nat.add_comm 1, List.drop_succ_cons, List.drop_left]
        have hd3 : all.drop (p + 1 + 1 + c.nums.length + 1 + (c.rows.flatMap putRowN).length) = rest.flatMap NCall.put := by
          rw [show p + 1 + 1 + c.nums.length + 1 + (c.rows.flatMap putRowN).length = (p + 1 + 1 + c.nums.length) + (1 + (c.rows.flatMap putRowN).length) by omega, ← List.drop_drop, hd2, Nat.add_comm 1, List.drop_succ_cons, List.drop_left]
        have hle3 : p + 1 + 1 + c.nums.length + 1 + (c.rows.flatMap putRowN).length ≤ all.length := by
          have := congrArg List.length hd2
          rw [List.length_drop, List.length_cons, List.length_append] at this
          omega
        refine ⟨_, fun σ2 H2 n => n, ?_⟩
        have hr5 := e5 r _ hr4
        have hrd : del H r r = none := del_at H r
        have dH : ∀ {G : Hp} {dxg : Addr} {pg : Nat}, Wx Z H G → G r = some (.ins CR dxg (rF a pg)) → ∀ {G' : Hp} {pg' : Nat}, Ex (del G r) G' → RdAt CR G' r a pg' → Wx Z H G' := fun {G dxg pg} wG hgr {G' pg'} eG' hR' => by
          obtain ⟨dxn, hrn⟩ := hR'
          refine ⟨fun b o hb nt => eG' b o (by rw [del_ne (ne_of_none hb hr00)]; exact wG.ext b o hb nt), tab_ex (tab_del wG.tab hgr) eG', fun b hb => wG.fr b (none_del eG' ⟨_, hrn⟩ hb)⟩
        refine q_take (K := K) (CR := CR) (ev_var rfl) ⟨dx4, hr5⟩ (ex_l e5 hS4) hn fun H6 hR6 e6 => ?_
        have x6 := dH (e4.ex e5) hr5 e6 hR6
        have hH6 := ((hH4.mono e5).del hr5 (Ne.symm nrh)).mono e6
        have hl6 : H6 l = some (.lst (acc.map V.int)) := e6 l _ (by rw [del_ne nlr]; exact e5 l _ hl4)
        obtain ⟨dx6, hr6⟩ := id hR6
        refine q_row (K := K) (CR := CR) (ev_var rfl) hR6 (wx_l x6 hS) hd1 fun nb H7 hnb h7 hR7 e7 => ?_
        have x7 := dH x6 hr6 e7 hR7
        have hH7 := (hH6.del hr6 (Ne.symm nrh)).mono e7
        have hl7 : H7 l = some (.lst (acc.map V.int)) := e7 l _ (by rw [del_ne nlr]; exact hl6)
        obtain ⟨dx7, hr7⟩ := id hR7
        refine q_rows (K := K) (CR := CR) (ev_var rfl) hR7 (wx_l x7 hS) hd2 hc.rows fun lb ws H8 hlb h8 hA8 hR8 e8 => ?_
        have x8 := dH x7 hr7 e8 hR8
        have hH8 := (hH7.del hr7 (Ne.symm nrh)).mono e8
        have hl8 : H8 l = some (.lst (acc.map V.int)) := e8 l _ (by rw [del_ne nlr]; exact hl7)
        have nbr : nb ≠ r := fun z => by rw [z, hr6] at hnb; cases hnb
        have hnb8 : H8 nb = some (.lst (c.nums.map vN)) := e8 nb _ (by rw [del_ne nbr]; exact h7)
        obtain ⟨dx8, hr8⟩ := id hR8
        -- answer = answer_call(house, call, numbers, lists)
        refine ⟨_, rfl, _, rfl, _, rfl, _, rfl, h, al, ax, c, nb, lb, ws, rfl, x8.tab, hH8, sq_of hnb8, sq_of h8, hA8.mono fun v row ⟨b, hv, _, z2⟩ => ⟨b, hv, sq_of z2⟩, hc, fun q al' H9 hq hk hfr ht9 hH9 hal9 nqh nqa h9 => ?_⟩
        have hl9 : H9 l = some (.lst (acc.map V.int)) := hk l _ hl8 nlh nla (by intro _ z; cases z)
        have hr9 : H9 r = some (.ins CR dx8 (rF a (p + 1 + 1 + c.nums.length + 1 + (c.rows.flatMap putRowN).length))) := hk r _ hr8 nrh nra (by intro _ z; cases z)
        have x9 : Wx Z H H9 := ⟨fun b o hb nt => hk b o (x8.ext b o hb nt) (ne_of_none hb hh0) (ne_of_none hb hal0) nt, ht9, fun b hb => by
          by_cases z1 : b = h
          · rw [z1]; exact hh0
          · by_cases z2 : b = al
            · rw [z2]; exact hal0
            · exact x8.fr b (hfr b z1 z2 hb)⟩
        have nql : q ≠ l := fun z => by rw [z, hl8] at hq; cases hq
        have hal9' : H al' = none := hal9.elim (fun z => by rw [z]; exact hal0) fun z => x8.fr al' z
        have nra' : r ≠ al' := hal9.elim (fun z => by rw [z]; exact nra) fun z => fun z2 => by rw [← z2, hr8] at z; cases z
        have nla' : l ≠ al' := hal9.elim (fun z => by rw [z]; exact nla) fun z => fun z2 => by rw [← z2, hl8] at z; cases z
        rw [full_cons] at hacc
        have hlenA := congrArg List.length hacc
        rw [List.length_append, List.length_cons, List.length_append] at hlenA
        have hsz : acc.length + 1 + (stepAns ax c).length ≤ sizeLine := by
          rw [sizeLine_eq]
          omega
        -- answered.append(len(answer))
        refine ⟨_, rfl, Or.inl ⟨rfl, _, sq_of hl9⟩, _, rfl, q, _, rfl, Or.inl (sq_of h9), l, _, _, rfl, rfl, hl9, by rw [List.length_map]; omega, ?_⟩
        -- answered.extend(answer)
        refine ⟨_, rfl, Or.inl ⟨rfl, _, sq_of upd_same⟩, _, rfl, l, q, _, _, rfl, rfl, upd_same, by rw [upd_ne nql]; exact h9, ?_, ?_⟩
        · rw [List.length_append, List.length_map, List.length_map]
          exact hsz
        · refine ⟨_, Nat.lt_succ_self _, al', stepAx ax c, rest, _, acc ++ (((stepAns ax c).length : Int) :: stepAns ax c), _, _, _, _, rfl, (x9.mut hl00 hl9).mut hl00 upd_same, hal9', nra', nla', ?_, ⟨dx8, ?_⟩, ?_, hd3, hle3, fun d hd => hfi d (List.mem_cons_of_mem _ hd), ?_, rfl⟩
          · obtain ⟨dx9, vs9, z1, z2, z3, z4⟩ := hH9
            refine ⟨dx9, vs9, ?_, ?_, z3.mono fun v a z => (z.upd hl9).upd upd_same, z4⟩
            · rw [upd_ne (Ne.symm nlh), upd_ne (Ne.symm nlh)]
              exact z1
            · rw [upd_ne (Ne.symm nla'), upd_ne (Ne.symm nla')]
              exact z2
          · rw [upd_ne (Ne.symm nlr), upd_ne (Ne.symm nlr)]
            exact hr9
          · rw [upd_same]
            congr 2
            simp
          · rw [← hacc, List.append_assoc]
            rfl
    · have hge : all.length ≤ p := by
        rw [Bool.not_eq_false', decide_eq_true_eq] at hb
        exact hb
      have hnil : rest = [] := by
        rw [List.drop_eq_nil_of_le hge] at hdr
        cases rest with
        | nil => rfl
        | cons c rest =>
          rw [List.flatMap_cons] at hdr
          cases hdr
      subst hnil
      rw [show full ax [] = [] from rfl, List.append_nil] at hacc
      subst hacc
      exact s_ret (ev_var rfl) fun H6 e6 => k H6 l ((e5.trans e6) l _ hl4)
end
end Bk

namespace Bk
open PySem PySem.Spec PyProof.Rows L2 Evl LamX NdefX
open PySem.W (Codec)
theorem toI_len (l : List Nat) : (toI l).length = l.length := List.length_map _
theorem row32_len {l : List Nat} {m : Nat} (h : Oc12Neutral.row32 (toI l) m = true) : l.length ≤ m := by
  unfold Oc12Neutral.row32 at h
  rw [Bool.and_eq_true] at h
  have := of_decide_eq_true h.1
  rwa [toI_len] at this
theorem map_toI_one {rows : List (List Nat)} {l : List Int} (h : rows.map toI = [l]) : ∃ r, rows = [r] ∧ toI r = l := by
  match rows, h with
  | [r], h => exact ⟨r, rfl, by simpa using h⟩
theorem map_toI_two {rows : List (List Nat)} {l p : List Int} (h : rows.map toI = [l, p]) : ∃ r q, rows = [r, q] ∧ toI r = l ∧ toI q = p := by
  match rows, h with
  | [r, q], h => exact ⟨r, q, rfl, by simpa using h⟩
theorem map_toI_cons {rows : List (List Nat)} {l : List Int} {m : List (List Int)} (h : rows.map toI = l :: m) : ∃ r q, rows = r :: q ∧ toI r = l ∧ q.map toI = m := by
  match rows, h with
  | r :: q, h => exact ⟨r, q, rfl, by simpa using h⟩
theorem fine_of {c : NCall} (h : Oc12Neutral.asked1 c.asI = true) : Fine c := by
  obtain ⟨p, ns, rows⟩ := c
  have hd : ∀ {q : Int} {l : List Int} {xs : List (List Int)}, NCall.asI ⟨p, ns, rows⟩ = (q :: l) :: xs → (p : Int) = q ∧ toI ns = l ∧ rows.map toI = xs := fun e => by
    have e1 : ((p : Int) :: toI ns) :: rows.map toI = _ := e
    injection e1 with e2 e3
    injection e2 with e4 e5
    exact ⟨e4, e5, e3⟩
  have nil : toI ns = [] → ns = [] := fun e => List.map_eq_nil_iff.mp e
  have rnil : rows.map toI = [] → rows = [] := fun e => List.map_eq_nil_iff.mp e
  unfold Oc12Neutral.asked1 at h
  split at h
  · rename_i e
    obtain ⟨e1, e2, e3⟩ := hd e
    obtain rfl : p = 0 := by omega
    rw [nil e2, rnil e3]
    exact .begins
  · rename_i l e
    obtain ⟨e1, e2, e3⟩ := hd e
    obtain rfl : p = 1 := by omega
    obtain ⟨r, rfl, rfl⟩ := map_toI_one e3
    rw [nil e2]
    exact .line r (row32_len h)
  · rename_i i e
    obtain ⟨e1, e2, e3⟩ := hd e
    obtain rfl : p = 2 := by omega
    rw [rnil e3]
    match ns, e2 with
    | [n], e2 =>
      have e4 : (n : Int) = i := by simpa [toI] using e2
      refine .drop n ?_
      unfold Oc12Neutral.whole32 at h
      rw [Bool.and_eq_true] at h
      have := of_decide_eq_true h.2
      omega
  · rename_i l e
    obtain ⟨e1, e2, e3⟩ := hd e
    obtain rfl : p = 3 := by omega
    obtain ⟨r, rfl, rfl⟩ := map_toI_one e3
    rw [nil e2]
    exact .ask _ _ (.none r (row32_len h))
  · rename_i l e
    obtain ⟨e1, e2, e3⟩ := hd e
    obtain rfl : p = 4 := by omega
    obtain ⟨r, rfl, rfl⟩ := map_toI_one e3
    rw [nil e2]
    exact .ask _ _ (.model r (row32_len h))
  · rename_i l q e
    obtain ⟨e1, e2, e3⟩ := hd e
    obtain rfl : p = 5 := by omega
    obtain ⟨r, r2, rfl, rfl, rfl⟩ := map_toI_two e3
    rw [nil e2]
    rw [Bool.and_eq_true] at h
    exact .ask _ _ (.checknone r r2 (row32_len h.1) (row32_len h.2))
  · rename_i l m e
    obtain ⟨e1, e2, e3⟩ := hd e
    obtain rfl : p = 6 := by omega
    obtain ⟨r, r2, rfl, rfl, rfl⟩ := map_toI_cons e3
    rw [nil e2]
    rw [Bool.and_eq_true, Bool.and_eq_true] at h
    have h2 := of_decide_eq_true h.2.1
    rw [List.length_map] at h2
    exact .ask _ _ (.checkmodel r r2 (row32_len h.1) h2 fun x hx => row32_len (List.all_eq_true.mp h.2.2 _ (List.mem_map.mpr ⟨x, hx, rfl⟩)))
  · rename_i l e
    obtain ⟨e1, e2, e3⟩ := hd e
    obtain rfl : p = 7 := by omega
    obtain ⟨r, rfl, rfl⟩ := map_toI_one e3
    rw [nil e2]
    exact .ask _ _ (.can r (row32_len h))
  · cases h
theorem int_nat {l : List Int} (h : ∀ x ∈ l, 0 ≤ x) : l.map V.int = (nats l).map vN := by
  conv => lhs; rw [← ints_nats h]
  unfold toI
  rw [List.map_map]
  rfl
end Bk

namespace Bk
open PySem PySem.Spec PyProof.Rows L2 Evl LamX NdefX
open PySem.W (WData Codec OpenSpec WellAll ReadsW ReadsAllW)
/-! ### the end of the row: the call where tables of code objects may grow -/
abbrev noTab : Obj := { cls := .none, data := .fields #[] }
/-- the arguments' heap and the empty tables -/
def withTabs (G : Hp) (ts : List Addr) : Hp := fun b => if b ∈ ts then some (.tbl #[]) else G b
theorem wt_in {G : Hp} {ts : List Addr} {b : Addr} (h : b ∈ ts) : withTabs G ts b = some (.tbl #[]) := if_pos h
theorem wt_out {G : Hp} {ts : List Addr} {b : Addr} (h : b ∉ ts) : withTabs G ts b = G b := if_neg h
theorem call_tabs {P : Program} {w : World} {K : PySem.W.Frag} {mg mb : Str → Option Value} {k : Nat} {fa : Addr} {fd : FuncData} {ps : List Str} {sp : Sp} {S : Shared} {vals : List Value} {ds : List WData} {R : PySem.W.WRecords} {cl : Str → Option Addr} {d0 : WData} {cs : List (Addr × Addr)}
    (inK : K.In S.heap) (gl : S.heap.Ns mainGlobals mg) (bl : S.heap.Ns builtinsNs mb) (blt : ∀ x : Str, x ≠ "__name__" → mb x = bootBuiltins x) (nl : S.heap.NoLimit) (ge : S.gens = #[])
    (well : WellAll w.params S.heap vals ds) (pl : plWs ds = true) (wt : ∀ d ∈ ds, d.weight ≤ 1048576) (rm : Room k callerA)
    (hT : ∀ p ∈ cs, S.heap.get? p.2 = some noTab) (nT : ∀ p ∈ cs, K.lookup p.2 = none) (hC : ∀ p ∈ cs, PySem.W.CodeHd S.heap p.1 p.2)
    (hbm : ∃ (bm : Addr) (ob : Obj), mg "__builtins__" = some (.ref bm) ∧ bm ≠ builtinsNs ∧ S.heap.get? bm = some ob ∧ ob.cls = .type "module" ∧ ob.dict = some builtinsNs ∧ ob.data = .plain)
    (F : ∀ bs : Heap, K.In bs → bs.Ns mainGlobals mg → (∀ p ∈ cs, TabB bs mg p.1 p.2) → FnOk P w K mg bs CX0 k fa fd ps sp) (bind : ∀ (s : Shared) (us : List Value), us.length = ps.length → BindsTo s fd ⟨us, []⟩ (ps.zip us)) (len : ds.length = ps.length)
    (hsp : ∀ (G H : Hp) (xs : List V), Ex G H → (∀ p ∈ cs, H p.2 = some (.tbl #[])) → DwAll K G xs ds → sp xs H (fun v H' => Dw K H' v d0) fun _ _ _ => False) :
    codeAny (model P w) callerA (.call (.ref fa) ⟨vals, []⟩) (fun r s' => ∃ u as, r = .ok (.ret u) ∧ ReadsW R cl s'.heap u d0 as ∧ OldK S.heap s'.heap ∧ s'.os = S.os ∧ AllBare s'.gens) S := by
  obtain ⟨A, hu, ar⟩ := area_all ds vals well pl wt
  have isT : ∀ b ∈ cs.map (·.2), S.heap.get? b = some noTab := fun b hb => by
    obtain ⟨p, hp, e⟩ := List.mem_map.mp hb
    exact e ▸ hT p hp
  have memT : ∀ p ∈ cs, p.2 ∈ cs.map (·.2) := fun p hp => List.mem_map.mpr ⟨p, hp, rfl⟩
  -- an argument's object is a list or a tuple
  have argS : ∀ b u, argH K S.heap A b = some u → ∃ (o : Obj) (vs : List Value) (n : Nat), S.heap.get? b = some o ∧ o.data = .seq vs.toArray n := fun b u q => by
    obtain ⟨_, vs, _, _, ⟨e2, _⟩ | ⟨e2, _⟩⟩ := argH_is ar q
    · exact ⟨_, vs, _, e2, rfl⟩
    · exact ⟨_, vs, _, e2, rfl⟩
  have argT : ∀ b u, argH K S.heap A b = some u → b ∉ cs.map (·.2) := fun b u q z => by
    obtain ⟨o, vs, n, e, d⟩ := argS b u q
    rw [isT b z] at e
    cases e
    cases d
  generalize hH : withTabs (argH K S.heap A) (cs.map (·.2)) = H
  have eG : Ex (argH K S.heap A) H := fun b u q => by
    rw [← hH, wt_out (argT b u q)]
    exact q
  have hTab : ∀ p ∈ cs, H p.2 = some (.tbl #[]) := fun p hp => by
    rw [← hH]
    exact wt_in (memT p hp)
  have part : ∀ b u, H b = some u → (b ∈ cs.map (·.2) ∧ u = .tbl #[]) ∨ argH K S.heap A b = some u := fun b u q => by
    rw [← hH] at q
    by_cases z : b ∈ cs.map (·.2)
    · rw [wt_in z] at q
      exact .inl ⟨z, (Option.some.inj q).symm⟩
    · rw [wt_out z] at q
      exact .inr q
  have okH : HOk P w H S.heap := fun b u q => by
    rcases part b u q with ⟨z, rfl⟩ | z
    · exact isT b z
    · have y := argH_ok (P := P) (w := w) (K := K) ar b u z
      obtain ⟨_, vs, _, _, ⟨_, rfl⟩ | ⟨_, rfl⟩⟩ := argH_is ar z
      · exact y
      · exact y
  have free : ∀ {b : Addr} {o : Obj}, S.heap.get? b = some o → (∀ vs n, o.data ≠ .seq vs n) → o.data ≠ .fields #[] → H b = none := fun {b o} e n1 n2 => by
    cases q : H b with
    | none => rfl
    | some u =>
      exfalso
      rcases part b u q with ⟨z, _⟩ | z
      · rw [isT b z] at e
        cases e
        exact n2 rfl
      · obtain ⟨o', vs, n, e', d⟩ := argS b u z
        rw [e] at e'
        cases e'
        exact n1 _ _ d
  have under : ∀ {b : Addr} {o : Obj}, S.heap.get? b = some o → (∀ vs n, o.data ≠ .seq vs n) → o.data ≠ .fields #[] → (hidT S.heap H).get? b = some o := fun e n1 n2 => hidT_get e (free e n1 n2)
  have nsU : ∀ {b : Addr} {m : Str → Option Value}, S.heap.Ns b m → (hidT S.heap H).Ns b m := fun {b m} ⟨o, es, ep, e, d, r⟩ => by
    refine ⟨o, es, ep, under e (fun vs n z => ?_) (fun z => ?_), d, r⟩
    · rw [d] at z
      cases z
    · rw [d] at z
      cases z
  have inU : K.In (hidT S.heap H) := fun b o e => hidT_get (inK b o e) (by
    cases q : H b with
    | none => rfl
    | some u =>
      exfalso
      rcases part b u q with ⟨z, _⟩ | z
      · obtain ⟨p, hp, ep⟩ := List.mem_map.mp z
        rw [← ep, nT p hp] at e
        cases e
      · rw [(argH_is ar z).1] at e
        cases e)
  have md : L2.Mod K mg (hidT S.heap H) := ⟨inU, nsU gl, ⟨mb, nsU bl, blt⟩, let ⟨mc, g1, g2⟩ := nl; ⟨mc, nsU g1, g2⟩⟩
  have tabs : ∀ p ∈ cs, TabB (hidT S.heap H) mg p.1 p.2 := fun p hp => by
    have hTp := hT p hp
    refine ⟨?_, ?_, fun z => ?_⟩
    · obtain ⟨o, us, file, tf, flags, tg, inF, text, tt, e1, r1, r2, r3, rest⟩ := hC p hp
      refine ⟨o, us, file, tf, flags, tg, inF, text, tt, under e1 (fun vs n z => ?_) (fun z => ?_), r1, r2, r3, rest⟩
      · rw [r2] at z
        cases z
      · rw [r2] at z
        cases z
        simp at r3
    · obtain ⟨bm, ob, b1, b2, b3, b4, b5, b6⟩ := hbm
      refine ⟨bm, ob, b1, b2, fun q => ?_, fun q => ?_, under b3 (fun vs n z => ?_) (fun z => ?_), b4, b5, b6⟩
      · obtain ⟨o, es, ep, e, hd, _⟩ := gl
        rw [q, e] at b3
        cases b3
        rw [hd] at b6
        cases b6
      · rw [q, hTp] at b3
        cases b3
        cases b6
      · rw [b6] at z
        cases z
      · rw [b6] at z
        cases z
    · obtain ⟨o, es, ep, e, hd, _⟩ := gl
      rw [z, hTp] at e
      cases e
      cases hd
  have env : Env0 P w K mg (hidT S.heap H) callerA [] S H := ⟨rfl, md, fun b o e => of_hidT e, Nat.le_of_eq (hidT_size _ _), trivial, fun b hb => absurd (show b ∈ ([] : List Addr) from hb) List.not_mem_nil, okH, .of_eq ge⟩
  have lenV : vals.length = ps.length := (wellAll_len well).trans len
  refine codeAny_mono ((F _ inU (nsU gl) tabs).run callerA [] S H ⟨vals, []⟩ vals (vals.map toV) _ _ rm env (bind S vals lenV) (vals_toV hu) (hsp _ H _ eG hTab (dw_all inK ar ds vals well pl hu))) fun r s' x => ?_
  cases r with
  | error e => exact False.elim x
  | ok fl =>
    cases fl with
    | next => exact False.elim x
    | brk => exact False.elim x
    | cont => exact False.elim x
    | ret u =>
      obtain ⟨v, H', os, bare, un, okE, rel, q⟩ := x
      have stays : ∀ b o, b ∉ cs.map (·.2) → S.heap.get? b = some o → s'.heap.get? b = some o := fun b o nb e => by
        cases z : H b with
        | none => exact un.keep b o e z (fun y => absurd (show b ∈ ([] : List Addr) from y) List.not_mem_nil) List.not_mem_nil
        | some u2 =>
          rcases part b u2 z with ⟨y, _⟩ | y
          · exact absurd y nb
          · obtain ⟨_, vs, _, _, ⟨e2, rfl⟩ | ⟨e2, rfl⟩⟩ := argH_is ar y
            · have z2 := un.frzs b _ _ z
              obtain ⟨e3, _⟩ := okE b _ z2
              exact (e.symm.trans e2) ▸ e3
            · have z2 := un.frzs b _ _ z
              obtain ⟨e3, _⟩ := okE b _ z2
              exact (e.symm.trans e2) ▸ e3
      have grown : ∀ p ∈ cs, ∃ more : Array Value, s'.heap.get? p.2 = some { cls := .none, data := .fields more } := fun p hp => by
        obtain ⟨more, z⟩ := un.tbls p.2 #[] (hTab p hp)
        exact ⟨_, okE p.2 _ z⟩
      have inE : K.In s'.heap := fun b o e => stays b o (fun z => by
        obtain ⟨p, hp, ep⟩ := List.mem_map.mp z
        rw [← ep, nT p hp] at e
        cases e) (inK b o e)
      obtain ⟨as, rd⟩ := Dw.reads (R := R) (cl := cl) okE inE d0 v u q rel
      refine ⟨u, as, rfl, rd, ⟨fun b o e => ?_, fun b o e => ?_⟩, os, bare⟩
      · by_cases hb : b ∈ cs.map (·.2)
        · obtain ⟨p, hp, ep⟩ := List.mem_map.mp hb
          subst ep
          obtain ⟨more, hm⟩ := grown p hp
          rw [hT p hp] at e
          cases e
          exact .inr (.inl ⟨((hC p hp).tab (hT p hp)).isCodeTable, rfl, #[], more, rfl, by rw [Array.empty_append]; exact hm⟩)
        · exact .inl (stays b o hb e)
      · by_cases hb : b ∈ cs.map (·.2)
        · obtain ⟨p, hp, ep⟩ := List.mem_map.mp hb
          subst ep
          obtain ⟨more, hm⟩ := grown p hp
          exact ⟨_, hm⟩
        · exact ⟨o, stays b o hb e⟩
/-- the goal behind the head, from the promise of the row's def, with tables -/
theorem walk_tabs {r : OpenSpec} {k : Nat} {q : Program} {loose : List Str} {XP : (Str → Option Value) → Heap → Prop} {YP : World → Heap → Prop} {d : DefRec} {K : Params → PySem.W.Frag} {ps : List Str} {sp : PySem.W.Frag → Sp} (cs : List (Addr × Addr))
    (said : r.wellSaid = true) (nodf : d.params.defaults = []) (len : r.args.length = ps.length) (rm : Room k callerA) (hY : ∀ (w : World) (h : Heap), YP w h → (K w.params).In h)
    (F : ∀ (w : World) (mg : Str → Option Value) (fa : Addr) (h : Heap), YP w h → (K w.params).In h → h.Ns mainGlobals mg → mg d.name = some (.ref fa) →
      ∃ fd : FuncData, (∀ (s : Shared) (us : List Value), us.length = ps.length → BindsTo s fd ⟨us, []⟩ (ps.zip us)) ∧ (∀ p ∈ cs, h.get? p.2 = some noTab ∧ (K w.params).lookup p.2 = none ∧ PySem.W.CodeHd h p.1 p.2) ∧
        ∀ bs : Heap, (K w.params).In bs → bs.Ns mainGlobals mg → (∀ p ∈ cs, TabB bs mg p.1 p.2) → FnOk r.prog w (K w.params) mg bs CX0 k fa fd ps (sp (K w.params)))
    (hsp : ∀ (K : PySem.W.Frag) (G H : Hp) (xs : List V) (a : Codec.denoteAll r.args), Ex G H → (∀ p ∈ cs, H p.2 = some (.tbl #[])) → Codec.withinAll r.args a = true → Codec.app r.args r.asked a = true → DwAll K G xs (Codec.encAll r.args a) →
      sp K xs H (fun v H' => Dw K H' v (r.ret.enc (Codec.app r.args r.f a))) fun _ _ _ => False) :
    PySem.W.WalkOS q loose XP YP r d [] (fun f vs => PySem.call f vs) := by
  intro w s0 S mg mb G Y fa o pm cd doc dV kV ho hd hcd hD hmg hg args vals as pre lay rd wl lo
  obtain ⟨a, e1, e2⟩ := PySem.W.os_pre_some pre
  obtain ⟨e3, wi⟩ := Codec.encAll_of_decAll r.args args a e1
  subst e3
  have inK := hY w _ Y
  obtain ⟨fd, bind, hc, hF⟩ := F w mg fa _ Y inK G.T.g hmg
  refine PySem.W.enter_call (codeAny_mono (call_tabs (R := []) (cl := classAt s0.heap) (d0 := r.ret.enc (Codec.app r.args r.f a)) (cs := cs) inK G.T.g G.T.b G.T.builtins G.T.nolimit hg wl (pl_encAll _ _) (layable_weight lay) rm (fun p hp => (hc p hp).1) (fun p hp => (hc p hp).2.1) (fun p hp => (hc p hp).2.2) G.T.bmain hF bind (by rw [encAll_len]; exact len)
    (fun G1 H xs e ht hS => hsp (K w.params) G1 H xs a e ht wi e2 hS)) fun r' s' hq => ?_)
  obtain ⟨u, as', rfl, q1, q2, q3, q4⟩ := hq
  exact ⟨.inl ⟨u, _, as', rfl, fun _ => rfl, q1, (OpenSpec.post_iff said wi _ _).mpr rfl, fun z => Bool.noConfusion (show false = true from z)⟩, q2, q3, q4⟩
end Bk

namespace Bk
open PySem PySem.Spec PyProof.Rows L2 Evl
open PySem.W (Codec)
def Zt : List NdefX.NTab := [(107, fun _ _ => qnK), (199, fun _ _ => qnT)]
abbrev tabCs : List (Addr × Addr) := [(111, 107), (203, 199)]
theorem zt_column : ((107, fun _ _ => qnK) : NdefX.NTab) ∈ Zt := by simp [Zt]
theorem zu_column : ∀ p ∈ Zt, p.1 = 107 → p.2 = fun _ _ => qnK := fun p hp e => by
  unfold Zt at hp
  rcases List.mem_cons.mp hp with rfl | hp
  · rfl
  · obtain rfl := List.mem_singleton.mp hp
    exact absurd e (by decide)
theorem zt_thing_column : ((199, fun _ _ => qnT) : NdefX.NTab) ∈ Zt := by simp [Zt]
theorem zu_thing_column : ∀ p ∈ Zt, p.1 = 199 → p.2 = fun _ _ => qnT := fun p hp e => by
  unfold Zt at hp
  rcases List.mem_cons.mp hp with rfl | hp
  · exact absurd e (by decide)
  · obtain rfl := List.mem_singleton.mp hp
    rfl
theorem zt_tabs {H : Hp} (h : ∀ p ∈ tabCs, H p.2 = some (.tbl #[])) : NdefX.TabsN Zt H := fun z hz => by
  unfold Zt at hz
  rcases List.mem_cons.mp hz with rfl | hz
  · exact NdefX.TabN.nil (h (111, 107) (by simp))
  · obtain rfl := List.mem_singleton.mp hz
    exact NdefX.TabN.nil (h (203, 199) (by simp))
theorem cst_of {mg : Str → Option Value} {x : Str} {v : Int} {t : Tok} (h : mg x = some (.int v t)) : Cst mg x (.int v) := ⟨⟨_, h, t, rfl⟩⟩
theorem all_mk {P : Program} {w : World} {K : PySem.W.Frag} {h : Heap} {mg : Str → Option Value} {fa C_Kinds C_Question C_House C_Reader a_PARTS a_CHOICES f0 f1 f2 f3 f4 f5 f6 f7 f8 f9 f10 f11 f12 f13 f14 f15 f16 f17 f18 f19 f20 f21 f22 f23 f24 f25 f26 f27 f28 f29 f30 f31 f32 f33 f34 f35 f36 f37 f38 f39 f40 f41 f42 f43 f44 f45 f46 f47 f48 f49 f50 f51 f52 f53 f54 f55 f56 f57 f58 f59 f60 : Addr}
    {t_EVERYTHING t_NAME t_BOTH t_EITHER t_NOT t_SOME t_ALL t_BY_AXIOM t_BY_ATOM t_RIGHT t_NOT_THERE t_NO_REASON t_STILL_HOLDS t_NO_THINGS t_STRAY_WAY t_BREAKS_AXIOM t_NOT_THE_FIRST t_ROLES t_NOT_A_PROOF t_NO_SUCH_PROOF t_MOST_AXIOMS t_MOST_ATOMS t_NOT_CONCEPTS t_NO_SUCH_AXIOM t_TOO_MANY t_BEGINS t_LINE t_DROP t_NONE t_MODEL t_CHECKNONE t_CHECKMODEL t_CAN : Tok}
    {od0 an0 od1 an1 od2 an2 od3 an3 od4 an4 od5 an5 od6 an6 od7 an7 od8 an8 od9 an9 od10 an10 od11 an11 od12 an12 od13 an13 od14 an14 od15 an15 od16 an16 od17 an17 od18 an18 od19 an19 od20 an20 od21 an21 od22 an22 od23 an23 od24 an24 od25 an25 od26 an26 od27 an27 od28 an28 od29 an29 od30 an30 od31 an31 od32 an32 od33 an33 od34 an34 od35 an35 od36 an36 od37 an37 od38 an38 od39 an39 od40 an40 od41 an41 od42 an42 od43 an43 od44 an44 od45 an45 od46 an46 od47 an47 od48 an48 od49 an49 od50 an50 od51 an51 od52 an52 od53 an53 od54 an54 od55 an55 od56 an56 od57 an57 od58 an58 od59 an59 od60 an60 odT_PARTS odT_CHOICES : Option Addr}
    {sl0 sl1 sl2 sl3 sl4 sl5 sl6 sl7 sl8 sl9 sl10 sl11 sl12 sl13 sl14 sl15 sl16 sl17 sl18 sl19 sl20 sl21 sl22 sl23 sl24 sl25 sl26 sl27 sl28 sl29 sl30 sl31 sl32 sl33 sl34 sl35 sl36 sl37 sl38 sl39 sl40 sl41 sl42 sl43 sl44 sl45 sl46 sl47 sl48 sl49 sl50 sl51 sl52 sl53 sl54 sl55 sl56 sl57 sl58 sl59 sl60 slT_PARTS slT_CHOICES : Array (Option Value)}
    {oc0 kV0 dc0 pm0 ct0 cd0 oc1 kV1 dc1 pm1 ct1 cd1 oc2 kV2 dc2 pm2 ct2 cd2 oc3 kV3 dc3 pm3 ct3 cd3 oc4 kV4 dc4 pm4 ct4 cd4 oc5 kV5 dc5 pm5 ct5 cd5 oc6 kV6 dc6 pm6 ct6 cd6 oc7 kV7 dc7 pm7 ct7 cd7 oc8 kV8 dc8 pm8 ct8 cd8 oc9 kV9 dc9 pm9 ct9 cd9 oc10 kV10 dc10 pm10 ct10 cd10 oc11 kV11 dc11 pm11 ct11 cd11 oc12 kV12 dc12 pm12 ct12 cd12 oc13 kV13 dc13 pm13 ct13 oc14 kV14 dc14 pm14 ct14 cd14 oc15 kV15 dc15 pm15 ct15 cd15 oc16 kV16 dc16 pm16 ct16 cd16 oc17 kV17 dc17 pm17 ct17 cd17 oc18 kV18 dc18 pm18 ct18 cd18 oc19 kV19 dc19 pm19 ct19 cd19 oc20 kV20 dc20 pm20 ct20 cd20 oc21 kV21 dc21 pm21 ct21 cd21 oc22 kV22 dc22 pm22 ct22 cd22 oc23 kV23 dc23 pm23 ct23 cd23 oc24 kV24 dc24 pm24 ct24 cd24 oc25 kV25 dc25 pm25 ct25 oc26 kV26 dc26 pm26 ct26 cd26 oc27 kV27 dc27 pm27 ct27 cd27 oc28 kV28 dc28 pm28 ct28 cd28 oc29 kV29 dc29 pm29 ct29 cd29 oc30 kV30 dc30 pm30 ct30 cd30 oc31 kV31 dc31 pm31 ct31 cd31 oc32 kV32 dc32 pm32 ct32 cd32 oc33 kV33 dc33 pm33 ct33 cd33 oc34 kV34 dc34 pm34 ct34 cd34 oc35 kV35 dc35 pm35 ct35 cd35 oc36 kV36 dc36 pm36 ct36 cd36 oc37 kV37 dc37 pm37 ct37 cd37 oc38 kV38 dc38 pm38 ct38 cd38 oc39 kV39 dc39 pm39 ct39 cd39 oc40 kV40 dc40 pm40 ct40 cd40 oc41 kV41 dc41 pm41 ct41 cd41 oc42 kV42 dc42 pm42 ct42 cd42 oc43 kV43 dc43 pm43 ct43 cd43 oc44 kV44 dc44 pm44 ct44 cd44 oc45 kV45 dc45 pm45 ct45 cd45 oc46 kV46 dc46 pm46 ct46 cd46 oc47 kV47 dc47 pm47 ct47 cd47 oc48 kV48 dc48 pm48 ct48 cd48 oc49 kV49 dc49 pm49 ct49 cd49 oc50 kV50 dc50 pm50 ct50 cd50 oc51 kV51 dc51 pm51 ct51 cd51 oc52 kV52 dc52 pm52 ct52 cd52 oc53 kV53 dc53 pm53 ct53 cd53 oc54 kV54 dc54 pm54 ct54 cd54 oc55 kV55 dc55 pm55 ct55 cd55 oc56 kV56 dc56 pm56 ct56 cd56 oc57 kV57 dc57 pm57 ct57 cd57 oc58 kV58 dc58 pm58 ct58 cd58 oc59 kV59 dc59 pm59 ct59 cd59 oc60 kV60 dc60 pm60 ct60 cd60 : Value}
    {nT_PARTS : Nat} {tT_PARTS_0 tT_PARTS_1 tT_PARTS_2 tT_PARTS_3 tT_PARTS_4 tT_PARTS_5 tT_PARTS_6 tT_PARTS_7 : Tok}
    {nT_CHOICES : Nat} {tT_CHOICES_0 tT_CHOICES_1 tT_CHOICES_2 tT_CHOICES_3 tT_CHOICES_4 tT_CHOICES_5 tT_CHOICES_6 tT_CHOICES_7 : Tok}
    (X : K.In h) (G : h.Ns mainGlobals mg) (hfa : mg "answers" = some (.ref fa)) (hcs : ∀ p ∈ tabCs, h.get? p.2 = some noTab ∧ K.lookup p.2 = none ∧ PySem.W.CodeHd h p.1 p.2)
    (b_len : PySem.W.nsIn K mainGlobals "len" = some none)
    (b_tuple : PySem.W.nsIn K mainGlobals "tuple" = some none)
    (b_list : PySem.W.nsIn K mainGlobals "list" = some none)
    (b_range : PySem.W.nsIn K mainGlobals "range" = some none)
    (b_reversed : PySem.W.nsIn K mainGlobals "reversed" = some none)
    (b_enumerate : PySem.W.nsIn K mainGlobals "enumerate" = some none)
    (b_any : PySem.W.nsIn K mainGlobals "any" = some none)
    (b_all : PySem.W.nsIn K mainGlobals "all" = some none)
    (b_zip : PySem.W.nsIn K mainGlobals "zip" = some none)
    (q_EVERYTHING : PySem.W.nsIn K mainGlobals "EVERYTHING" = some (some (.int 0 t_EVERYTHING)))
    (q_NAME : PySem.W.nsIn K mainGlobals "NAME" = some (some (.int 2 t_NAME)))
    (q_BOTH : PySem.W.nsIn K mainGlobals "BOTH" = some (some (.int 3 t_BOTH)))
    (q_EITHER : PySem.W.nsIn K mainGlobals "EITHER" = some (some (.int 4 t_EITHER)))
    (q_NOT : PySem.W.nsIn K mainGlobals "NOT" = some (some (.int 5 t_NOT)))
    (q_SOME : PySem.W.nsIn K mainGlobals "SOME" = some (some (.int 6 t_SOME)))
    (q_ALL : PySem.W.nsIn K mainGlobals "ALL" = some (some (.int 7 t_ALL)))
    (q_BY_AXIOM : PySem.W.nsIn K mainGlobals "BY_AXIOM" = some (some (.int 0 t_BY_AXIOM)))
    (q_BY_ATOM : PySem.W.nsIn K mainGlobals "BY_ATOM" = some (some (.int 1 t_BY_ATOM)))
    (q_RIGHT : PySem.W.nsIn K mainGlobals "RIGHT" = some (some (.int 0 t_RIGHT)))
    (q_NOT_THERE : PySem.W.nsIn K mainGlobals "NOT_THERE" = some (some (.int 1 t_NOT_THERE)))
    (q_NO_REASON : PySem.W.nsIn K mainGlobals "NO_REASON" = some (some (.int 2 t_NO_REASON)))
    (q_STILL_HOLDS : PySem.W.nsIn K mainGlobals "STILL_HOLDS" = some (some (.int 3 t_STILL_HOLDS)))
    (q_NO_THINGS : PySem.W.nsIn K mainGlobals "NO_THINGS" = some (some (.int 1 t_NO_THINGS)))
    (q_STRAY_WAY : PySem.W.nsIn K mainGlobals "STRAY_WAY" = some (some (.int 2 t_STRAY_WAY)))
    (q_BREAKS_AXIOM : PySem.W.nsIn K mainGlobals "BREAKS_AXIOM" = some (some (.int 3 t_BREAKS_AXIOM)))
    (q_NOT_THE_FIRST : PySem.W.nsIn K mainGlobals "NOT_THE_FIRST" = some (some (.int 4 t_NOT_THE_FIRST)))
    (q_ROLES : PySem.W.nsIn K mainGlobals "ROLES" = some (some (.int 2 t_ROLES)))
    (q_NOT_A_PROOF : PySem.W.nsIn K mainGlobals "NOT_A_PROOF" = some (some (.int (-3) t_NOT_A_PROOF)))
    (q_NO_SUCH_PROOF : PySem.W.nsIn K mainGlobals "NO_SUCH_PROOF" = some (some (.int (-6) t_NO_SUCH_PROOF)))
    (q_MOST_AXIOMS : PySem.W.nsIn K mainGlobals "MOST_AXIOMS" = some (some (.int 5 t_MOST_AXIOMS)))
    (q_MOST_ATOMS : PySem.W.nsIn K mainGlobals "MOST_ATOMS" = some (some (.int 5 t_MOST_ATOMS)))
    (q_NOT_CONCEPTS : PySem.W.nsIn K mainGlobals "NOT_CONCEPTS" = some (some (.int (-1) t_NOT_CONCEPTS)))
    (q_NO_SUCH_AXIOM : PySem.W.nsIn K mainGlobals "NO_SUCH_AXIOM" = some (some (.int (-2) t_NO_SUCH_AXIOM)))
    (q_TOO_MANY : PySem.W.nsIn K mainGlobals "TOO_MANY" = some (some (.int (-7) t_TOO_MANY)))
    (q_BEGINS : PySem.W.nsIn K mainGlobals "BEGINS" = some (some (.int 0 t_BEGINS)))
    (q_LINE : PySem.W.nsIn K mainGlobals "LINE" = some (some (.int 1 t_LINE)))
    (q_DROP : PySem.W.nsIn K mainGlobals "DROP" = some (some (.int 2 t_DROP)))
    (q_NONE : PySem.W.nsIn K mainGlobals "NONE" = some (some (.int 3 t_NONE)))
    (q_MODEL : PySem.W.nsIn K mainGlobals "MODEL" = some (some (.int 4 t_MODEL)))
    (q_CHECKNONE : PySem.W.nsIn K mainGlobals "CHECKNONE" = some (some (.int 5 t_CHECKNONE)))
    (q_CHECKMODEL : PySem.W.nsIn K mainGlobals "CHECKMODEL" = some (some (.int 6 t_CHECKMODEL)))
    (q_CAN : PySem.W.nsIn K mainGlobals "CAN" = some (some (.int 7 t_CAN)))
    (q_PARTS : PySem.W.nsIn K mainGlobals "PARTS" = some (some (.ref a_PARTS)))
    (l_PARTS : K.lookup a_PARTS = some ⟨.type "tuple", odT_PARTS, .seq #[.int 0 tT_PARTS_0, .int 0 tT_PARTS_1, .int 0 tT_PARTS_2, .int 2 tT_PARTS_3, .int 2 tT_PARTS_4, .int 1 tT_PARTS_5, .int 1 tT_PARTS_6, .int 1 tT_PARTS_7] nT_PARTS, slT_PARTS⟩)
    (q_CHOICES : PySem.W.nsIn K mainGlobals "CHOICES" = some (some (.ref a_CHOICES)))
    (l_CHOICES : K.lookup a_CHOICES = some ⟨.type "tuple", odT_CHOICES, .seq #[.int 0 tT_CHOICES_0, .int 0 tT_CHOICES_1, .int 4 tT_CHOICES_2, .int 0 tT_CHOICES_3, .int 0 tT_CHOICES_4, .int 0 tT_CHOICES_5, .int 2 tT_CHOICES_6, .int 2 tT_CHOICES_7] nT_CHOICES, slT_CHOICES⟩)
    (g_Kinds : PySem.W.nsIn K mainGlobals "Kinds" = some (some (.ref C_Kinds)))
    (g_Question : PySem.W.nsIn K mainGlobals "Question" = some (some (.ref C_Question)))
    (g_House : PySem.W.nsIn K mainGlobals "House" = some (some (.ref C_House)))
    (g_Reader : PySem.W.nsIn K mainGlobals "Reader" = some (some (.ref C_Reader)))
    (a0 : PySem.W.nsIn K mainGlobals "is_atom" = some (some (.ref f0)))
    (l0 : K.lookup f0 = some ⟨oc0, od0, .func (PySem.W.fnOf "is_atom" "is_atom" (defArgs s_is_atom) (defBody s_is_atom) (defScope s_is_atom) .none kV0 dc0 pm0 an0 cd0 ct0), sl0⟩)
    (c0 : PySem.W.codeIn K cd0 "is_atom" = true)
    (k0 : PySem.W.keepIn K (.ref f0) = true)
    (a1 : PySem.W.nsIn K mainGlobals "head_width" = some (some (.ref f1)))
    (l1 : K.lookup f1 = some ⟨oc1, od1, .func (PySem.W.fnOf "head_width" "head_width" (defArgs s_head_width) (defBody s_head_width) (defScope s_head_width) .none kV1 dc1 pm1 an1 cd1 ct1), sl1⟩)
    (c1 : PySem.W.codeIn K cd1 "head_width" = true)
    (k1 : PySem.W.keepIn K (.ref f1) = true)
    (a2 : PySem.W.nsIn K mainGlobals "concept_end" = some (some (.ref f2)))
    (l2 : K.lookup f2 = some ⟨oc2, od2, .func (PySem.W.fnOf "concept_end" "concept_end" (defArgs s_concept_end) (defBody s_concept_end) (defScope s_concept_end) .none kV2 dc2 pm2 an2 cd2 ct2), sl2⟩)
    (c2 : PySem.W.codeIn K cd2 "concept_end" = true)
    (k2 : PySem.W.keepIn K (.ref f2) = true)
    (a3 : PySem.W.nsIn K mainGlobals "read_concepts" = some (some (.ref f3)))
    (l3 : K.lookup f3 = some ⟨oc3, od3, .func (PySem.W.fnOf "read_concepts" "read_concepts" (defArgs s_read_concepts) (defBody s_read_concepts) (defScope s_read_concepts) .none kV3 dc3 pm3 an3 cd3 ct3), sl3⟩)
    (c3 : PySem.W.codeIn K cd3 "read_concepts" = true)
    (k3 : PySem.W.keepIn K (.ref f3) = true)
    (a4 : PySem.W.nsIn K mainGlobals "head_places" = some (some (.ref f4)))
    (l4 : K.lookup f4 = some ⟨oc4, od4, .func (PySem.W.fnOf "head_places" "head_places" (defArgs s_head_places) (defBody s_head_places) (defScope s_head_places) .none kV4 dc4 pm4 an4 cd4 ct4), sl4⟩)
    (c4 : PySem.W.codeIn K cd4 "head_places" = true)
    (k4 : PySem.W.keepIn K (.ref f4) = true)
    (a5 : PySem.W.nsIn K mainGlobals "part_at" = some (some (.ref f5)))
    (l5 : K.lookup f5 = some ⟨oc5, od5, .func (PySem.W.fnOf "part_at" "part_at" (defArgs s_part_at) (defBody s_part_at) (defScope s_part_at) .none kV5 dc5 pm5 an5 cd5 ct5), sl5⟩)
    (c5 : PySem.W.codeIn K cd5 "part_at" = true)
    (k5 : PySem.W.keepIn K (.ref f5) = true)
    (a6 : PySem.W.nsIn K mainGlobals "inside" = some (some (.ref f6)))
    (l6 : K.lookup f6 = some ⟨oc6, od6, .func (PySem.W.fnOf "inside" "inside" (defArgs s_inside) (defBody s_inside) (defScope s_inside) .none kV6 dc6 pm6 an6 cd6 ct6), sl6⟩)
    (c6 : PySem.W.codeIn K cd6 "inside" = true)
    (k6 : PySem.W.keepIn K (.ref f6) = true)
    (a7 : PySem.W.nsIn K mainGlobals "atoms_of" = some (some (.ref f7)))
    (l7 : K.lookup f7 = some ⟨oc7, od7, .func (PySem.W.fnOf "atoms_of" "atoms_of" (defArgs s_atoms_of) (defBody s_atoms_of) (defScope s_atoms_of) .none kV7 dc7 pm7 an7 cd7 ct7), sl7⟩)
    (c7 : PySem.W.codeIn K cd7 "atoms_of" = true)
    (k7 : PySem.W.keepIn K (.ref f7) = true)
    (a8 : PySem.W.nsIn K mainGlobals "has_bit" = some (some (.ref f8)))
    (l8 : K.lookup f8 = some ⟨oc8, od8, .func (PySem.W.fnOf "has_bit" "has_bit" (defArgs s_has_bit) (defBody s_has_bit) (defScope s_has_bit) .none kV8 dc8 pm8 an8 cd8 ct8), sl8⟩)
    (c8 : PySem.W.codeIn K cd8 "has_bit" = true)
    (k8 : PySem.W.keepIn K (.ref f8) = true)
    (a9 : PySem.W.nsIn K mainGlobals "joined" = some (some (.ref f9)))
    (l9 : K.lookup f9 = some ⟨oc9, od9, .func (PySem.W.fnOf "joined" "joined" (defArgs s_joined) (defBody s_joined) (defScope s_joined) .none kV9 dc9 pm9 an9 cd9 ct9), sl9⟩)
    (c9 : PySem.W.codeIn K cd9 "joined" = true)
    (k9 : PySem.W.keepIn K (.ref f9) = true)
    (a10 : PySem.W.nsIn K mainGlobals "column_by" = some (some (.ref f10)))
    (l10 : K.lookup f10 = some ⟨oc10, od10, .func (PySem.W.fnOf "column_by" "column_by" (defArgs s_column_by) (defBody s_column_by) (defScope s_column_by) .none kV10 dc10 pm10 an10 cd10 ct10), sl10⟩)
    (c10 : PySem.W.codeIn K cd10 "column_by" = true)
    (k10 : PySem.W.keepIn K (.ref f10) = true)
    (a11 : PySem.W.nsIn K mainGlobals "is_broken" = some (some (.ref f11)))
    (l11 : K.lookup f11 = some ⟨oc11, od11, .func (PySem.W.fnOf "is_broken" "is_broken" (defArgs s_is_broken) (defBody s_is_broken) (defScope s_is_broken) .none kV11 dc11 pm11 an11 cd11 ct11), sl11⟩)
    (c11 : PySem.W.codeIn K cd11 "is_broken" = true)
    (k11 : PySem.W.keepIn K (.ref f11) = true)
    (a12 : PySem.W.nsIn K mainGlobals "lowest_broken" = some (some (.ref f12)))
    (l12 : K.lookup f12 = some ⟨oc12, od12, .func (PySem.W.fnOf "lowest_broken" "lowest_broken" (defArgs s_lowest_broken) (defBody s_lowest_broken) (defScope s_lowest_broken) .none kV12 dc12 pm12 an12 cd12 ct12), sl12⟩)
    (c12 : PySem.W.codeIn K cd12 "lowest_broken" = true)
    (k12 : PySem.W.keepIn K (.ref f12) = true)
    (a13 : PySem.W.nsIn K mainGlobals "column" = some (some (.ref f13)))
    (l13 : K.lookup f13 = some ⟨oc13, od13, .func (PySem.W.fnOf "column" "column" (defArgs s_column) (defBody s_column) (defScope s_column) .none kV13 dc13 pm13 an13 (.ref 111) ct13), sl13⟩)
    (c13 : PySem.W.codeIn K (.ref 111) "column" = true)
    (k13 : PySem.W.keepIn K (.ref f13) = true)
    (a14 : PySem.W.nsIn K mainGlobals "inside_column" = some (some (.ref f14)))
    (l14 : K.lookup f14 = some ⟨oc14, od14, .func (PySem.W.fnOf "inside_column" "inside_column" (defArgs s_inside_column) (defBody s_inside_column) (defScope s_inside_column) .none kV14 dc14 pm14 an14 cd14 ct14), sl14⟩)
    (c14 : PySem.W.codeIn K cd14 "inside_column" = true)
    (k14 : PySem.W.keepIn K (.ref f14) = true)
    (a15 : PySem.W.nsIn K mainGlobals "axiom_columns" = some (some (.ref f15)))
    (l15 : K.lookup f15 = some ⟨oc15, od15, .func (PySem.W.fnOf "axiom_columns" "axiom_columns" (defArgs s_axiom_columns) (defBody s_axiom_columns) (defScope s_axiom_columns) .none kV15 dc15 pm15 an15 cd15 ct15), sl15⟩)
    (c15 : PySem.W.codeIn K cd15 "axiom_columns" = true)
    (k15 : PySem.W.keepIn K (.ref f15) = true)
    (a16 : PySem.W.nsIn K mainGlobals "lowest_holding" = some (some (.ref f16)))
    (l16 : K.lookup f16 = some ⟨oc16, od16, .func (PySem.W.fnOf "lowest_holding" "lowest_holding" (defArgs s_lowest_holding) (defBody s_lowest_holding) (defScope s_lowest_holding) .none kV16 dc16 pm16 an16 cd16 ct16), sl16⟩)
    (c16 : PySem.W.codeIn K cd16 "lowest_holding" = true)
    (k16 : PySem.W.keepIn K (.ref f16) = true)
    (a17 : PySem.W.findIn K (.ref C_Kinds) "__init__" = some (some (.ref f17)))
    (i17 : PySem.W.isFn K (.ref f17) = true)
    (l17 : K.lookup f17 = some ⟨oc17, od17, .func (PySem.W.fnOf "__init__" "Kinds.__init__" (defArgs s_Kinds_init) (defBody s_Kinds_init) (defScope s_Kinds_init) .none kV17 dc17 pm17 an17 cd17 ct17), sl17⟩)
    (c17 : PySem.W.codeIn K cd17 "Kinds.__init__" = true)
    (k17 : PySem.W.keepIn K (.ref f17) = true)
    (a18 : PySem.W.findIn K (.ref C_Kinds) "fits" = some (some (.ref f18)))
    (i18 : PySem.W.isFn K (.ref f18) = true)
    (l18 : K.lookup f18 = some ⟨oc18, od18, .func (PySem.W.fnOf "fits" "Kinds.fits" (defArgs s_fits) (defBody s_fits) (defScope s_fits) .none kV18 dc18 pm18 an18 cd18 ct18), sl18⟩)
    (c18 : PySem.W.codeIn K cd18 "Kinds.fits" = true)
    (k18 : PySem.W.keepIn K (.ref f18) = true)
    (a19 : PySem.W.findIn K (.ref C_Kinds) "is_due" = some (some (.ref f19)))
    (i19 : PySem.W.isFn K (.ref f19) = true)
    (l19 : K.lookup f19 = some ⟨oc19, od19, .func (PySem.W.fnOf "is_due" "Kinds.is_due" (defArgs s_is_due) (defBody s_is_due) (defScope s_is_due) .none kV19 dc19 pm19 an19 cd19 ct19), sl19⟩)
    (c19 : PySem.W.codeIn K cd19 "Kinds.is_due" = true)
    (k19 : PySem.W.keepIn K (.ref f19) = true)
    (a20 : PySem.W.findIn K (.ref C_Kinds) "bears_out" = some (some (.ref f20)))
    (i20 : PySem.W.isFn K (.ref f20) = true)
    (l20 : K.lookup f20 = some ⟨oc20, od20, .func (PySem.W.fnOf "bears_out" "Kinds.bears_out" (defArgs s_bears_out) (defBody s_bears_out) (defScope s_bears_out) .none kV20 dc20 pm20 an20 cd20 ct20), sl20⟩)
    (c20 : PySem.W.codeIn K cd20 "Kinds.bears_out" = true)
    (k20 : PySem.W.keepIn K (.ref f20) = true)
    (a21 : PySem.W.findIn K (.ref C_Kinds) "lowest_bearing" = some (some (.ref f21)))
    (i21 : PySem.W.isFn K (.ref f21) = true)
    (l21 : K.lookup f21 = some ⟨oc21, od21, .func (PySem.W.fnOf "lowest_bearing" "Kinds.lowest_bearing" (defArgs s_lowest_bearing) (defBody s_lowest_bearing) (defScope s_lowest_bearing) .none kV21 dc21 pm21 an21 cd21 ct21), sl21⟩)
    (c21 : PySem.W.codeIn K cd21 "Kinds.lowest_bearing" = true)
    (k21 : PySem.W.keepIn K (.ref f21) = true)
    (a22 : PySem.W.findIn K (.ref C_Kinds) "is_unborne" = some (some (.ref f22)))
    (i22 : PySem.W.isFn K (.ref f22) = true)
    (l22 : K.lookup f22 = some ⟨oc22, od22, .func (PySem.W.fnOf "is_unborne" "Kinds.is_unborne" (defArgs s_is_unborne) (defBody s_is_unborne) (defScope s_is_unborne) .none kV22 dc22 pm22 an22 cd22 ct22), sl22⟩)
    (c22 : PySem.W.codeIn K cd22 "Kinds.is_unborne" = true)
    (k22 : PySem.W.keepIn K (.ref f22) = true)
    (a23 : PySem.W.findIn K (.ref C_Kinds) "lowest_unborne" = some (some (.ref f23)))
    (i23 : PySem.W.isFn K (.ref f23) = true)
    (l23 : K.lookup f23 = some ⟨oc23, od23, .func (PySem.W.fnOf "lowest_unborne" "Kinds.lowest_unborne" (defArgs s_lowest_unborne) (defBody s_lowest_unborne) (defScope s_lowest_unborne) .none kV23 dc23 pm23 an23 cd23 ct23), sl23⟩)
    (c23 : PySem.W.codeIn K cd23 "Kinds.lowest_unborne" = true)
    (k23 : PySem.W.keepIn K (.ref f23) = true)
    (a24 : PySem.W.nsIn K mainGlobals "has_atom" = some (some (.ref f24)))
    (l24 : K.lookup f24 = some ⟨oc24, od24, .func (PySem.W.fnOf "has_atom" "has_atom" (defArgs s_has_atom) (defBody s_has_atom) (defScope s_has_atom) .none kV24 dc24 pm24 an24 cd24 ct24), sl24⟩)
    (c24 : PySem.W.codeIn K cd24 "has_atom" = true)
    (k24 : PySem.W.keepIn K (.ref f24) = true)
    (a25 : PySem.W.nsIn K mainGlobals "thing_column" = some (some (.ref f25)))
    (l25 : K.lookup f25 = some ⟨oc25, od25, .func (PySem.W.fnOf "thing_column" "thing_column" (defArgs s_thing_column) (defBody s_thing_column) (defScope s_thing_column) .none kV25 dc25 pm25 an25 (.ref 203) ct25), sl25⟩)
    (c25 : PySem.W.codeIn K (.ref 203) "thing_column" = true)
    (k25 : PySem.W.keepIn K (.ref f25) = true)
    (a26 : PySem.W.nsIn K mainGlobals "read_steps" = some (some (.ref f26)))
    (l26 : K.lookup f26 = some ⟨oc26, od26, .func (PySem.W.fnOf "read_steps" "read_steps" (defArgs s_read_steps) (defBody s_read_steps) (defScope s_read_steps) .none kV26 dc26 pm26 an26 cd26 ct26), sl26⟩)
    (c26 : PySem.W.codeIn K cd26 "read_steps" = true)
    (k26 : PySem.W.keepIn K (.ref f26) = true)
    (a27 : PySem.W.nsIn K mainGlobals "is_reason" = some (some (.ref f27)))
    (l27 : K.lookup f27 = some ⟨oc27, od27, .func (PySem.W.fnOf "is_reason" "is_reason" (defArgs s_is_reason) (defBody s_is_reason) (defScope s_is_reason) .none kV27 dc27 pm27 an27 cd27 ct27), sl27⟩)
    (c27 : PySem.W.codeIn K cd27 "is_reason" = true)
    (k27 : PySem.W.keepIn K (.ref f27) = true)
    (a28 : PySem.W.nsIn K mainGlobals "check_none" = some (some (.ref f28)))
    (l28 : K.lookup f28 = some ⟨oc28, od28, .func (PySem.W.fnOf "check_none" "check_none" (defArgs s_check_none) (defBody s_check_none) (defScope s_check_none) .none kV28 dc28 pm28 an28 cd28 ct28), sl28⟩)
    (c28 : PySem.W.codeIn K cd28 "check_none" = true)
    (k28 : PySem.W.keepIn K (.ref f28) = true)
    (a29 : PySem.W.nsIn K mainGlobals "read_thing" = some (some (.ref f29)))
    (l29 : K.lookup f29 = some ⟨oc29, od29, .func (PySem.W.fnOf "read_thing" "read_thing" (defArgs s_read_thing) (defBody s_read_thing) (defScope s_read_thing) .none kV29 dc29 pm29 an29 cd29 ct29), sl29⟩)
    (c29 : PySem.W.codeIn K cd29 "read_thing" = true)
    (k29 : PySem.W.keepIn K (.ref f29) = true)
    (a30 : PySem.W.nsIn K mainGlobals "read_things" = some (some (.ref f30)))
    (l30 : K.lookup f30 = some ⟨oc30, od30, .func (PySem.W.fnOf "read_things" "read_things" (defArgs s_read_things) (defBody s_read_things) (defScope s_read_things) .none kV30 dc30 pm30 an30 cd30 ct30), sl30⟩)
    (c30 : PySem.W.codeIn K cd30 "read_things" = true)
    (k30 : PySem.W.keepIn K (.ref f30) = true)
    (a31 : PySem.W.nsIn K mainGlobals "lowest_stray" = some (some (.ref f31)))
    (l31 : K.lookup f31 = some ⟨oc31, od31, .func (PySem.W.fnOf "lowest_stray" "lowest_stray" (defArgs s_lowest_stray) (defBody s_lowest_stray) (defScope s_lowest_stray) .none kV31 dc31 pm31 an31 cd31 ct31), sl31⟩)
    (c31 : PySem.W.codeIn K cd31 "lowest_stray" = true)
    (k31 : PySem.W.keepIn K (.ref f31) = true)
    (a32 : PySem.W.nsIn K mainGlobals "check_model" = some (some (.ref f32)))
    (l32 : K.lookup f32 = some ⟨oc32, od32, .func (PySem.W.fnOf "check_model" "check_model" (defArgs s_check_model) (defBody s_check_model) (defScope s_check_model) .none kV32 dc32 pm32 an32 cd32 ct32), sl32⟩)
    (c32 : PySem.W.codeIn K cd32 "check_model" = true)
    (k32 : PySem.W.keepIn K (.ref f32) = true)
    (a33 : PySem.W.nsIn K mainGlobals "names_of" = some (some (.ref f33)))
    (l33 : K.lookup f33 = some ⟨oc33, od33, .func (PySem.W.fnOf "names_of" "names_of" (defArgs s_names_of) (defBody s_names_of) (defScope s_names_of) .none kV33 dc33 pm33 an33 cd33 ct33), sl33⟩)
    (c33 : PySem.W.codeIn K cd33 "names_of" = true)
    (k33 : PySem.W.keepIn K (.ref f33) = true)
    (a34 : PySem.W.nsIn K mainGlobals "kind_ways" = some (some (.ref f34)))
    (l34 : K.lookup f34 = some ⟨oc34, od34, .func (PySem.W.fnOf "kind_ways" "kind_ways" (defArgs s_kind_ways) (defBody s_kind_ways) (defScope s_kind_ways) .none kV34 dc34 pm34 an34 cd34 ct34), sl34⟩)
    (c34 : PySem.W.codeIn K cd34 "kind_ways" = true)
    (k34 : PySem.W.keepIn K (.ref f34) = true)
    (a35 : PySem.W.nsIn K mainGlobals "told_model" = some (some (.ref f35)))
    (l35 : K.lookup f35 = some ⟨oc35, od35, .func (PySem.W.fnOf "told_model" "told_model" (defArgs s_told_model) (defBody s_told_model) (defScope s_told_model) .none kV35 dc35 pm35 an35 cd35 ct35), sl35⟩)
    (c35 : PySem.W.codeIn K cd35 "told_model" = true)
    (k35 : PySem.W.keepIn K (.ref f35) = true)
    (a36 : PySem.W.nsIn K mainGlobals "axiom_steps" = some (some (.ref f36)))
    (l36 : K.lookup f36 = some ⟨oc36, od36, .func (PySem.W.fnOf "axiom_steps" "axiom_steps" (defArgs s_axiom_steps) (defBody s_axiom_steps) (defScope s_axiom_steps) .none kV36 dc36 pm36 an36 cd36 ct36), sl36⟩)
    (c36 : PySem.W.codeIn K cd36 "axiom_steps" = true)
    (k36 : PySem.W.keepIn K (.ref f36) = true)
    (a37 : PySem.W.nsIn K mainGlobals "round_steps" = some (some (.ref f37)))
    (l37 : K.lookup f37 = some ⟨oc37, od37, .func (PySem.W.fnOf "round_steps" "round_steps" (defArgs s_round_steps) (defBody s_round_steps) (defScope s_round_steps) .none kV37 dc37 pm37 an37 cd37 ct37), sl37⟩)
    (c37 : PySem.W.codeIn K cd37 "round_steps" = true)
    (k37 : PySem.W.keepIn K (.ref f37) = true)
    (a38 : PySem.W.nsIn K mainGlobals "without" = some (some (.ref f38)))
    (l38 : K.lookup f38 = some ⟨oc38, od38, .func (PySem.W.fnOf "without" "without" (defArgs s_without) (defBody s_without) (defScope s_without) .none kV38 dc38 pm38 an38 cd38 ct38), sl38⟩)
    (c38 : PySem.W.codeIn K cd38 "without" = true)
    (k38 : PySem.W.keepIn K (.ref f38) = true)
    (a39 : PySem.W.nsIn K mainGlobals "house_steps" = some (some (.ref f39)))
    (l39 : K.lookup f39 = some ⟨oc39, od39, .func (PySem.W.fnOf "house_steps" "house_steps" (defArgs s_house_steps) (defBody s_house_steps) (defScope s_house_steps) .none kV39 dc39 pm39 an39 cd39 ct39), sl39⟩)
    (c39 : PySem.W.codeIn K cd39 "house_steps" = true)
    (k39 : PySem.W.keepIn K (.ref f39) = true)
    (a40 : PySem.W.nsIn K mainGlobals "left_after" = some (some (.ref f40)))
    (l40 : K.lookup f40 = some ⟨oc40, od40, .func (PySem.W.fnOf "left_after" "left_after" (defArgs s_left_after) (defBody s_left_after) (defScope s_left_after) .none kV40 dc40 pm40 an40 cd40 ct40), sl40⟩)
    (c40 : PySem.W.codeIn K cd40 "left_after" = true)
    (k40 : PySem.W.keepIn K (.ref f40) = true)
    (a41 : PySem.W.findIn K (.ref C_Question) "__init__" = some (some (.ref f41)))
    (i41 : PySem.W.isFn K (.ref f41) = true)
    (l41 : K.lookup f41 = some ⟨oc41, od41, .func (PySem.W.fnOf "__init__" "Question.__init__" (defArgs s_Question_init) (defBody s_Question_init) (defScope s_Question_init) .none kV41 dc41 pm41 an41 cd41 ct41), sl41⟩)
    (c41 : PySem.W.codeIn K cd41 "Question.__init__" = true)
    (k41 : PySem.W.keepIn K (.ref f41) = true)
    (a42 : PySem.W.findIn K (.ref C_Question) "none" = some (some (.ref f42)))
    (i42 : PySem.W.isFn K (.ref f42) = true)
    (l42 : K.lookup f42 = some ⟨oc42, od42, .func (PySem.W.fnOf "none" "Question.none" (defArgs s_none) (defBody s_none) (defScope s_none) .none kV42 dc42 pm42 an42 cd42 ct42), sl42⟩)
    (c42 : PySem.W.codeIn K cd42 "Question.none" = true)
    (k42 : PySem.W.keepIn K (.ref f42) = true)
    (a43 : PySem.W.findIn K (.ref C_Question) "model" = some (some (.ref f43)))
    (i43 : PySem.W.isFn K (.ref f43) = true)
    (l43 : K.lookup f43 = some ⟨oc43, od43, .func (PySem.W.fnOf "model" "Question.model" (defArgs s_model) (defBody s_model) (defScope s_model) .none kV43 dc43 pm43 an43 cd43 ct43), sl43⟩)
    (c43 : PySem.W.codeIn K cd43 "Question.model" = true)
    (k43 : PySem.W.keepIn K (.ref f43) = true)
    (a44 : PySem.W.findIn K (.ref C_Question) "checknone" = some (some (.ref f44)))
    (i44 : PySem.W.isFn K (.ref f44) = true)
    (l44 : K.lookup f44 = some ⟨oc44, od44, .func (PySem.W.fnOf "checknone" "Question.checknone" (defArgs s_checknone) (defBody s_checknone) (defScope s_checknone) .none kV44 dc44 pm44 an44 cd44 ct44), sl44⟩)
    (c44 : PySem.W.codeIn K cd44 "Question.checknone" = true)
    (k44 : PySem.W.keepIn K (.ref f44) = true)
    (a45 : PySem.W.findIn K (.ref C_Question) "checkmodel" = some (some (.ref f45)))
    (i45 : PySem.W.isFn K (.ref f45) = true)
    (l45 : K.lookup f45 = some ⟨oc45, od45, .func (PySem.W.fnOf "checkmodel" "Question.checkmodel" (defArgs s_checkmodel) (defBody s_checkmodel) (defScope s_checkmodel) .none kV45 dc45 pm45 an45 cd45 ct45), sl45⟩)
    (c45 : PySem.W.codeIn K cd45 "Question.checkmodel" = true)
    (k45 : PySem.W.keepIn K (.ref f45) = true)
    (a46 : PySem.W.findIn K (.ref C_Question) "can" = some (some (.ref f46)))
    (i46 : PySem.W.isFn K (.ref f46) = true)
    (l46 : K.lookup f46 = some ⟨oc46, od46, .func (PySem.W.fnOf "can" "Question.can" (defArgs s_can) (defBody s_can) (defScope s_can) .none kV46 dc46 pm46 an46 cd46 ct46), sl46⟩)
    (c46 : PySem.W.codeIn K cd46 "Question.can" = true)
    (k46 : PySem.W.keepIn K (.ref f46) = true)
    (a47 : PySem.W.findIn K (.ref C_House) "__init__" = some (some (.ref f47)))
    (i47 : PySem.W.isFn K (.ref f47) = true)
    (l47 : K.lookup f47 = some ⟨oc47, od47, .func (PySem.W.fnOf "__init__" "House.__init__" (defArgs s_House_init) (defBody s_House_init) (defScope s_House_init) .none kV47 dc47 pm47 an47 cd47 ct47), sl47⟩)
    (c47 : PySem.W.codeIn K cd47 "House.__init__" = true)
    (k47 : PySem.W.keepIn K (.ref f47) = true)
    (a48 : PySem.W.findIn K (.ref C_House) "atoms_with" = some (some (.ref f48)))
    (i48 : PySem.W.isFn K (.ref f48) = true)
    (l48 : K.lookup f48 = some ⟨oc48, od48, .func (PySem.W.fnOf "atoms_with" "House.atoms_with" (defArgs s_atoms_with) (defBody s_atoms_with) (defScope s_atoms_with) .none kV48 dc48 pm48 an48 cd48 ct48), sl48⟩)
    (c48 : PySem.W.codeIn K cd48 "House.atoms_with" = true)
    (k48 : PySem.W.keepIn K (.ref f48) = true)
    (a49 : PySem.W.findIn K (.ref C_House) "begins" = some (some (.ref f49)))
    (i49 : PySem.W.isFn K (.ref f49) = true)
    (l49 : K.lookup f49 = some ⟨oc49, od49, .func (PySem.W.fnOf "begins" "House.begins" (defArgs s_begins) (defBody s_begins) (defScope s_begins) .none kV49 dc49 pm49 an49 cd49 ct49), sl49⟩)
    (c49 : PySem.W.codeIn K cd49 "House.begins" = true)
    (k49 : PySem.W.keepIn K (.ref f49) = true)
    (a50 : PySem.W.findIn K (.ref C_House) "line" = some (some (.ref f50)))
    (i50 : PySem.W.isFn K (.ref f50) = true)
    (l50 : K.lookup f50 = some ⟨oc50, od50, .func (PySem.W.fnOf "line" "House.line" (defArgs s_line) (defBody s_line) (defScope s_line) .none kV50 dc50 pm50 an50 cd50 ct50), sl50⟩)
    (c50 : PySem.W.codeIn K cd50 "House.line" = true)
    (k50 : PySem.W.keepIn K (.ref f50) = true)
    (a51 : PySem.W.findIn K (.ref C_House) "drop" = some (some (.ref f51)))
    (i51 : PySem.W.isFn K (.ref f51) = true)
    (l51 : K.lookup f51 = some ⟨oc51, od51, .func (PySem.W.fnOf "drop" "House.drop" (defArgs s_drop) (defBody s_drop) (defScope s_drop) .none kV51 dc51 pm51 an51 cd51 ct51), sl51⟩)
    (c51 : PySem.W.codeIn K cd51 "House.drop" = true)
    (k51 : PySem.W.keepIn K (.ref f51) = true)
    (a52 : PySem.W.findIn K (.ref C_House) "ask" = some (some (.ref f52)))
    (i52 : PySem.W.isFn K (.ref f52) = true)
    (l52 : K.lookup f52 = some ⟨oc52, od52, .func (PySem.W.fnOf "ask" "House.ask" (defArgs s_ask) (defBody s_ask) (defScope s_ask) .none kV52 dc52 pm52 an52 cd52 ct52), sl52⟩)
    (c52 : PySem.W.codeIn K cd52 "House.ask" = true)
    (k52 : PySem.W.keepIn K (.ref f52) = true)
    (a53 : PySem.W.findIn K (.ref C_Reader) "__init__" = some (some (.ref f53)))
    (i53 : PySem.W.isFn K (.ref f53) = true)
    (l53 : K.lookup f53 = some ⟨oc53, od53, .func (PySem.W.fnOf "__init__" "Reader.__init__" (defArgs s_Reader_init) (defBody s_Reader_init) (defScope s_Reader_init) .none kV53 dc53 pm53 an53 cd53 ct53), sl53⟩)
    (c53 : PySem.W.codeIn K cd53 "Reader.__init__" = true)
    (k53 : PySem.W.keepIn K (.ref f53) = true)
    (a54 : PySem.W.findIn K (.ref C_Reader) "at_end" = some (some (.ref f54)))
    (i54 : PySem.W.isFn K (.ref f54) = true)
    (l54 : K.lookup f54 = some ⟨oc54, od54, .func (PySem.W.fnOf "at_end" "Reader.at_end" (defArgs s_at_end) (defBody s_at_end) (defScope s_at_end) .none kV54 dc54 pm54 an54 cd54 ct54), sl54⟩)
    (c54 : PySem.W.codeIn K cd54 "Reader.at_end" = true)
    (k54 : PySem.W.keepIn K (.ref f54) = true)
    (a55 : PySem.W.findIn K (.ref C_Reader) "take" = some (some (.ref f55)))
    (i55 : PySem.W.isFn K (.ref f55) = true)
    (l55 : K.lookup f55 = some ⟨oc55, od55, .func (PySem.W.fnOf "take" "Reader.take" (defArgs s_take) (defBody s_take) (defScope s_take) .none kV55 dc55 pm55 an55 cd55 ct55), sl55⟩)
    (c55 : PySem.W.codeIn K cd55 "Reader.take" = true)
    (k55 : PySem.W.keepIn K (.ref f55) = true)
    (a56 : PySem.W.findIn K (.ref C_Reader) "take_row" = some (some (.ref f56)))
    (i56 : PySem.W.isFn K (.ref f56) = true)
    (l56 : K.lookup f56 = some ⟨oc56, od56, .func (PySem.W.fnOf "take_row" "Reader.take_row" (defArgs s_take_row) (defBody s_take_row) (defScope s_take_row) .none kV56 dc56 pm56 an56 cd56 ct56), sl56⟩)
    (c56 : PySem.W.codeIn K cd56 "Reader.take_row" = true)
    (k56 : PySem.W.keepIn K (.ref f56) = true)
    (a57 : PySem.W.findIn K (.ref C_Reader) "take_rows" = some (some (.ref f57)))
    (i57 : PySem.W.isFn K (.ref f57) = true)
    (l57 : K.lookup f57 = some ⟨oc57, od57, .func (PySem.W.fnOf "take_rows" "Reader.take_rows" (defArgs s_take_rows) (defBody s_take_rows) (defScope s_take_rows) .none kV57 dc57 pm57 an57 cd57 ct57), sl57⟩)
    (c57 : PySem.W.codeIn K cd57 "Reader.take_rows" = true)
    (k57 : PySem.W.keepIn K (.ref f57) = true)
    (a58 : PySem.W.nsIn K mainGlobals "answer_question" = some (some (.ref f58)))
    (l58 : K.lookup f58 = some ⟨oc58, od58, .func (PySem.W.fnOf "answer_question" "answer_question" (defArgs s_answer_question) (defBody s_answer_question) (defScope s_answer_question) .none kV58 dc58 pm58 an58 cd58 ct58), sl58⟩)
    (c58 : PySem.W.codeIn K cd58 "answer_question" = true)
    (k58 : PySem.W.keepIn K (.ref f58) = true)
    (a59 : PySem.W.nsIn K mainGlobals "answer_call" = some (some (.ref f59)))
    (l59 : K.lookup f59 = some ⟨oc59, od59, .func (PySem.W.fnOf "answer_call" "answer_call" (defArgs s_answer_call) (defBody s_answer_call) (defScope s_answer_call) .none kV59 dc59 pm59 an59 cd59 ct59), sl59⟩)
    (c59 : PySem.W.codeIn K cd59 "answer_call" = true)
    (k59 : PySem.W.keepIn K (.ref f59) = true)
    (a60 : PySem.W.nsIn K mainGlobals "answers" = some (some (.ref f60)))
    (l60 : K.lookup f60 = some ⟨oc60, od60, .func (PySem.W.fnOf "answers" "answers" (defArgs s_answers) (defBody s_answers) (defScope s_answers) .none kV60 dc60 pm60 an60 cd60 ct60), sl60⟩)
    (c60 : PySem.W.codeIn K cd60 "answers" = true)
    (k60 : PySem.W.keepIn K (.ref f60) = true)
    (pg_Kinds : PySem.W.plainGet K C_Kinds Str.empty = true)
    (hd_Kinds : PySem.W.hasDictIn K C_Kinds = true)
    (po_Kinds : PySem.W.plainOver K C_Kinds = true)
    (sa_Kinds : PySem.W.findIn K (.ref C_Kinds) "__setattr__" = some (some (.builtin "object.__setattr__")))
    (mk_Kinds : PySem.W.makesIn K C_Kinds = true)
    (kc_Kinds : PySem.W.keepIn K (.ref C_Kinds) = true)
    (n_Kinds_atoms : PySem.W.findIn K (.ref C_Kinds) "atoms" = some none)
    (n_Kinds_total : PySem.W.findIn K (.ref C_Kinds) "total" = some none)
    (n_Kinds_insides : PySem.W.findIn K (.ref C_Kinds) "insides" = some none)
    (pg_Question : PySem.W.plainGet K C_Question Str.empty = true)
    (hd_Question : PySem.W.hasDictIn K C_Question = true)
    (po_Question : PySem.W.plainOver K C_Question = true)
    (sa_Question : PySem.W.findIn K (.ref C_Question) "__setattr__" = some (some (.builtin "object.__setattr__")))
    (mk_Question : PySem.W.makesIn K C_Question = true)
    (kc_Question : PySem.W.keepIn K (.ref C_Question) = true)
    (n_Question_axioms : PySem.W.findIn K (.ref C_Question) "axioms" = some none)
    (n_Question_concept : PySem.W.findIn K (.ref C_Question) "concept" = some none)
    (n_Question_atoms : PySem.W.findIn K (.ref C_Question) "atoms" = some none)
    (pg_House : PySem.W.plainGet K C_House Str.empty = true)
    (hd_House : PySem.W.hasDictIn K C_House = true)
    (po_House : PySem.W.plainOver K C_House = true)
    (sa_House : PySem.W.findIn K (.ref C_House) "__setattr__" = some (some (.builtin "object.__setattr__")))
    (mk_House : PySem.W.makesIn K C_House = true)
    (kc_House : PySem.W.keepIn K (.ref C_House) = true)
    (n_House_axioms : PySem.W.findIn K (.ref C_House) "axioms" = some none)
    (pg_Reader : PySem.W.plainGet K C_Reader Str.empty = true)
    (hd_Reader : PySem.W.hasDictIn K C_Reader = true)
    (po_Reader : PySem.W.plainOver K C_Reader = true)
    (sa_Reader : PySem.W.findIn K (.ref C_Reader) "__setattr__" = some (some (.builtin "object.__setattr__")))
    (mk_Reader : PySem.W.makesIn K C_Reader = true)
    (kc_Reader : PySem.W.keepIn K (.ref C_Reader) = true)
    (n_Reader_numbers : PySem.W.findIn K (.ref C_Reader) "numbers" = some none)
    (n_Reader_place : PySem.W.findIn K (.ref C_Reader) "place" = some none)
    : ∃ fd : FuncData, (∀ (s : Shared) (us : List Value), us.length = (["calls"] : List Str).length → BindsTo s fd ⟨us, []⟩ ((["calls"] : List Str).zip us)) ∧ (∀ p ∈ tabCs, h.get? p.2 = some noTab ∧ K.lookup p.2 = none ∧ PySem.W.CodeHd h p.1 p.2) ∧ ∀ base : Heap, K.In base → base.Ns mainGlobals mg → (∀ p ∈ tabCs, LamX.TabB base mg p.1 p.2) → FnOk P w K mg base CX0 15 fa fd ["calls"] (spAns K Zt) := by
  have e := hfa.symm.trans (PySem.W.mg_of X G a60)
  cases e
  have F0 := fun_mk (st := s_is_atom) l0 c0 k0
  have b0 := F0.binds (ps := ["head"]) fun _ _ _ _ _ _ us hl => match us, hl with | [_], _ => rfl
  have F1 := fun_mk (st := s_head_width) l1 c1 k1
  have b1 := F1.binds (ps := ["numbers", "place"]) fun _ _ _ _ _ _ us hl => match us, hl with | [_, _], _ => rfl
  have F2 := fun_mk (st := s_concept_end) l2 c2 k2
  have b2 := F2.binds (ps := ["numbers", "start"]) fun _ _ _ _ _ _ us hl => match us, hl with | [_, _], _ => rfl
  have F3 := fun_mk (st := s_read_concepts) l3 c3 k3
  have b3 := F3.binds (ps := ["numbers", "count"]) fun _ _ _ _ _ _ us hl => match us, hl with | [_, _], _ => rfl
  have F4 := fun_mk (st := s_head_places) l4 c4 k4
  have b4 := F4.binds (ps := ["concept"]) fun _ _ _ _ _ _ us hl => match us, hl with | [_], _ => rfl
  have F5 := fun_mk (st := s_part_at) l5 c5 k5
  have b5 := F5.binds (ps := ["concept", "place"]) fun _ _ _ _ _ _ us hl => match us, hl with | [_, _], _ => rfl
  have F6 := fun_mk (st := s_inside) l6 c6 k6
  have b6 := F6.binds (ps := ["atom"]) fun _ _ _ _ _ _ us hl => match us, hl with | [_], _ => rfl
  have F7 := fun_mk (st := s_atoms_of) l7 c7 k7
  have b7 := F7.binds (ps := ["row"]) fun _ _ _ _ _ _ us hl => match us, hl with | [_], _ => rfl
  have F8 := fun_mk (st := s_has_bit) l8 c8 k8
  have b8 := F8.binds (ps := ["number", "k"]) fun _ _ _ _ _ _ us hl => match us, hl with | [_, _], _ => rfl
  have F9 := fun_mk (st := s_joined) l9 c9 k9
  have b9 := F9.binds (ps := ["head", "parts", "which"]) fun _ _ _ _ _ _ us hl => match us, hl with | [_, _, _], _ => rfl
  have F10 := fun_mk (st := s_column_by) l10 c10 k10
  have b10 := F10.binds (ps := ["concept", "total", "tell_atom"]) fun _ _ _ _ _ _ us hl => match us, hl with | [_, _, _], _ => rfl
  have F11 := fun_mk (st := s_is_broken) l11 c11 k11
  have b11 := F11.binds (ps := ["pair", "which"]) fun _ _ _ _ _ _ us hl => match us, hl with | [_, _], _ => rfl
  have F12 := fun_mk (st := s_lowest_broken) l12 c12 k12
  have b12 := F12.binds (ps := ["pairs", "which"]) fun _ _ _ _ _ _ us hl => match us, hl with | [_, _], _ => rfl
  have F13 := fun_mk (st := s_column) l13 c13 k13
  have b13 := F13.binds (ps := ["concept", "atoms"]) fun _ _ _ _ _ _ us hl => match us, hl with | [_, _], _ => rfl
  have F14 := fun_mk (st := s_inside_column) l14 c14 k14
  have b14 := F14.binds (ps := ["atom", "atoms"]) fun _ _ _ _ _ _ us hl => match us, hl with | [_, _], _ => rfl
  have F15 := fun_mk (st := s_axiom_columns) l15 c15 k15
  have b15 := F15.binds (ps := ["axioms", "atoms"]) fun _ _ _ _ _ _ us hl => match us, hl with | [_, _], _ => rfl
  have F16 := fun_mk (st := s_lowest_holding) l16 c16 k16
  have b16 := F16.binds (ps := ["concept", "atoms", "there"]) fun _ _ _ _ _ _ us hl => match us, hl with | [_, _, _], _ => rfl
  have F17 := fun_mk (st := s_Kinds_init) l17 c17 k17
  have b17 := F17.binds (ps := ["self", "atoms"]) fun _ _ _ _ _ _ us hl => match us, hl with | [_, _], _ => rfl
  have F18 := fun_mk (st := s_fits) l18 c18 k18
  have b18 := F18.binds (ps := ["self", "kind", "other", "role"]) fun _ _ _ _ _ _ us hl => match us, hl with | [_, _, _, _], _ => rfl
  have F19 := fun_mk (st := s_is_due) l19 c19 k19
  have b19 := F19.binds (ps := ["self", "kind", "k"]) fun _ _ _ _ _ _ us hl => match us, hl with | [_, _, _], _ => rfl
  have F20 := fun_mk (st := s_bears_out) l20 c20 k20
  have b20 := F20.binds (ps := ["self", "other", "kind", "k"]) fun _ _ _ _ _ _ us hl => match us, hl with | [_, _, _, _], _ => rfl
  have F21 := fun_mk (st := s_lowest_bearing) l21 c21 k21
  have b21 := F21.binds (ps := ["self", "kind", "k", "there"]) fun _ _ _ _ _ _ us hl => match us, hl with | [_, _, _, _], _ => rfl
  have F22 := fun_mk (st := s_is_unborne) l22 c22 k22
  have b22 := F22.binds (ps := ["self", "kind", "k", "there"]) fun _ _ _ _ _ _ us hl => match us, hl with | [_, _, _, _], _ => rfl
  have F23 := fun_mk (st := s_lowest_unborne) l23 c23 k23
  have b23 := F23.binds (ps := ["self", "kind", "there"]) fun _ _ _ _ _ _ us hl => match us, hl with | [_, _, _], _ => rfl
  have F24 := fun_mk (st := s_has_atom) l24 c24 k24
  have b24 := F24.binds (ps := ["thing", "head", "choice", "parts"]) fun _ _ _ _ _ _ us hl => match us, hl with | [_, _, _, _], _ => rfl
  have F25 := fun_mk (st := s_thing_column) l25 c25 k25
  have b25 := F25.binds (ps := ["concept", "things"]) fun _ _ _ _ _ _ us hl => match us, hl with | [_, _], _ => rfl
  have F26 := fun_mk (st := s_read_steps) l26 c26 k26
  have b26 := F26.binds (ps := ["numbers"]) fun _ _ _ _ _ _ us hl => match us, hl with | [_], _ => rfl
  have F27 := fun_mk (st := s_is_reason) l27 c27 k27
  have b27 := F27.binds (ps := ["kinds", "pairs", "there", "step"]) fun _ _ _ _ _ _ us hl => match us, hl with | [_, _, _, _], _ => rfl
  have F28 := fun_mk (st := s_check_none) l28 c28 k28
  have b28 := F28.binds (ps := ["axioms", "atoms", "concept", "steps"]) fun _ _ _ _ _ _ us hl => match us, hl with | [_, _, _, _], _ => rfl
  have F29 := fun_mk (st := s_read_thing) l29 c29 k29
  have b29 := F29.binds (ps := ["numbers"]) fun _ _ _ _ _ _ us hl => match us, hl with | [_], _ => rfl
  have F30 := fun_mk (st := s_read_things) l30 c30 k30
  have b30 := F30.binds (ps := ["lists"]) fun _ _ _ _ _ _ us hl => match us, hl with | [_], _ => rfl
  have F31 := fun_mk (st := s_lowest_stray) l31 c31 k31
  have b31 := F31.binds (ps := ["things"]) fun _ _ _ _ _ _ us hl => match us, hl with | [_], _ => rfl
  have F32 := fun_mk (st := s_check_model) l32 c32 k32
  have b32 := F32.binds (ps := ["axioms", "concept", "things"]) fun _ _ _ _ _ _ us hl => match us, hl with | [_, _, _], _ => rfl
  have F33 := fun_mk (st := s_names_of) l33 c33 k33
  have b33 := F33.binds (ps := ["kind", "atoms"]) fun _ _ _ _ _ _ us hl => match us, hl with | [_, _], _ => rfl
  have F34 := fun_mk (st := s_kind_ways) l34 c34 k34
  have b34 := F34.binds (ps := ["kinds", "kind", "there"]) fun _ _ _ _ _ _ us hl => match us, hl with | [_, _, _], _ => rfl
  have F35 := fun_mk (st := s_told_model) l35 c35 k35
  have b35 := F35.binds (ps := ["atoms", "there", "first"]) fun _ _ _ _ _ _ us hl => match us, hl with | [_, _, _], _ => rfl
  have F36 := fun_mk (st := s_axiom_steps) l36 c36 k36
  have b36 := F36.binds (ps := ["axioms", "atoms"]) fun _ _ _ _ _ _ us hl => match us, hl with | [_, _], _ => rfl
  have F37 := fun_mk (st := s_round_steps) l37 c37 k37
  have b37 := F37.binds (ps := ["kinds", "there"]) fun _ _ _ _ _ _ us hl => match us, hl with | [_, _], _ => rfl
  have F38 := fun_mk (st := s_without) l38 c38 k38
  have b38 := F38.binds (ps := ["there", "steps"]) fun _ _ _ _ _ _ us hl => match us, hl with | [_, _], _ => rfl
  have F39 := fun_mk (st := s_house_steps) l39 c39 k39
  have b39 := F39.binds (ps := ["axioms", "atoms"]) fun _ _ _ _ _ _ us hl => match us, hl with | [_, _], _ => rfl
  have F40 := fun_mk (st := s_left_after) l40 c40 k40
  have b40 := F40.binds (ps := ["steps", "atoms"]) fun _ _ _ _ _ _ us hl => match us, hl with | [_, _], _ => rfl
  have F41 := fun_mk (st := s_Question_init) l41 c41 k41
  have b41 := F41.binds (ps := ["self", "axioms", "concept", "atoms"]) fun _ _ _ _ _ _ us hl => match us, hl with | [_, _, _, _], _ => rfl
  have F42 := fun_mk (st := s_none) l42 c42 k42
  have b42 := F42.binds (ps := ["self"]) fun _ _ _ _ _ _ us hl => match us, hl with | [_], _ => rfl
  have F43 := fun_mk (st := s_model) l43 c43 k43
  have b43 := F43.binds (ps := ["self"]) fun _ _ _ _ _ _ us hl => match us, hl with | [_], _ => rfl
  have F44 := fun_mk (st := s_checknone) l44 c44 k44
  have b44 := F44.binds (ps := ["self", "numbers"]) fun _ _ _ _ _ _ us hl => match us, hl with | [_, _], _ => rfl
  have F45 := fun_mk (st := s_checkmodel) l45 c45 k45
  have b45 := F45.binds (ps := ["self", "lists"]) fun _ _ _ _ _ _ us hl => match us, hl with | [_, _], _ => rfl
  have F46 := fun_mk (st := s_can) l46 c46 k46
  have b46 := F46.binds (ps := ["self"]) fun _ _ _ _ _ _ us hl => match us, hl with | [_], _ => rfl
  have F47 := fun_mk (st := s_House_init) l47 c47 k47
  have b47 := F47.binds (ps := ["self"]) fun _ _ _ _ _ _ us hl => match us, hl with | [_], _ => rfl
  have F48 := fun_mk (st := s_atoms_with) l48 c48 k48
  have b48 := F48.binds (ps := ["self", "concepts"]) fun _ _ _ _ _ _ us hl => match us, hl with | [_, _], _ => rfl
  have F49 := fun_mk (st := s_begins) l49 c49 k49
  have b49 := F49.binds (ps := ["self"]) fun _ _ _ _ _ _ us hl => match us, hl with | [_], _ => rfl
  have F50 := fun_mk (st := s_line) l50 c50 k50
  have b50 := F50.binds (ps := ["self", "numbers"]) fun _ _ _ _ _ _ us hl => match us, hl with | [_, _], _ => rfl
  have F51 := fun_mk (st := s_drop) l51 c51 k51
  have b51 := F51.binds (ps := ["self", "which"]) fun _ _ _ _ _ _ us hl => match us, hl with | [_, _], _ => rfl
  have F52 := fun_mk (st := s_ask) l52 c52 k52
  have b52 := F52.binds (ps := ["self", "call", "lists"]) fun _ _ _ _ _ _ us hl => match us, hl with | [_, _, _], _ => rfl
  have F53 := fun_mk (st := s_Reader_init) l53 c53 k53
  have b53 := F53.binds (ps := ["self", "numbers"]) fun _ _ _ _ _ _ us hl => match us, hl with | [_, _], _ => rfl
  have F54 := fun_mk (st := s_at_end) l54 c54 k54
  have b54 := F54.binds (ps := ["self"]) fun _ _ _ _ _ _ us hl => match us, hl with | [_], _ => rfl
  have F55 := fun_mk (st := s_take) l55 c55 k55
  have b55 := F55.binds (ps := ["self"]) fun _ _ _ _ _ _ us hl => match us, hl with | [_], _ => rfl
  have F56 := fun_mk (st := s_take_row) l56 c56 k56
  have b56 := F56.binds (ps := ["self"]) fun _ _ _ _ _ _ us hl => match us, hl with | [_], _ => rfl
  have F57 := fun_mk (st := s_take_rows) l57 c57 k57
  have b57 := F57.binds (ps := ["self"]) fun _ _ _ _ _ _ us hl => match us, hl with | [_], _ => rfl
  have F58 := fun_mk (st := s_answer_question) l58 c58 k58
  have b58 := F58.binds (ps := ["question", "call", "lists"]) fun _ _ _ _ _ _ us hl => match us, hl with | [_, _, _], _ => rfl
  have F59 := fun_mk (st := s_answer_call) l59 c59 k59
  have b59 := F59.binds (ps := ["house", "call", "numbers", "lists"]) fun _ _ _ _ _ _ us hl => match us, hl with | [_, _, _, _], _ => rfl
  have F60 := fun_mk (st := s_answers) l60 c60 k60
  have b60 := F60.binds (ps := ["calls"]) fun _ _ _ _ _ _ us hl => match us, hl with | [_], _ => rfl
  have T : Txt K mg := ⟨PySem.W.mg_none_of X G b_len, PySem.W.mg_none_of X G b_tuple, PySem.W.mg_none_of X G b_list, PySem.W.mg_none_of X G b_range, PySem.W.mg_none_of X G b_reversed, PySem.W.mg_none_of X G b_enumerate, cst_of (PySem.W.mg_of X G q_EVERYTHING), cst_of (PySem.W.mg_of X G q_BOTH), cst_of (PySem.W.mg_of X G q_EITHER), cst_of (PySem.W.mg_of X G q_NOT), cst_of (PySem.W.mg_of X G q_NAME), cst_of (PySem.W.mg_of X G q_SOME), cst_of (PySem.W.mg_of X G q_ALL), ⟨a_PARTS, ⟨⟨_, PySem.W.mg_of X G q_PARTS, rfl⟩⟩, fun H => .inr ⟨_, _, _, l_PARTS, rfl, rfl, by show 8 ≤ sizeLine; decide, .cons ⟨_, rfl⟩ (.cons ⟨_, rfl⟩ (.cons ⟨_, rfl⟩ (.cons ⟨_, rfl⟩ (.cons ⟨_, rfl⟩ (.cons ⟨_, rfl⟩ (.cons ⟨_, rfl⟩ (.cons ⟨_, rfl⟩ (.nil))))))))⟩⟩, ⟨a_CHOICES, ⟨⟨_, PySem.W.mg_of X G q_CHOICES, rfl⟩⟩, fun H => .inr ⟨_, _, _, l_CHOICES, rfl, rfl, by show 8 ≤ sizeLine; decide, .cons ⟨_, rfl⟩ (.cons ⟨_, rfl⟩ (.cons ⟨_, rfl⟩ (.cons ⟨_, rfl⟩ (.cons ⟨_, rfl⟩ (.cons ⟨_, rfl⟩ (.cons ⟨_, rfl⟩ (.cons ⟨_, rfl⟩ (.nil))))))))⟩⟩⟩
  have TZ : TxtB mg := ⟨PySem.W.mg_none_of X G b_any, PySem.W.mg_none_of X G b_all, PySem.W.mg_none_of X G b_zip⟩
  have TK : ClsK K C_Kinds := ⟨⟨pg_Kinds, hd_Kinds, po_Kinds, sa_Kinds⟩, n_Kinds_atoms, n_Kinds_total, n_Kinds_insides⟩
  have TP : TxtP mg := ⟨cst_of (PySem.W.mg_of X G q_BY_AXIOM), cst_of (PySem.W.mg_of X G q_BY_ATOM)⟩
  have TV : TxtK mg := ⟨cst_of (PySem.W.mg_of X G q_RIGHT), cst_of (PySem.W.mg_of X G q_NOT_THERE), cst_of (PySem.W.mg_of X G q_NO_REASON), cst_of (PySem.W.mg_of X G q_STILL_HOLDS), cst_of (PySem.W.mg_of X G q_NO_THINGS), cst_of (PySem.W.mg_of X G q_STRAY_WAY), cst_of (PySem.W.mg_of X G q_BREAKS_AXIOM), cst_of (PySem.W.mg_of X G q_NOT_THE_FIRST), cst_of (PySem.W.mg_of X G q_ROLES)⟩
  have TQ : ClsQ K C_Question := ⟨⟨pg_Question, hd_Question, po_Question, sa_Question⟩, n_Question_axioms, n_Question_concept, n_Question_atoms⟩
  have TU : TxtQ mg := ⟨cst_of (PySem.W.mg_of X G q_NOT_A_PROOF), cst_of (PySem.W.mg_of X G q_NO_SUCH_PROOF)⟩
  have TA : TxtA mg := ⟨cst_of (PySem.W.mg_of X G q_NONE), cst_of (PySem.W.mg_of X G q_MODEL), cst_of (PySem.W.mg_of X G q_CHECKNONE), cst_of (PySem.W.mg_of X G q_CHECKMODEL)⟩
  have TH : ClsH K C_House := ⟨⟨pg_House, hd_House, po_House, sa_House⟩, n_House_axioms⟩
  have TX : TxtH mg := ⟨cst_of (PySem.W.mg_of X G q_MOST_AXIOMS), cst_of (PySem.W.mg_of X G q_MOST_ATOMS), cst_of (PySem.W.mg_of X G q_NOT_CONCEPTS), cst_of (PySem.W.mg_of X G q_NO_SUCH_AXIOM), cst_of (PySem.W.mg_of X G q_TOO_MANY)⟩
  have TR : ClsR K C_Reader := ⟨⟨pg_Reader, hd_Reader, po_Reader, sa_Reader⟩, n_Reader_numbers, n_Reader_place⟩
  have TC : TxtC mg := ⟨cst_of (PySem.W.mg_of X G q_BEGINS), cst_of (PySem.W.mg_of X G q_LINE), cst_of (PySem.W.mg_of X G q_DROP), cst_of (PySem.W.mg_of X G q_CAN)⟩
  refine ⟨PySem.W.fnOf "answers" "answers" (defArgs s_answers) (defBody s_answers) (defScope s_answers) .none kV60 dc60 pm60 an60 cd60 ct60, fun s us hu => match us, hu with | [_], _ => .of_eq rfl, hcs, fun base _ _ ht => ?_⟩
  have TB_column := ht (111, 107) (by simp)
  have FK_column : FunK K "column" "column" s_column f13 _ 111 := ⟨⟨_, _, _, _, _, _, _, _, rfl, l13, c13⟩⟩
  have TB_thing_column := ht (203, 199) (by simp)
  have FK_thing_column : FunK K "thing_column" "thing_column" s_thing_column f25 _ 203 := ⟨⟨_, _, _, _, _, _, _, _, rfl, l25, c25⟩⟩
  have uIA : Use P w K mg base 1 "is_atom" ["head"] spIsAtom := ⟨⟨f0, _, PySem.W.mg_of X G a0, k0, b0, ok_is_atom F0 T⟩⟩
  have uHW : Use P w K mg base 1 "head_width" ["numbers", "place"] (spHW K) := ⟨⟨f1, _, PySem.W.mg_of X G a1, k1, b1, ok_head_width F1 T⟩⟩
  have uCE : Use P w K mg base 2 "concept_end" ["numbers", "start"] (spCE K) := ⟨⟨f2, _, PySem.W.mg_of X G a2, k2, b2, ok_concept_end F2 T uHW⟩⟩
  have uRC : Use P w K mg base 3 "read_concepts" ["numbers", "count"] (spRC K) := ⟨⟨f3, _, PySem.W.mg_of X G a3, k3, b3, ok_read_concepts F3 T uCE⟩⟩
  have uHP : Use P w K mg base 2 "head_places" ["concept"] (spHP K) := ⟨⟨f4, _, PySem.W.mg_of X G a4, k4, b4, ok_head_places F4 T uHW⟩⟩
  have uPA : Use P w K mg base 3 "part_at" ["concept", "place"] (spPA K) := ⟨⟨f5, _, PySem.W.mg_of X G a5, k5, b5, ok_part_at F5 uCE⟩⟩
  have uIN : Use P w K mg base 1 "inside" ["atom"] (spIN K) := ⟨⟨f6, _, PySem.W.mg_of X G a6, k6, b6, ok_inside F6⟩⟩
  have uAO : Use P w K mg base 4 "atoms_of" ["row"] (spAO K) := ⟨⟨f7, _, PySem.W.mg_of X G a7, k7, b7, ok_atoms_of F7 uHP uIA uPA⟩⟩
  have uAH : Use P w K mg base 1 "has_bit" ["number", "k"] spAH := ⟨⟨f8, _, PySem.W.mg_of X G a8, k8, b8, ok_has_bit F8⟩⟩
  have uJ : Use P w K mg base 1 "joined" ["head", "parts", "which"] (spJ K) := ⟨⟨f9, _, PySem.W.mg_of X G a9, k9, b9, ok_joined F9 T⟩⟩
  have uCB : UseC P w K mg base 5 4 "column_by" ["concept", "total", "tell_atom"] ["place", "parts"] (spCB K) := ⟨⟨f10, _, PySem.W.mg_of X G a10, k10, b10, fun g F fr ws spN Fn => ok_column_by F10 T uHP uIA uJ Fn⟩⟩
  have uBk : Use P w K mg base 1 "is_broken" ["pair", "which"] (spBk K) := ⟨⟨f11, _, PySem.W.mg_of X G a11, k11, b11, ok_is_broken F11⟩⟩
  have uLB : Use P w K mg base 2 "lowest_broken" ["pairs", "which"] (spLB K) := ⟨⟨f12, _, PySem.W.mg_of X G a12, k12, b12, ok_lowest_broken F12 T uBk⟩⟩
  have uCol : Use P w K mg base 6 "column" ["concept", "atoms"] (spCol K Zt) := ⟨⟨f13, _, PySem.W.mg_of X G a13, k13, b13, ok_column FK_column T TB_column zt_column (fun p hp e => zu_column p hp e) uPA uAH uCB⟩⟩
  have uIC : Use P w K mg base 7 "inside_column" ["atom", "atoms"] (spIC K Zt) := ⟨⟨f14, _, PySem.W.mg_of X G a14, k14, b14, ok_inside_column F14 T uIN uCol⟩⟩
  have uAXC : Use P w K mg base 7 "axiom_columns" ["axioms", "atoms"] (spAXC K Zt) := ⟨⟨f15, _, PySem.W.mg_of X G a15, k15, b15, ok_axiom_columns F15 uCol⟩⟩
  have uLH : Use P w K mg base 7 "lowest_holding" ["concept", "atoms", "there"] (spLH K Zt) := ⟨⟨f16, _, PySem.W.mg_of X G a16, k16, b16, ok_lowest_holding F16 uCol⟩⟩
  have uMK : MkUse P w K mg base 8 "Kinds" C_Kinds ["self", "atoms"] (spKI K C_Kinds Zt) := ⟨⟨f17, _, PySem.W.mg_of X G g_Kinds, ⟨mk_Kinds, a17, i17, kc_Kinds⟩, b17, ok_Kinds_init F17 T TK uIC⟩⟩
  have uF : MUse P w K mg base 2 C_Kinds "fits" ["self", "kind", "other", "role"] (spFits K C_Kinds) := ⟨⟨f18, _, ⟨a18, i18, k18⟩, b18, ok_fits F18 T TK uAH⟩⟩
  have uDue : MUse P w K mg base 2 C_Kinds "is_due" ["self", "kind", "k"] (spDue K C_Kinds) := ⟨⟨f19, _, ⟨a19, i19, k19⟩, b19, ok_is_due F19 T TK uAH⟩⟩
  have uBO : MUse P w K mg base 3 C_Kinds "bears_out" ["self", "other", "kind", "k"] (spBO K C_Kinds) := ⟨⟨f20, _, ⟨a20, i20, k20⟩, b20, ok_bears_out F20 T TK uF⟩⟩
  have uLBr : MUse P w K mg base 4 C_Kinds "lowest_bearing" ["self", "kind", "k", "there"] (spLBr K C_Kinds) := ⟨⟨f21, _, ⟨a21, i21, k21⟩, b21, ok_lowest_bearing F21 TK uBO⟩⟩
  have uIU : MUse P w K mg base 5 C_Kinds "is_unborne" ["self", "kind", "k", "there"] (spIU K C_Kinds) := ⟨⟨f22, _, ⟨a22, i22, k22⟩, b22, ok_is_unborne F22 TK uDue uLBr⟩⟩
  have uLU : MUse P w K mg base 6 C_Kinds "lowest_unborne" ["self", "kind", "there"] (spLU K C_Kinds) := ⟨⟨f23, _, ⟨a23, i23, k23⟩, b23, ok_lowest_unborne F23 T TK uIU⟩⟩
  have uHA : Use P w K mg base 2 "has_atom" ["thing", "head", "choice", "parts"] (spHA K) := ⟨⟨f24, _, PySem.W.mg_of X G a24, k24, b24, ok_has_atom F24 T TZ uAH⟩⟩
  have uTC : Use P w K mg base 6 "thing_column" ["concept", "things"] (spTC K Zt) := ⟨⟨f25, _, PySem.W.mg_of X G a25, k25, b25, ok_thing_column FK_thing_column T TB_thing_column zt_thing_column (fun p hp e => zu_thing_column p hp e) uHA uCB⟩⟩
  have uRSt : Use P w K mg base 1 "read_steps" ["numbers"] (spRSt K) := ⟨⟨f26, _, PySem.W.mg_of X G a26, k26, b26, ok_read_steps F26 T TP⟩⟩
  have uIR : Use P w K mg base 6 "is_reason" ["kinds", "pairs", "there", "step"] (spIR K C_Kinds) := ⟨⟨f27, _, PySem.W.mg_of X G a27, k27, b27, ok_is_reason F27 T TP TK uBk uIU⟩⟩
  have uCN : Use P w K mg base 10 "check_none" ["axioms", "atoms", "concept", "steps"] (spCN K Zt) := ⟨⟨f28, _, PySem.W.mg_of X G a28, k28, b28, ok_check_none F28 T TV TK uMK uAXC uIR uLH⟩⟩
  have uRTh : Use P w K mg base 1 "read_thing" ["numbers"] (spRTh K) := ⟨⟨f29, _, PySem.W.mg_of X G a29, k29, b29, ok_read_thing F29 T⟩⟩
  have uRThs : Use P w K mg base 2 "read_things" ["lists"] (spRThs K) := ⟨⟨f30, _, PySem.W.mg_of X G a30, k30, b30, ok_read_things F30 uRTh⟩⟩
  have uLS : Use P w K mg base 1 "lowest_stray" ["things"] (spLS K) := ⟨⟨f31, _, PySem.W.mg_of X G a31, k31, b31, ok_lowest_stray F31 T TV⟩⟩
  have uCM : Use P w K mg base 7 "check_model" ["axioms", "concept", "things"] (spCM K Zt) := ⟨⟨f32, _, PySem.W.mg_of X G a32, k32, b32, ok_check_model F32 T TV uLS uTC uLB⟩⟩
  have uNO : Use P w K mg base 2 "names_of" ["kind", "atoms"] (spNO K) := ⟨⟨f33, _, PySem.W.mg_of X G a33, k33, b33, ok_names_of F33 T uAH⟩⟩
  have uKW : Use P w K mg base 5 "kind_ways" ["kinds", "kind", "there"] (spKW K C_Kinds) := ⟨⟨f34, _, PySem.W.mg_of X G a34, k34, b34, ok_kind_ways F34 T TK uDue uLBr⟩⟩
  have uTM : Use P w K mg base 10 "told_model" ["atoms", "there", "first"] (spTM K Zt) := ⟨⟨f35, _, PySem.W.mg_of X G a35, k35, b35, ok_told_model F35 T TZ TK uMK uKW uNO⟩⟩
  have uAS : Use P w K mg base 8 "axiom_steps" ["axioms", "atoms"] (spAS K Zt) := ⟨⟨f36, _, PySem.W.mg_of X G a36, k36, b36, ok_axiom_steps F36 T TP uAXC uLB⟩⟩
  have uRS : Use P w K mg base 7 "round_steps" ["kinds", "there"] (spRS K C_Kinds) := ⟨⟨f37, _, PySem.W.mg_of X G a37, k37, b37, ok_round_steps F37 TK TP uLU⟩⟩
  have uW : Use P w K mg base 1 "without" ["there", "steps"] (spW K) := ⟨⟨f38, _, PySem.W.mg_of X G a38, k38, b38, ok_without F38⟩⟩
  have uHS : Use P w K mg base 10 "house_steps" ["axioms", "atoms"] (spHS K Zt) := ⟨⟨f39, _, PySem.W.mg_of X G a39, k39, b39, ok_house_steps F39 T TK uMK uAS uW uRS⟩⟩
  have uLA : Use P w K mg base 2 "left_after" ["steps", "atoms"] (spLA K) := ⟨⟨f40, _, PySem.W.mg_of X G a40, k40, b40, ok_left_after F40 T uW⟩⟩
  have uMQ : MkUse P w K mg base 1 "Question" C_Question ["self", "axioms", "concept", "atoms"] (spQI C_Question) := ⟨⟨f41, _, PySem.W.mg_of X G g_Question, ⟨mk_Question, a41, i41, kc_Question⟩, b41, ok_Question_init F41 TQ⟩⟩
  have uNo : MUse P w K mg base 11 C_Question "none" ["self"] (spNone K C_Question Zt) := ⟨⟨f42, _, ⟨a42, i42, k42⟩, b42, ok_none F42 T TQ TU uHS uLA uLH⟩⟩
  have uMo : MUse P w K mg base 11 C_Question "model" ["self"] (spModel K C_Question Zt) := ⟨⟨f43, _, ⟨a43, i43, k43⟩, b43, ok_model F43 T TQ TU uHS uLA uLH uTM⟩⟩
  have uQN : MUse P w K mg base 11 C_Question "checknone" ["self", "numbers"] (spQCN K C_Question Zt) := ⟨⟨f44, _, ⟨a44, i44, k44⟩, b44, ok_checknone F44 TQ TU uRSt uCN⟩⟩
  have uQM : MUse P w K mg base 8 C_Question "checkmodel" ["self", "lists"] (spQCM K C_Question Zt) := ⟨⟨f45, _, ⟨a45, i45, k45⟩, b45, ok_checkmodel F45 TQ TU uRThs uCM⟩⟩
  have uCa : MUse P w K mg base 11 C_Question "can" ["self"] (spCan K C_Question Zt) := ⟨⟨f46, _, ⟨a46, i46, k46⟩, b46, ok_can F46 TQ uHS uLA uLH⟩⟩
  have uAQ : Use P w K mg base 12 "answer_question" ["question", "call", "lists"] (spAQ K C_Question Zt) := ⟨⟨f58, _, PySem.W.mg_of X G a58, k58, b58, ok_answer_question F58 TQ TA uNo uMo uQN uQM uCa⟩⟩
  have uMH : MkUse P w K mg base 1 "House" C_House ["self"] (spHI C_House) := ⟨⟨f47, _, PySem.W.mg_of X G g_House, ⟨mk_House, a47, i47, kc_House⟩, b47, ok_House_init F47 TH⟩⟩
  have uAW : MUse P w K mg base 5 C_House "atoms_with" ["self", "concepts"] (spAW K C_House) := ⟨⟨f48, _, ⟨a48, i48, k48⟩, b48, ok_atoms_with F48 TH uAO⟩⟩
  have uBg : MUse P w K mg base 1 C_House "begins" ["self"] (spBegins K C_House) := ⟨⟨f49, _, ⟨a49, i49, k49⟩, b49, ok_begins F49 TH⟩⟩
  have uLn : MUse P w K mg base 6 C_House "line" ["self", "numbers"] (spLine K C_House) := ⟨⟨f50, _, ⟨a50, i50, k50⟩, b50, ok_line F50 T TH TX uRC uAW⟩⟩
  have uDr : MUse P w K mg base 1 C_House "drop" ["self", "which"] (spDrop K C_House) := ⟨⟨f51, _, ⟨a51, i51, k51⟩, b51, ok_drop F51 T TH TX⟩⟩
  have uAk : MUse P w K mg base 13 C_House "ask" ["self", "call", "lists"] (spAsk K C_House Zt) := ⟨⟨f52, _, ⟨a52, i52, k52⟩, b52, ok_ask F52 T TH TX uRC uAW uMQ uAQ⟩⟩
  have uMR : MkUse P w K mg base 1 "Reader" C_Reader ["self", "numbers"] (spRI C_Reader) := ⟨⟨f53, _, PySem.W.mg_of X G g_Reader, ⟨mk_Reader, a53, i53, kc_Reader⟩, b53, ok_Reader_init F53 TR⟩⟩
  have uAE : MUse P w K mg base 1 C_Reader "at_end" ["self"] (spAE K C_Reader) := ⟨⟨f54, _, ⟨a54, i54, k54⟩, b54, ok_at_end F54 T TR⟩⟩
  have uT : MUse P w K mg base 1 C_Reader "take" ["self"] (spTake K C_Reader) := ⟨⟨f55, _, ⟨a55, i55, k55⟩, b55, ok_take F55 TR⟩⟩
  have uR : MUse P w K mg base 2 C_Reader "take_row" ["self"] (spRow K C_Reader) := ⟨⟨f56, _, ⟨a56, i56, k56⟩, b56, ok_take_row F56 TR uT⟩⟩
  have uRs : MUse P w K mg base 3 C_Reader "take_rows" ["self"] (spRows K C_Reader) := ⟨⟨f57, _, ⟨a57, i57, k57⟩, b57, ok_take_rows F57 T TR uT uR⟩⟩
  have uAC : Use P w K mg base 14 "answer_call" ["house", "call", "numbers", "lists"] (spAC K C_House Zt) := ⟨⟨f59, _, PySem.W.mg_of X G a59, k59, b59, ok_answer_call F59 TH TC uBg uLn uDr uAk⟩⟩
  exact ok_answers F60 T TR uMH uMR uAE uT uR uRs uAC
end Bk
open PySem PySem.W PyProof.Rows
local macro_rules | `(tactic| o_headS ($f:ident $k $a $e)) => `(tactic| o_headS (PySem.W.kmHook $k $a $e [107, 199]))
set_option maxRecDepth 100000 in
set_option maxHeartbeats 80000000 in
theorem PySem.Challenge.cw_believedkinds_s01_answers_holds : PySem.Challenge.rw_believedkinds_s01_answers.Holds := by
  w_on; k_headS; (case hw => exact ⟨[.list [.int 0, .int 0, .int 0]], by decide +kernel, by decide +kernel⟩)
  k_fillS
  refine Bk.walk_tabs (r := PySem.Challenge.rw_believedkinds_s01_answers) (k := 15) (ps := ["calls"]) (sp := fun K => Bk.spAns K Bk.Zt) Bk.tabCs (by decide +kernel) rfl rfl ⟨rfl, by decide, by decide⟩ (fun w h Y => PySem.W.km_in_of Y) ?F ?S
  case F =>
    intro w mg fa h Y KX G hmg
    refine' Bk.all_mk KX G hmg ?tabs ?b_len ?b_tuple ?b_list ?b_range ?b_reversed ?b_enumerate ?b_any ?b_all ?b_zip ?q_EVERYTHING ?q_NAME ?q_BOTH ?q_EITHER ?q_NOT ?q_SOME ?q_ALL ?q_BY_AXIOM ?q_BY_ATOM ?q_RIGHT ?q_NOT_THERE ?q_NO_REASON ?q_STILL_HOLDS ?q_NO_THINGS ?q_STRAY_WAY ?q_BREAKS_AXIOM ?q_NOT_THE_FIRST ?q_ROLES ?q_NOT_A_PROOF ?q_NO_SUCH_PROOF ?q_MOST_AXIOMS ?q_MOST_ATOMS ?q_NOT_CONCEPTS ?q_NO_SUCH_AXIOM ?q_TOO_MANY ?q_BEGINS ?q_LINE ?q_DROP ?q_NONE ?q_MODEL ?q_CHECKNONE ?q_CHECKMODEL ?q_CAN ?q_PARTS ?l_PARTS ?q_CHOICES ?l_CHOICES ?g_Kinds ?g_Question ?g_House ?g_Reader ?a0 ?l0 ?c0 ?k0 ?a1 ?l1 ?c1 ?k1 ?a2 ?l2 ?c2 ?k2 ?a3 ?l3 ?c3 ?k3 ?a4 ?l4 ?c4 ?k4 ?a5 ?l5 ?c5 ?k5 ?a6 ?l6 ?c6 ?k6 ?a7 ?l7 ?c7 ?k7 ?a8 ?l8 ?c8 ?k8 ?a9 ?l9 ?c9 ?k9 ?a10 ?l10 ?c10 ?k10 ?a11 ?l11 ?c11 ?k11 ?a12 ?l12 ?c12 ?k12 ?a13 ?l13 ?c13 ?k13 ?a14 ?l14 ?c14 ?k14 ?a15 ?l15 ?c15 ?k15 ?a16 ?l16 ?c16 ?k16 ?a17 ?i17 ?l17 ?c17 ?k17 ?a18 ?i18 ?l18 ?c18 ?k18 ?a19 ?i19 ?l19 ?c19 ?k19 ?a20 ?i20 ?l20 ?c20 ?k20 ?a21 ?i21 ?l21 ?c21 ?k21 ?a22 ?i22 ?l22 ?c22 ?k22 ?a23 ?i23 ?l23 ?c23 ?k23 ?a24 ?l24 ?c24 ?k24 ?a25 ?l25 ?c25 ?k25 ?a26 ?l26 ?c26 ?k26 ?a27 ?l27 ?c27 ?k27 ?a28 ?l28 ?c28 ?k28 ?a29 ?l29 ?c29 ?k29 ?a30 ?l30 ?c30 ?k30 ?a31 ?l31 ?c31 ?k31 ?a32 ?l32 ?c32 ?k32 ?a33 ?l33 ?c33 ?k33 ?a34 ?l34 ?c34 ?k34 ?a35 ?l35 ?c35 ?k35 ?a36 ?l36 ?c36 ?k36 ?a37 ?l37 ?c37 ?k37 ?a38 ?l38 ?c38 ?k38 ?a39 ?l39 ?c39 ?k39 ?a40 ?l40 ?c40 ?k40 ?a41 ?i41 ?l41 ?c41 ?k41 ?a42 ?i42 ?l42 ?c42 ?k42 ?a43 ?i43 ?l43 ?c43 ?k43 ?a44 ?i44 ?l44 ?c44 ?k44 ?a45 ?i45 ?l45 ?c45 ?k45 ?a46 ?i46 ?l46 ?c46 ?k46 ?a47 ?i47 ?l47 ?c47 ?k47 ?a48 ?i48 ?l48 ?c48 ?k48 ?a49 ?i49 ?l49 ?c49 ?k49 ?a50 ?i50 ?l50 ?c50 ?k50 ?a51 ?i51 ?l51 ?c51 ?k51 ?a52 ?i52 ?l52 ?c52 ?k52 ?a53 ?i53 ?l53 ?c53 ?k53 ?a54 ?i54 ?l54 ?c54 ?k54 ?a55 ?i55 ?l55 ?c55 ?k55 ?a56 ?i56 ?l56 ?c56 ?k56 ?a57 ?i57 ?l57 ?c57 ?k57 ?a58 ?l58 ?c58 ?k58 ?a59 ?l59 ?c59 ?k59 ?a60 ?l60 ?c60 ?k60 ?pg_Kinds ?hd_Kinds ?po_Kinds ?sa_Kinds ?mk_Kinds ?kc_Kinds ?n_Kinds_atoms ?n_Kinds_total ?n_Kinds_insides ?pg_Question ?hd_Question ?po_Question ?sa_Question ?mk_Question ?kc_Question ?n_Question_axioms ?n_Question_concept ?n_Question_atoms ?pg_House ?hd_House ?po_House ?sa_House ?mk_House ?kc_House ?n_House_axioms ?pg_Reader ?hd_Reader ?po_Reader ?sa_Reader ?mk_Reader ?kc_Reader ?n_Reader_numbers ?n_Reader_place
    (case tabs =>
      intro p hp
      have hT := PySem.W.km_tabs_of Y
      rcases List.mem_cons.mp hp with rfl | hp
      · exact ⟨hT 107 (by simp), by kernel_rfl, PySem.W.codeHd_of_K KX (by kernel_rfl)⟩
      · obtain rfl := List.mem_singleton.mp hp
        exact ⟨hT 199 (by simp), by kernel_rfl, PySem.W.codeHd_of_K KX (by kernel_rfl)⟩)
    (case b_len => k_is)
    (case b_tuple => k_is)
    (case b_list => k_is)
    (case b_range => k_is)
    (case b_reversed => k_is)
    (case b_enumerate => k_is)
    (case b_any => k_is)
    (case b_all => k_is)
    (case b_zip => k_is)
    (case q_EVERYTHING => k_is)
    (case q_NAME => k_is)
    (case q_BOTH => k_is)
    (case q_EITHER => k_is)
    (case q_NOT => k_is)
    (case q_SOME => k_is)
    (case q_ALL => k_is)
    (case q_BY_AXIOM => k_is)
    (case q_BY_ATOM => k_is)
    (case q_RIGHT => k_is)
    (case q_NOT_THERE => k_is)
    (case q_NO_REASON => k_is)
    (case q_STILL_HOLDS => k_is)
    (case q_NO_THINGS => k_is)
    (case q_STRAY_WAY => k_is)
    (case q_BREAKS_AXIOM => k_is)
    (case q_NOT_THE_FIRST => k_is)
    (case q_ROLES => k_is)
    (case q_NOT_A_PROOF => k_is)
    (case q_NO_SUCH_PROOF => k_is)
    (case q_MOST_AXIOMS => k_is)
    (case q_MOST_ATOMS => k_is)
    (case q_NOT_CONCEPTS => k_is)
    (case q_NO_SUCH_AXIOM => k_is)
    (case q_TOO_MANY => k_is)
    (case q_BEGINS => k_is)
    (case q_LINE => k_is)
    (case q_DROP => k_is)
    (case q_NONE => k_is)
    (case q_MODEL => k_is)
    (case q_CHECKNONE => k_is)
    (case q_CHECKMODEL => k_is)
    (case q_CAN => k_is)
    (case q_PARTS => k_is)
    (case l_PARTS => k_is)
    (case q_CHOICES => k_is)
    (case l_CHOICES => k_is)
    (case g_Kinds => k_is)
    (case g_Question => k_is)
    (case g_House => k_is)
    (case g_Reader => k_is)
    (case a0 => k_is)
    (case l0 => k_is)
    (case c0 => k_is)
    (case k0 => k_is)
    (case a1 => k_is)
    (case l1 => k_is)
    (case c1 => k_is)
    (case k1 => k_is)
    (case a2 => k_is)
    (case l2 => k_is)
    (case c2 => k_is)
    (case k2 => k_is)
    (case a3 => k_is)
    (case l3 => k_is)
    (case c3 => k_is)
    (case k3 => k_is)
    (case a4 => k_is)
    (case l4 => k_is)
    (case c4 => k_is)
    (case k4 => k_is)
    (case a5 => k_is)
    (case l5 => k_is)
    (case c5 => k_is)
    (case k5 => k_is)
    (case a6 => k_is)
    (case l6 => k_is)
    (case c6 => k_is)
    (case k6 => k_is)
    (case a7 => k_is)
    (case l7 => k_is)
    (case c7 => k_is)
    (case k7 => k_is)
    (case a8 => k_is)
    (case l8 => k_is)
    (case c8 => k_is)
    (case k8 => k_is)
    (case a9 => k_is)
    (case l9 => k_is)
    (case c9 => k_is)
    (case k9 => k_is)
    (case a10 => k_is)
    (case l10 => k_is)
    (case c10 => k_is)
    (case k10 => k_is)
    (case a11 => k_is)
    (case l11 => k_is)
    (case c11 => k_is)
    (case k11 => k_is)
    (case a12 => k_is)
    (case l12 => k_is)
    (case c12 => k_is)
    (case k12 => k_is)
    (case a13 => k_is)
    (case l13 => k_is)
    (case c13 => k_is)
    (case k13 => k_is)
    (case a14 => k_is)
    (case l14 => k_is)
    (case c14 => k_is)
    (case k14 => k_is)
    (case a15 => k_is)
    (case l15 => k_is)
    (case c15 => k_is)
    (case k15 => k_is)
    (case a16 => k_is)
    (case l16 => k_is)
    (case c16 => k_is)
    (case k16 => k_is)
    (case a17 => k_is)
    (case i17 => k_is)
    (case l17 => k_is)
    (case c17 => k_is)
    (case k17 => k_is)
    (case a18 => k_is)
    (case i18 => k_is)
    (case l18 => k_is)
    (case c18 => k_is)
    (case k18 => k_is)
    (case a19 => k_is)
    (case i19 => k_is)
    (case l19 => k_is)
    (case c19 => k_is)
    (case k19 => k_is)
    (case a20 => k_is)
    (case i20 => k_is)
    (case l20 => k_is)
    (case c20 => k_is)
    (case k20 => k_is)
    (case a21 => k_is)
    (case i21 => k_is)
    (case l21 => k_is)
    (case c21 => k_is)
    (case k21 => k_is)
    (case a22 => k_is)
    (case i22 => k_is)
    (case l22 => k_is)
    (case c22 => k_is)
    (case k22 => k_is)
    (case a23 => k_is)
    (case i23 => k_is)
    (case l23 => k_is)
    (case c23 => k_is)
    (case k23 => k_is)
    (case a24 => k_is)
    (case l24 => k_is)
    (case c24 => k_is)
    (case k24 => k_is)
    (case a25 => k_is)
    (case l25 => k_is)
    (case c25 => k_is)
    (case k25 => k_is)
    (case a26 => k_is)
    (case l26 => k_is)
    (case c26 => k_is)
    (case k26 => k_is)
    (case a27 => k_is)
    (case l27 => k_is)
    (case c27 => k_is)
    (case k27 => k_is)
    (case a28 => k_is)
    (case l28 => k_is)
    (case c28 => k_is)
    (case k28 => k_is)
    (case a29 => k_is)
    (case l29 => k_is)
    (case c29 => k_is)
    (case k29 => k_is)
    (case a30 => k_is)
    (case l30 => k_is)
    (case c30 => k_is)
    (case k30 => k_is)
    (case a31 => k_is)
    (case l31 => k_is)
    (case c31 => k_is)
    (case k31 => k_is)
    (case a32 => k_is)
    (case l32 => k_is)
    (case c32 => k_is)
    (case k32 => k_is)
    (case a33 => k_is)
    (case l33 => k_is)
    (case c33 => k_is)
    (case k33 => k_is)
    (case a34 => k_is)
    (case l34 => k_is)
    (case c34 => k_is)
    (case k34 => k_is)
    (case a35 => k_is)
    (case l35 => k_is)
    (case c35 => k_is)
    (case k35 => k_is)
    (case a36 => k_is)
    (case l36 => k_is)
    (case c36 => k_is)
    (case k36 => k_is)
    (case a37 => k_is)
    (case l37 => k_is)
    (case c37 => k_is)
    (case k37 => k_is)
    (case a38 => k_is)
    (case l38 => k_is)
    (case c38 => k_is)
    (case k38 => k_is)
    (case a39 => k_is)
    (case l39 => k_is)
    (case c39 => k_is)
    (case k39 => k_is)
    (case a40 => k_is)
    (case l40 => k_is)
    (case c40 => k_is)
    (case k40 => k_is)
    (case a41 => k_is)
    (case i41 => k_is)
    (case l41 => k_is)
    (case c41 => k_is)
    (case k41 => k_is)
    (case a42 => k_is)
    (case i42 => k_is)
    (case l42 => k_is)
    (case c42 => k_is)
    (case k42 => k_is)
    (case a43 => k_is)
    (case i43 => k_is)
    (case l43 => k_is)
    (case c43 => k_is)
    (case k43 => k_is)
    (case a44 => k_is)
    (case i44 => k_is)
    (case l44 => k_is)
    (case c44 => k_is)
    (case k44 => k_is)
    (case a45 => k_is)
    (case i45 => k_is)
    (case l45 => k_is)
    (case c45 => k_is)
    (case k45 => k_is)
    (case a46 => k_is)
    (case i46 => k_is)
    (case l46 => k_is)
    (case c46 => k_is)
    (case k46 => k_is)
    (case a47 => k_is)
    (case i47 => k_is)
    (case l47 => k_is)
    (case c47 => k_is)
    (case k47 => k_is)
    (case a48 => k_is)
    (case i48 => k_is)
    (case l48 => k_is)
    (case c48 => k_is)
    (case k48 => k_is)
    (case a49 => k_is)
    (case i49 => k_is)
    (case l49 => k_is)
    (case c49 => k_is)
    (case k49 => k_is)
    (case a50 => k_is)
    (case i50 => k_is)
    (case l50 => k_is)
    (case c50 => k_is)
    (case k50 => k_is)
    (case a51 => k_is)
    (case i51 => k_is)
    (case l51 => k_is)
    (case c51 => k_is)
    (case k51 => k_is)
    (case a52 => k_is)
    (case i52 => k_is)
    (case l52 => k_is)
    (case c52 => k_is)
    (case k52 => k_is)
    (case a53 => k_is)
    (case i53 => k_is)
    (case l53 => k_is)
    (case c53 => k_is)
    (case k53 => k_is)
    (case a54 => k_is)
    (case i54 => k_is)
    (case l54 => k_is)
    (case c54 => k_is)
    (case k54 => k_is)
    (case a55 => k_is)
    (case i55 => k_is)
    (case l55 => k_is)
    (case c55 => k_is)
    (case k55 => k_is)
    (case a56 => k_is)
    (case i56 => k_is)
    (case l56 => k_is)
    (case c56 => k_is)
    (case k56 => k_is)
    (case a57 => k_is)
    (case i57 => k_is)
    (case l57 => k_is)
    (case c57 => k_is)
    (case k57 => k_is)
    (case a58 => k_is)
    (case l58 => k_is)
    (case c58 => k_is)
    (case k58 => k_is)
    (case a59 => k_is)
    (case l59 => k_is)
    (case c59 => k_is)
    (case k59 => k_is)
    (case a60 => k_is)
    (case l60 => k_is)
    (case c60 => k_is)
    (case k60 => k_is)
    (case pg_Kinds => k_is)
    (case hd_Kinds => k_is)
    (case po_Kinds => k_is)
    (case sa_Kinds => k_is)
    (case mk_Kinds => k_is)
    (case kc_Kinds => k_is)
    (case n_Kinds_atoms => k_is)
    (case n_Kinds_total => k_is)
    (case n_Kinds_insides => k_is)
    (case pg_Question => k_is)
    (case hd_Question => k_is)
    (case po_Question => k_is)
    (case sa_Question => k_is)
    (case mk_Question => k_is)
    (case kc_Question => k_is)
    (case n_Question_axioms => k_is)
    (case n_Question_concept => k_is)
    (case n_Question_atoms => k_is)
    (case pg_House => k_is)
    (case hd_House => k_is)
    (case po_House => k_is)
    (case sa_House => k_is)
    (case mk_House => k_is)
    (case kc_House => k_is)
    (case n_House_axioms => k_is)
    (case pg_Reader => k_is)
    (case hd_Reader => k_is)
    (case po_Reader => k_is)
    (case sa_Reader => k_is)
    (case mk_Reader => k_is)
    (case kc_Reader => k_is)
    (case n_Reader_numbers => k_is)
    (case n_Reader_place => k_is)
  case S =>
    intro K H0 H xs a e0 hT hwi hask hx
    cases hx with
    | cons h1 h2 =>
      cases h2
      cases h1 with
      | lst hs ha =>
        have e := L2.ints_dw a.1 _ ha
        subst e
        have q : ((Codec.inLen 0 25000 a.1 && a.1.all (Codec.inInt 0 4294967295)) && true) = true := hwi
        rw [Bool.and_eq_true, Bool.and_eq_true] at q
        have hn : ∀ x ∈ a.1, 0 ≤ x := fun x hx => by
          have z := List.all_eq_true.mp q.1.2 x hx
          exact (Codec.inInt_iff.mp z).1
        obtain ⟨ncs, z1, z2, z3, z4, z5⟩ := Bk.asked_calls hn hask
        refine ⟨_, Bk.nats a.1, ncs, rfl, Bk.zt_tabs hT, by rw [← Bk.int_nat hn]; exact Evl.ex_l e0 hs, z1, fun c hc => Bk.fine_of (z2 c hc), ?_, fun H' p hp => .lst (L2.SqL.of hp) ?_⟩
        · rw [z4] at z5
          exact z5
        · have e2 : Bk.full [] ncs = PyOc12.answers a.1 := z4.symm
          rw [e2]
          exact L2.dw_ints _
#print axioms PySem.Challenge.cw_believedkinds_s01_answers_holds

