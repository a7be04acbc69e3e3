import PyProof.Rows.All
import Wide.All
import OpenK.AllK
import Wide.FinOn
import Open.SpecLaws
import KE.OsGo
import HandS.ForSpec
import HandS.TryMany
import HandS.TupAny
import HandS.Conv
import HandS.Deep
import HandS.Comp
import HandS.Iter
import HandS.Walk
import HandS.Text
import HandS.Style
import PySem.Challenge.RW_conceptaxioms_s01_answers
set_option Elab.async false
set_option linter.all false
set_option maxRecDepth 100000
set_option maxHeartbeats 8000000
/-! ## CxEnc -/
namespace Cx
open Oc (C)
/-! ### The notation: a concept as its numbers -/
def enc : C → List Nat
  | .top => [0]
  | .bot => [1]
  | .name a => [2, a]
  | .and c d => 3 :: (enc c ++ enc d)
  | .or c d => 4 :: (enc c ++ enc d)
  | .not c => 5 :: enc c
  | .some r c => 6 :: r :: enc c
  | .all r c => 7 :: r :: enc c
def okc : C → Prop
  | .top => True
  | .bot => True
  | .name a => a < 4
  | .and c d => okc c ∧ okc d
  | .or c d => okc c ∧ okc d
  | .not c => okc c
  | .some r c => r < 2 ∧ okc c
  | .all r c => r < 2 ∧ okc c
theorem enc_pos (c : C) : 0 < (enc c).length := by
  cases c <;> simp [enc]
theorem enc_inj : ∀ (c d : C) (r s : List Nat), enc c ++ r = enc d ++ s → c = d ∧ r = s := by
  intro c
  induction c with
  | top => intro d r s h; cases d <;> simp_all [enc]
  | bot => intro d r s h; cases d <;> simp_all [enc]
  | name a => intro d r s h; cases d <;> simp_all [enc]
  | and a b ia ib =>
    intro d r s h
    cases d <;> simp [enc] at h
    rename_i a' b'
    obtain ⟨e1, e2⟩ := ia _ _ _ h
    obtain ⟨e3, e4⟩ := ib _ _ _ e2
    subst e1 e3 e4
    exact ⟨rfl, rfl⟩
  | or a b ia ib =>
    intro d r s h
    cases d <;> simp [enc] at h
    rename_i a' b'
    obtain ⟨e1, e2⟩ := ia _ _ _ h
    obtain ⟨e3, e4⟩ := ib _ _ _ e2
    subst e1 e3 e4
    exact ⟨rfl, rfl⟩
  | not a ia =>
    intro d r s h
    cases d <;> simp [enc] at h
    obtain ⟨e1, e2⟩ := ia _ _ _ h
    subst e1 e2
    exact ⟨rfl, rfl⟩
  | some k a ia =>
    intro d r s h
    cases d <;> simp [enc] at h
    obtain ⟨e0, h⟩ := h
    obtain ⟨e1, e2⟩ := ia _ _ _ h
    subst e0 e1 e2
    exact ⟨rfl, rfl⟩
  | all k a ia =>
    intro d r s h
    cases d <;> simp [enc] at h
    obtain ⟨e0, h⟩ := h
    obtain ⟨e1, e2⟩ := ia _ _ _ h
    subst e0 e1 e2
    exact ⟨rfl, rfl⟩
theorem enc_eq {c d : C} (h : enc c = enc d) : c = d := (enc_inj c d [] [] (by simpa using h)).1
/-! ### Reading -/
theorem read_sound : ∀ (n : Nat) (l : List Nat) (c : C) (r : List Nat), Oc.read n l = some (c, r) → l = enc c ++ r ∧ okc c := by
  intro n
  induction n with
  | zero => intro l c r h; simp [Oc.read] at h
  | succ n ih =>
    intro l c r h
    unfold Oc.read at h
    split at h
    · cases h; simp [enc, okc]
    · cases h; simp [enc, okc]
    · rename_i a t
      by_cases ha : a < Oc.NAMES
      · rw [if_pos ha] at h
        cases h
        exact ⟨by simp [enc], ha⟩
      · rw [if_neg ha] at h; cases h
    · rename_i t
      cases h1 : Oc.read n t with
      | none => rw [h1] at h; cases h
      | some x =>
        obtain ⟨x1, x2⟩ := x
        rw [h1] at h
        cases h2 : Oc.read n x2 with
        | none => simp only [h2] at h; cases h
        | some y =>
          obtain ⟨y1, y2⟩ := y
          simp only [h2] at h
          cases h
          obtain ⟨e1, o1⟩ := ih _ _ _ h1
          obtain ⟨e2, o2⟩ := ih _ _ _ h2
          exact ⟨by rw [e1, e2]; simp [enc], o1, o2⟩
    · rename_i t
      cases h1 : Oc.read n t with
      | none => rw [h1] at h; cases h
      | some x =>
        obtain ⟨x1, x2⟩ := x
        rw [h1] at h
        cases h2 : Oc.read n x2 with
        | none => simp only [h2] at h; cases h
        | some y =>
          obtain ⟨y1, y2⟩ := y
          simp only [h2] at h
          cases h
          obtain ⟨e1, o1⟩ := ih _ _ _ h1
          obtain ⟨e2, o2⟩ := ih _ _ _ h2
          exact ⟨by rw [e1, e2]; simp [enc], o1, o2⟩
    · rename_i t
      cases h1 : Oc.read n t with
      | none => rw [h1] at h; cases h
      | some x =>
        obtain ⟨x1, x2⟩ := x
        rw [h1] at h
        cases h
        obtain ⟨e1, o1⟩ := ih _ _ _ h1
        exact ⟨by rw [e1]; simp [enc], o1⟩
    · rename_i k t
      by_cases ha : k < Oc.ROLES
      · rw [if_pos ha] at h
        cases h1 : Oc.read n t with
        | none => rw [h1] at h; cases h
        | some x =>
          obtain ⟨x1, x2⟩ := x
          rw [h1] at h
          cases h
          obtain ⟨e1, o1⟩ := ih _ _ _ h1
          exact ⟨by rw [e1]; simp [enc], ha, o1⟩
      · rw [if_neg ha] at h; cases h
    · rename_i k t
      by_cases ha : k < Oc.ROLES
      · rw [if_pos ha] at h
        cases h1 : Oc.read n t with
        | none => rw [h1] at h; cases h
        | some x =>
          obtain ⟨x1, x2⟩ := x
          rw [h1] at h
          cases h
          obtain ⟨e1, o1⟩ := ih _ _ _ h1
          exact ⟨by rw [e1]; simp [enc], ha, o1⟩
      · rw [if_neg ha] at h; cases h
    · cases h
theorem read_enc : ∀ (c : C) (n : Nat) (r : List Nat), okc c → (enc c).length ≤ n → Oc.read n (enc c ++ r) = some (c, r) := by
  intro c
  induction c with
  | top => intro n r _ hn; obtain ⟨n, rfl⟩ : ∃ m, n = m + 1 := ⟨n - 1, by simp [enc] at hn; omega⟩; simp [enc, Oc.read]
  | bot => intro n r _ hn; obtain ⟨n, rfl⟩ : ∃ m, n = m + 1 := ⟨n - 1, by simp [enc] at hn; omega⟩; simp [enc, Oc.read]
  | name a => intro n r ho hn; obtain ⟨n, rfl⟩ : ∃ m, n = m + 1 := ⟨n - 1, by simp [enc] at hn; omega⟩; simp [enc, Oc.read]; exact ho
  | and a b ia ib =>
    intro n r ho hn
    simp [enc] at hn
    obtain ⟨n, rfl⟩ : ∃ m, n = m + 1 := ⟨n - 1, by omega⟩
    have e1 := ia n (enc b ++ r) ho.1 (by omega)
    have e2 := ib n r ho.2 (by omega)
    simp [enc, Oc.read, e1, e2]
  | or a b ia ib =>
    intro n r ho hn
    simp [enc] at hn
    obtain ⟨n, rfl⟩ : ∃ m, n = m + 1 := ⟨n - 1, by omega⟩
    have e1 := ia n (enc b ++ r) ho.1 (by omega)
    have e2 := ib n r ho.2 (by omega)
    simp [enc, Oc.read, e1, e2]
  | not a ia =>
    intro n r ho hn
    simp [enc] at hn
    obtain ⟨n, rfl⟩ : ∃ m, n = m + 1 := ⟨n - 1, by omega⟩
    have e1 := ia n r ho (by omega)
    simp [enc, Oc.read, e1]
  | some k a ia =>
    intro n r ho hn
    simp [enc] at hn
    obtain ⟨n, rfl⟩ : ∃ m, n = m + 1 := ⟨n - 1, by omega⟩
    have e1 := ia n r ho.2 (by omega)
    have hk : k < Oc.ROLES := ho.1
    simp [enc, Oc.read, e1, hk]
  | all k a ia =>
    intro n r ho hn
    simp [enc] at hn
    obtain ⟨n, rfl⟩ : ∃ m, n = m + 1 := ⟨n - 1, by omega⟩
    have e1 := ia n r ho.2 (by omega)
    have hk : k < Oc.ROLES := ho.1
    simp [enc, Oc.read, e1, hk]
theorem concept_iff {l : List Nat} {c : C} : Oc.concept l = some c ↔ l = enc c ∧ okc c := by
  unfold Oc.concept
  constructor
  · intro h
    split at h
    · rename_i c' he
      cases h
      obtain ⟨e, o⟩ := read_sound _ _ _ _ he
      exact ⟨by simpa using e, o⟩
    · cases h
  · rintro ⟨rfl, o⟩
    have e := read_enc c ((enc c).length + 1) [] o (by omega)
    rw [List.append_nil] at e
    rw [e]
theorem two_iff {l : List Nat} {c d : C} : Oc.two l = some (c, d) ↔ l = enc c ++ enc d ∧ okc c ∧ okc d := by
  unfold Oc.two
  constructor
  · intro h
    split at h
    · rename_i c' r he
      obtain ⟨e, o⟩ := read_sound _ _ _ _ he
      cases h2 : Oc.concept r with
      | none => rw [h2] at h; cases h
      | some d' =>
        rw [h2] at h
        cases h
        obtain ⟨e2, o2⟩ := concept_iff.mp h2
        exact ⟨by rw [e, e2], o, o2⟩
    · cases h
  · rintro ⟨rfl, o, o2⟩
    have e := read_enc c ((enc c ++ enc d).length + 1) (enc d) o (by simp; omega)
    rw [e]
    simp only [concept_iff.mpr ⟨rfl, o2⟩, Option.map]
/-- l is m concepts, then r -/
def Many : Nat → List Nat → List Nat → Prop
  | 0, l, r => l = r
  | m + 1, l, r => ∃ c s, okc c ∧ l = enc c ++ s ∧ Many m s r
def parts (h : Nat) : Nat := [0, 0, 0, 2, 2, 1, 1, 1].getD h 0
def choices (h : Nat) : Nat := [0, 0, 4, 0, 0, 0, 2, 2].getD h 0
/-- how many numbers stand ahead of the parts -/
def hlen : List Nat → Option Nat
  | [] => none
  | h :: t => if 8 ≤ h then none else if choices h = 0 then some 1 else match t with
    | [] => none
    | a :: _ => if choices h ≤ a then none else some 2
theorem hlen_cons (h : Nat) (t : List Nat) : hlen (h :: t) = if 8 ≤ h then none else if choices h = 0 then some 1 else match t with
    | [] => none
    | a :: _ => if choices h ≤ a then none else some 2 := rfl
theorem many_add (m k : Nat) : ∀ (l s r : List Nat), Many m l s → Many k s r → Many (m + k) l r := by
  induction m with
  | zero => intro l s r h1 h2; cases h1; rw [Nat.zero_add]; exact h2
  | succ m ih =>
    intro l s r h1 h2
    obtain ⟨c, u, o, e, h⟩ := h1
    rw [show m + 1 + k = (m + k) + 1 by omega]
    exact ⟨c, u, o, e, ih _ _ _ h h2⟩
theorem many_len (m : Nat) : ∀ (l r : List Nat), Many m l r → ∃ p, l = p ++ r ∧ m ≤ p.length := by
  induction m with
  | zero => intro l r h; exact ⟨[], h, by simp⟩
  | succ m ih =>
    intro l r h
    obtain ⟨c, s, o, e, h⟩ := h
    obtain ⟨p, e2, hp⟩ := ih _ _ h
    refine ⟨enc c ++ p, by rw [e, e2, List.append_assoc], ?_⟩
    have := enc_pos c
    simp; omega
theorem many_step {l : List Nat} {k : Nat} (h : hlen l = some k) (m : Nat) (r : List Nat) : Many (m + 1) l r ↔ Many (m + parts (l.getD 0 0)) (l.drop k) r := by
  match l, h with
  | h0 :: t, h =>
    rw [hlen_cons] at h
    by_cases h8 : 8 ≤ h0
    · rw [if_pos h8] at h; cases h
    · rw [if_neg h8] at h
      match h0, h8, h with
      | 0, _, h =>
        simp [choices] at h; subst h
        constructor
        · rintro ⟨c, s, o, e, hm⟩
          cases c <;> simp [enc] at e
          subst e; exact hm
        · intro hm; exact ⟨.top, t, trivial, rfl, hm⟩
      | 1, _, h =>
        simp [choices] at h; subst h
        constructor
        · rintro ⟨c, s, o, e, hm⟩
          cases c <;> simp [enc] at e
          subst e; exact hm
        · intro hm; exact ⟨.bot, t, trivial, rfl, hm⟩
      | 2, _, h =>
        match t, h with
        | [], h => simp [choices] at h
        | a :: t, h =>
          simp [choices] at h
          obtain ⟨ha, h⟩ := h
          subst h
          constructor
          · rintro ⟨c, s, o, e, hm⟩
            cases c <;> simp [enc] at e
            obtain ⟨e1, e2⟩ := e
            subst e1 e2; exact hm
          · intro hm; exact ⟨.name a, t, ha, rfl, hm⟩
      | 3, _, h =>
        simp [choices] at h; subst h
        constructor
        · rintro ⟨c, s, o, e, hm⟩
          cases c <;> simp [enc] at e
          rename_i c d
          exact ⟨c, _, o.1, e, d, s, o.2, rfl, hm⟩
        · rintro ⟨c, _, o, e, d, s, o2, rfl, hm⟩
          exact ⟨.and c d, s, ⟨o, o2⟩, by have e' : t = _ := e; rw [e']; simp [enc], hm⟩
      | 4, _, h =>
        simp [choices] at h; subst h
        constructor
        · rintro ⟨c, s, o, e, hm⟩
          cases c <;> simp [enc] at e
          rename_i c d
          exact ⟨c, _, o.1, e, d, s, o.2, rfl, hm⟩
        · rintro ⟨c, _, o, e, d, s, o2, rfl, hm⟩
          exact ⟨.or c d, s, ⟨o, o2⟩, by have e' : t = _ := e; rw [e']; simp [enc], hm⟩
      | 5, _, h =>
        simp [choices] at h; subst h
        constructor
        · rintro ⟨c, s, o, e, hm⟩
          cases c <;> simp [enc] at e
          rename_i c
          exact ⟨c, _, o, e, hm⟩
        · rintro ⟨c, s, o, e, hm⟩
          exact ⟨.not c, s, o, by have e' : t = _ := e; rw [e']; simp [enc], hm⟩
      | 6, _, h =>
        match t, h with
        | [], h => simp [choices] at h
        | a :: t, h =>
          simp [choices] at h
          obtain ⟨ha, h⟩ := h
          subst h
          constructor
          · rintro ⟨c, s, o, e, hm⟩
            cases c <;> simp [enc] at e
            rename_i k c
            exact ⟨c, s, o.2, e.2, hm⟩
          · rintro ⟨c, s, o, e, hm⟩
            exact ⟨.some a c, s, ⟨ha, o⟩, by have e' : t = _ := e; rw [e']; simp [enc], hm⟩
      | 7, _, h =>
        match t, h with
        | [], h => simp [choices] at h
        | a :: t, h =>
          simp [choices] at h
          obtain ⟨ha, h⟩ := h
          subst h
          constructor
          · rintro ⟨c, s, o, e, hm⟩
            cases c <;> simp [enc] at e
            rename_i k c
            exact ⟨c, s, o.2, e.2, hm⟩
          · rintro ⟨c, s, o, e, hm⟩
            exact ⟨.all a c, s, ⟨ha, o⟩, by have e' : t = _ := e; rw [e']; simp [enc], hm⟩
      | n + 8, h8, _ => omega
theorem many_none {l : List Nat} (h : hlen l = none) (m : Nat) (r : List Nat) : ¬ Many (m + 1) l r := by
  rintro ⟨c, s, o, rfl, _⟩
  cases c <;> simp [enc, hlen, choices, okc] at h o <;> omega
theorem hlen_le {l : List Nat} {k : Nat} (h : hlen l = some k) : 0 < k ∧ k ≤ l.length := by
  match l, h with
  | h0 :: t, h =>
    rw [hlen_cons] at h
    by_cases h8 : 8 ≤ h0
    · rw [if_pos h8] at h; cases h
    · rw [if_neg h8] at h
      by_cases h9 : choices h0 = 0
      · rw [if_pos h9] at h; cases h; simp
      · rw [if_neg h9] at h
        match t, h with
        | a :: t, h =>
          by_cases h10 : choices h0 ≤ a
          · simp [if_pos h10] at h
          · simp [if_neg h10] at h; subst h; simp
end Cx
/-! ## CxSubs -/
namespace Cx
open Oc (C)
/-! ### The concepts inside a concept, in order, and where they begin -/
def kids : C → List C
  | .top => []
  | .bot => []
  | .name _ => []
  | .and c d => [c, d]
  | .or c d => [c, d]
  | .not c => [c]
  | .some _ c => [c]
  | .all _ c => [c]
def subs : C → List C
  | .top => [.top]
  | .bot => [.bot]
  | .name a => [.name a]
  | .and c d => .and c d :: (subs c ++ subs d)
  | .or c d => .or c d :: (subs c ++ subs d)
  | .not c => .not c :: subs c
  | .some r c => .some r c :: subs c
  | .all r c => .all r c :: subs c
def hl : C → Nat
  | .top => 1
  | .bot => 1
  | .name _ => 2
  | .and _ _ => 1
  | .or _ _ => 1
  | .not _ => 1
  | .some _ _ => 2
  | .all _ _ => 2
def offs : Nat → C → List Nat
  | k, .top => [k]
  | k, .bot => [k]
  | k, .name _ => [k]
  | k, .and c d => k :: (offs (k + 1) c ++ offs (k + 1 + (enc c).length) d)
  | k, .or c d => k :: (offs (k + 1) c ++ offs (k + 1 + (enc c).length) d)
  | k, .not c => k :: offs (k + 1) c
  | k, .some _ c => k :: offs (k + 2) c
  | k, .all _ c => k :: offs (k + 2) c
def encs (cs : List C) : List Nat := cs.flatMap enc
def subsM (cs : List C) : List C := cs.flatMap subs
def offsM : Nat → List C → List Nat
  | _, [] => []
  | k, c :: cs => offs k c ++ offsM (k + (enc c).length) cs
theorem subs_eq (c : C) : subs c = c :: subsM (kids c) := by
  cases c <;> simp [subs, subsM, kids]
theorem offsM_append (k : Nat) (cs ds : List C) : offsM k (cs ++ ds) = offsM k cs ++ offsM (k + (encs cs).length) ds := by
  induction cs generalizing k with
  | nil => simp [offsM, encs]
  | cons c cs ih => simp [offsM, encs, ih, Nat.add_assoc]
theorem offs_eq (k : Nat) (c : C) : offs k c = k :: offsM (k + hl c) (kids c) := by
  cases c <;> simp [offs, offsM, kids, hl]
theorem enc_drop (c : C) (r : List Nat) : (enc c ++ r).drop (hl c) = encs (kids c) ++ r := by
  cases c <;> simp [enc, hl, encs, kids]
theorem enc_len (c : C) : (enc c).length = hl c + (encs (kids c)).length := by
  cases c <;> simp [enc, hl, encs, kids] <;> omega
theorem enc_hlen (c : C) (o : okc c) (r : List Nat) : hlen (enc c ++ r) = some (hl c) := by
  cases c <;> simp [enc, hl, okc] at * <;> simp [hlen_cons, choices] <;> omega
theorem kids_ok {c : C} (o : okc c) : ∀ d ∈ kids c, okc d := by
  cases c <;> simp [kids, okc] at * <;> simp [o]
theorem subs_ok {c : C} (o : okc c) : ∀ d ∈ subs c, okc d := by
  induction c with
  | top => intro d h; simp [subs] at h; subst h; exact o
  | bot => intro d h; simp [subs] at h; subst h; exact o
  | name a => intro d h; simp [subs] at h; subst h; exact o
  | and a b ia ib => intro d h; simp [subs] at h; rcases h with rfl | h | h; exact o; exact ia o.1 d h; exact ib o.2 d h
  | or a b ia ib => intro d h; simp [subs] at h; rcases h with rfl | h | h; exact o; exact ia o.1 d h; exact ib o.2 d h
  | not a ia => intro d h; simp [subs] at h; rcases h with rfl | h; exact o; exact ia o d h
  | some k a ia => intro d h; simp [subs] at h; rcases h with rfl | h; exact o; exact ia o.2 d h
  | all k a ia => intro d h; simp [subs] at h; rcases h with rfl | h; exact o; exact ia o.2 d h
theorem offs_len (c : C) : ∀ k, (offs k c).length = (subs c).length := by
  induction c with
  | top => intro k; rfl
  | bot => intro k; rfl
  | name a => intro k; rfl
  | and a b ia ib => intro k; simp [offs, subs, ia, ib]
  | or a b ia ib => intro k; simp [offs, subs, ia, ib]
  | not a ia => intro k; simp [offs, subs, ia]
  | some k a ia => intro k; simp [offs, subs, ia]
  | all k a ia => intro k; simp [offs, subs, ia]
theorem subs_len (c : C) : (subs c).length ≤ (enc c).length := by
  induction c with
  | top => simp [subs, enc]
  | bot => simp [subs, enc]
  | name a => simp [subs, enc]
  | and a b ia ib => simp [subs, enc]; omega
  | or a b ia ib => simp [subs, enc]; omega
  | not a ia => simp [subs, enc]; omega
  | some k a ia => simp [subs, enc]; omega
  | all k a ia => simp [subs, enc]; omega
/-- at place s of l stands x -/
def At (l : List Nat) (s : Nat) (x : C) : Prop := s ≤ l.length ∧ ∃ r, l.drop s = enc x ++ r
theorem at_offs (l : List Nat) (c : C) : ∀ k, At l k c → ∀ (i s : Nat) (x : C), (offs k c)[i]? = some s → (subs c)[i]? = some x → At l s x := by
  have two : ∀ (c d : C), (∀ k, At l k c → ∀ (i s : Nat) (x : C), (offs k c)[i]? = some s → (subs c)[i]? = some x → At l s x) → (∀ k, At l k d → ∀ (i s : Nat) (x : C), (offs k d)[i]? = some s → (subs d)[i]? = some x → At l s x) →
      ∀ (k : Nat) (r : List Nat), k ≤ l.length → l.drop k = enc c ++ (enc d ++ r) → ∀ (i s : Nat) (x : C), (offs k c ++ offs (k + (enc c).length) d)[i]? = some s → (subs c ++ subs d)[i]? = some x → At l s x := by
    intro c d hc hd k r hk e i s x h1 h2
    by_cases hi : i < (subs c).length
    · rw [List.getElem?_append_left (by rw [offs_len]; exact hi)] at h1
      rw [List.getElem?_append_left hi] at h2
      exact hc k ⟨hk, _, e⟩ i s x h1 h2
    · rw [List.getElem?_append_right (by rw [offs_len]; omega), offs_len] at h1
      rw [List.getElem?_append_right (by omega)] at h2
      have hl : (l.drop k).length = (enc c ++ (enc d ++ r)).length := by rw [e]
      simp at hl
      refine hd (k + (enc c).length) ⟨by omega, r, ?_⟩ _ s x h1 h2
      rw [← List.drop_drop, e, List.drop_left]
  have self : ∀ (c : C) k s x, At l k c → (k : Nat) = s → c = x → At l s x := fun c k s x h e1 e2 => by subst e1 e2; exact h
  induction c with
  | top => intro k h i s x h1 h2; cases i <;> simp [offs, subs] at h1 h2; exact self _ _ _ _ h h1 h2
  | bot => intro k h i s x h1 h2; cases i <;> simp [offs, subs] at h1 h2; exact self _ _ _ _ h h1 h2
  | name a => intro k h i s x h1 h2; cases i <;> simp [offs, subs] at h1 h2; exact self _ _ _ _ h h1 h2
  | and a b ia ib =>
    intro k h i s x h1 h2
    cases i with
    | zero => simp [offs, subs] at h1 h2; exact self _ _ _ _ h h1 h2
    | succ i =>
      obtain ⟨hk, r, e⟩ := h
      have hl : (l.drop k).length = (enc (.and a b) ++ r).length := by rw [e]
      simp [enc] at hl
      exact two a b ia ib (k + 1) r (by omega) (by rw [← List.drop_drop, e]; simp [enc]) i s x (by simpa [offs] using h1) (by simpa [subs] using h2)
  | or a b ia ib =>
    intro k h i s x h1 h2
    cases i with
    | zero => simp [offs, subs] at h1 h2; exact self _ _ _ _ h h1 h2
    | succ i =>
      obtain ⟨hk, r, e⟩ := h
      have hl : (l.drop k).length = (enc (.or a b) ++ r).length := by rw [e]
      simp [enc] at hl
      exact two a b ia ib (k + 1) r (by omega) (by rw [← List.drop_drop, e]; simp [enc]) i s x (by simpa [offs] using h1) (by simpa [subs] using h2)
  | not a ia =>
    intro k h i s x h1 h2
    cases i with
    | zero => simp [offs, subs] at h1 h2; exact self _ _ _ _ h h1 h2
    | succ i =>
      obtain ⟨hk, r, e⟩ := h
      have hl : (l.drop k).length = (enc (.not a) ++ r).length := by rw [e]
      simp [enc] at hl
      exact ia (k + 1) ⟨by omega, r, by rw [← List.drop_drop, e]; simp [enc]⟩ i s x (by simpa [offs] using h1) (by simpa [subs] using h2)
  | some q a ia =>
    intro k h i s x h1 h2
    cases i with
    | zero => simp [offs, subs] at h1 h2; exact self _ _ _ _ h h1 h2
    | succ i =>
      obtain ⟨hk, r, e⟩ := h
      have hl : (l.drop k).length = (enc (.some q a) ++ r).length := by rw [e]
      simp [enc] at hl
      exact ia (k + 2) ⟨by omega, r, by rw [← List.drop_drop, e]; simp [enc]⟩ i s x (by simpa [offs] using h1) (by simpa [subs] using h2)
  | all q a ia =>
    intro k h i s x h1 h2
    cases i with
    | zero => simp [offs, subs] at h1 h2; exact self _ _ _ _ h h1 h2
    | succ i =>
      obtain ⟨hk, r, e⟩ := h
      have hl : (l.drop k).length = (enc (.all q a) ++ r).length := by rw [e]
      simp [enc] at hl
      exact ia (k + 2) ⟨by omega, r, by rw [← List.drop_drop, e]; simp [enc]⟩ i s x (by simpa [offs] using h1) (by simpa [subs] using h2)
/-! ### Atoms -/
def isAtom : C → Bool
  | .name _ => true
  | .some _ _ => true
  | .all _ _ => true
  | _ => false
theorem atoms_eq (c : C) : c.atoms = (subs c).filter isAtom := by
  induction c with
  | top => rfl
  | bot => rfl
  | name a => rfl
  | and a b ia ib => simp [C.atoms, subs, isAtom, ia, ib]
  | or a b ia ib => simp [C.atoms, subs, isAtom, ia, ib]
  | not a ia => simp [C.atoms, subs, isAtom, ia]
  | some k a ia => rw [subs, List.filter_cons_of_pos (by rfl), C.atoms, ia]
  | all k a ia => rw [subs, List.filter_cons_of_pos (by rfl), C.atoms, ia]
def addD (m : List C) (c : C) : List C := if m.contains c = true then m else m ++ [c]
theorem distinct_eq (l : List C) : Oc.distinct l = l.foldl addD [] := rfl
theorem mem_addD {m : List C} {c x : C} : x ∈ addD m c ↔ x ∈ m ∨ x = c := by
  unfold addD
  split
  · rename_i h
    simp at h
    constructor
    · exact .inl
    · rintro (h' | rfl)
      · exact h'
      · exact h
  · simp
theorem mem_foldD {l : List C} : ∀ {m : List C} {x : C}, x ∈ l.foldl addD m ↔ x ∈ m ∨ x ∈ l := by
  induction l with
  | nil => intro m x; simp
  | cons a l ih => intro m x; rw [List.foldl_cons, ih, mem_addD]; simp; grind
theorem nodup_addD {m : List C} {c : C} (h : m.Nodup) : (addD m c).Nodup := by
  unfold addD
  split
  · exact h
  · rename_i h'
    simp at h'
    rw [List.nodup_append]
    refine ⟨h, by simp, ?_⟩
    intro a ha b hb
    simp at hb
    subst hb
    intro e
    subst e
    exact h' ha
theorem nodup_foldD {l : List C} : ∀ {m : List C}, m.Nodup → (l.foldl addD m).Nodup := by
  induction l with
  | nil => intro m h; exact h
  | cons a l ih => intro m h; exact ih (nodup_addD h)
theorem mem_distinct {l : List C} {x : C} : x ∈ Oc.distinct l ↔ x ∈ l := by
  rw [distinct_eq, mem_foldD]; simp
theorem nodup_distinct {l : List C} : (Oc.distinct l).Nodup := by
  rw [distinct_eq]; exact nodup_foldD List.nodup_nil
theorem addD_len (m : List C) (c : C) : (addD m c).length ≤ m.length + 1 := by
  unfold addD; split <;> simp
theorem foldD_len (l : List C) : ∀ m, (l.foldl addD m).length ≤ m.length + l.length := by
  induction l with
  | nil => intro m; simp
  | cons a l ih => intro m; have := ih (addD m a); have := addD_len m a; simp; omega
theorem atomsOf_eq (cs : List C) : Oc.atomsOf cs = ((subsM cs).filter isAtom).foldl addD [] := by
  unfold Oc.atomsOf
  rw [distinct_eq]
  congr 1
  induction cs with
  | nil => rfl
  | cons c cs ih => simp [subsM, atoms_eq] at ih ⊢; rw [ih]
theorem atoms_trans {c x : C} (h : x ∈ c.atoms) : ∀ y ∈ x.atoms, y ∈ c.atoms := by
  induction c with
  | top => simp [C.atoms] at h
  | bot => simp [C.atoms] at h
  | name a => simp [C.atoms] at h; subst h; intro y hy; exact hy
  | and a b ia ib => simp [C.atoms] at h ⊢; intro y hy; rcases h with h | h; exact .inl (ia h y hy); exact .inr (ib h y hy)
  | or a b ia ib => simp [C.atoms] at h ⊢; intro y hy; rcases h with h | h; exact .inl (ia h y hy); exact .inr (ib h y hy)
  | not a ia => simp [C.atoms] at h ⊢; exact ia h
  | some k a ia => simp only [C.atoms, List.mem_cons] at h ⊢; intro y hy; rcases h with rfl | h; exact List.mem_cons.mp hy; exact .inr (ia h y hy)
  | all k a ia => simp only [C.atoms, List.mem_cons] at h ⊢; intro y hy; rcases h with rfl | h; exact List.mem_cons.mp hy; exact .inr (ia h y hy)
/-! ### A forest is told by its concepts in order -/
theorem subsM_cons (c : C) (cs : List C) : subsM (c :: cs) = c :: (subsM (kids c) ++ subsM cs) := by
  show subs c ++ subsM cs = _
  rw [subs_eq]; rfl
theorem subsM_inj : ∀ (n : Nat) (cs ds : List C), (subsM cs).length ≤ n → subsM cs = subsM ds → cs = ds := by
  intro n
  induction n with
  | zero =>
    intro cs ds hn h
    cases cs with
    | cons c cs => rw [subsM_cons] at hn; simp at hn
    | nil => cases ds with
      | nil => rfl
      | cons d ds => rw [subsM_cons] at h; simp [subsM] at h
  | succ n ih =>
    intro cs ds hn h
    cases cs with
    | nil => cases ds with
      | nil => rfl
      | cons d ds => rw [subsM_cons] at h; simp [subsM] at h
    | cons c cs => cases ds with
      | nil => rw [subsM_cons] at h; simp [subsM] at h
      | cons d ds =>
        rw [subsM_cons, subsM_cons] at h
        obtain ⟨e, h⟩ := List.cons.inj h
        subst e
        rw [ih cs ds (by rw [subsM_cons] at hn; simp at hn; omega) (List.append_cancel_left h)]
theorem forest_drop : ∀ (c : C) (k : Nat) (x : C), (subs c)[k]? = some x → ∃ cs, (subs c).drop k = subs x ++ subsM cs := by
  have two : ∀ (a b : C), (∀ k x, (subs a)[k]? = some x → ∃ cs, (subs a).drop k = subs x ++ subsM cs) → (∀ k x, (subs b)[k]? = some x → ∃ cs, (subs b).drop k = subs x ++ subsM cs) →
      ∀ k x, (subs a ++ subs b)[k]? = some x → ∃ cs, (subs a ++ subs b).drop k = subs x ++ subsM cs := by
    intro a b ia ib k x h
    by_cases hk : k < (subs a).length
    · rw [List.getElem?_append_left hk] at h
      obtain ⟨cs, e⟩ := ia k x h
      refine ⟨cs ++ [b], ?_⟩
      rw [List.drop_append_of_le_length (by omega), e]
      simp [subsM]
    · rw [List.getElem?_append_right (by omega)] at h
      obtain ⟨cs, e⟩ := ib _ x h
      refine ⟨cs, ?_⟩
      rw [List.drop_append, List.drop_eq_nil_of_le (by omega), List.nil_append, e]
  intro c
  induction c with
  | top => intro k x h; cases k <;> simp [subs] at h; subst h; exact ⟨[], by simp [subs, subsM]⟩
  | bot => intro k x h; cases k <;> simp [subs] at h; subst h; exact ⟨[], by simp [subs, subsM]⟩
  | name a => intro k x h; cases k <;> simp [subs] at h; subst h; exact ⟨[], by simp [subs, subsM]⟩
  | and a b ia ib =>
    intro k x h
    cases k with
    | zero => simp [subs] at h; subst h; exact ⟨[], by simp [subsM]⟩
    | succ k => simpa [subs] using two a b ia ib k x (by simpa [subs] using h)
  | or a b ia ib =>
    intro k x h
    cases k with
    | zero => simp [subs] at h; subst h; exact ⟨[], by simp [subsM]⟩
    | succ k => simpa [subs] using two a b ia ib k x (by simpa [subs] using h)
  | not a ia =>
    intro k x h
    cases k with
    | zero => simp [subs] at h; subst h; exact ⟨[], by simp [subsM]⟩
    | succ k => simpa [subs] using ia k x (by simpa [subs] using h)
  | some q a ia =>
    intro k x h
    cases k with
    | zero => simp [subs] at h; subst h; exact ⟨[], by simp [subsM]⟩
    | succ k => simpa [subs] using ia k x (by simpa [subs] using h)
  | all q a ia =>
    intro k x h
    cases k with
    | zero => simp [subs] at h; subst h; exact ⟨[], by simp [subsM]⟩
    | succ k => simpa [subs] using ia k x (by simpa [subs] using h)
/-- one turn from right to left: the forest behind place k begins with the parts of the concept at k -/
theorem forest_turn {c x : C} {k : Nat} {cs : List C} (hx : (subs c)[k]? = some x) (h : (subs c).drop (k + 1) = subsM cs) : ∃ ds, cs = kids x ++ ds ∧ (subs c).drop k = subsM (x :: ds) := by
  obtain ⟨ds, e⟩ := forest_drop c k x hx
  refine ⟨ds, ?_, by rw [e]; rfl⟩
  have e2 : (subs c).drop (k + 1) = subsM (kids x ++ ds) := by
    rw [← List.drop_drop, e, subs_eq]
    show List.drop 1 (x :: (subsM (kids x) ++ subsM ds)) = _
    simp [subsM]
  rw [h] at e2
  exact subsM_inj _ _ _ (Nat.le_refl _) e2
end Cx
/-! ## CxBits -/
namespace Cx
open Oc (C)
/-! ### Groups of kinds as numbers -/
/-- the group of the kinds below n of which p is true -/
def gof (p : Nat → Bool) : Nat → Nat
  | 0 => 0
  | n + 1 => if p n = true then gof p n ||| 2 ^ n else gof p n
theorem gof_bit (p : Nat → Bool) (n i : Nat) : (gof p n).testBit i = (decide (i < n) && p i) := by
  induction n with
  | zero => simp [gof]
  | succ n ih =>
    unfold gof
    by_cases h : p n = true
    · rw [if_pos h, Nat.testBit_or, ih, Nat.testBit_two_pow]
      by_cases h1 : i = n
      · subst h1; simp [h]
      · have h2 : ¬ n = i := fun e => h1 e.symm
        simp [h2]
        by_cases h3 : i < n
        · have : i < n + 1 := by omega
          simp [h3, this]
        · have : ¬ i < n + 1 := by omega
          simp [h3, this]
    · rw [if_neg h, ih]
      by_cases h1 : i = n
      · subst h1; simp [h]
      · by_cases h3 : i < n
        · have : i < n + 1 := by omega
          simp [h3, this]
        · have : ¬ i < n + 1 := by omega
          simp [h3, this]
theorem gof_lt (p : Nat → Bool) (n : Nat) : gof p n < 2 ^ n := by
  apply Nat.lt_pow_two_of_testBit
  intro i hi
  rw [gof_bit]
  have : ¬ i < n := by omega
  simp [this]
theorem gof_ext {p q : Nat → Bool} {n : Nat} : gof p n = gof q n ↔ ∀ t, t < n → p t = q t := by
  constructor
  · intro h t ht
    have e := congrArg (fun x => x.testBit t) h
    simp only [gof_bit, ht, decide_true, Bool.true_and] at e
    exact e
  · intro h
    apply Nat.eq_of_testBit_eq
    intro i
    rw [gof_bit, gof_bit]
    by_cases hi : i < n
    · rw [h i hi]
    · simp [hi]
theorem gof_zero {p : Nat → Bool} {n : Nat} : gof p n = 0 ↔ ∀ t, t < n → p t = false := by
  constructor
  · intro h t ht
    have e := congrArg (fun x => x.testBit t) h
    simp only [gof_bit, ht, decide_true, Bool.true_and, Nat.zero_testBit] at e
    exact e
  · intro h
    apply Nat.eq_of_testBit_eq
    intro i
    rw [gof_bit]
    by_cases hi : i < n
    · rw [h i hi]; simp
    · simp [hi]
theorem gof_and (p q : Nat → Bool) (n : Nat) : gof p n &&& gof q n = gof (fun t => p t && q t) n := by
  apply Nat.eq_of_testBit_eq
  intro i
  rw [Nat.testBit_and, gof_bit, gof_bit, gof_bit]
  by_cases h : i < n <;> simp [h]
theorem gof_or (p q : Nat → Bool) (n : Nat) : gof p n ||| gof q n = gof (fun t => p t || q t) n := by
  apply Nat.eq_of_testBit_eq
  intro i
  rw [Nat.testBit_or, gof_bit, gof_bit, gof_bit]
  by_cases h : i < n <;> simp [h]
theorem gof_every (n : Nat) : gof (fun _ => true) n = 2 ^ n - 1 := by
  apply Nat.eq_of_testBit_eq
  intro i
  rw [gof_bit, Nat.testBit_two_pow_sub_one]
  simp
theorem gof_not (p : Nat → Bool) (n : Nat) : (2 ^ n - 1) ^^^ gof p n = gof (fun t => !p t) n := by
  rw [← gof_every]
  apply Nat.eq_of_testBit_eq
  intro i
  rw [Nat.testBit_xor, gof_bit, gof_bit, gof_bit]
  by_cases h : i < n <;> simp [h]
theorem gof_none (n : Nat) : gof (fun _ => false) n = 0 := gof_zero.mpr fun _ _ => rfl
theorem bit_eq (m k : Nat) : Oc.bit m k = m.testBit k := by
  unfold Oc.bit
  rw [Nat.testBit_eq_decide_div_mod_eq]
  rfl
/-! ### What a kind demands, wants, permits -/
def isR : C → Bool
  | .some _ _ => true
  | .all _ _ => true
  | _ => false
def rl : C → Nat
  | .some r _ => r
  | .all r _ => r
  | _ => 0
def dmd (at_ : List C) (t : Nat) : C → Bool
  | .some r c => Oc.holds at_ t (.some r c)
  | .all r c => !Oc.holds at_ t (.all r c)
  | _ => false
def wnt (at_ : List C) (u : Nat) : C → Bool
  | .some _ c => Oc.holds at_ u c
  | .all _ c => !Oc.holds at_ u c
  | _ => false
theorem fits_eq (at_ : List C) (r t u : Nat) : Oc.fits at_ r t u = at_.all fun x => !(isR x && rl x == r && !dmd at_ t x && wnt at_ u x) := by
  unfold Oc.fits
  congr 1
  funext x
  cases x with
  | top => rfl
  | bot => rfl
  | name a => rfl
  | and a b => rfl
  | or a b => rfl
  | not a => rfl
  | some s c =>
    show (s != r || (Oc.holds at_ t (.some s c) || !Oc.holds at_ u c)) = !(true && s == r && !Oc.holds at_ t (.some s c) && Oc.holds at_ u c)
    cases h : (s == r) <;> cases Oc.holds at_ t (.some s c) <;> cases Oc.holds at_ u c <;> simp [bne, h]
  | all s c =>
    show (s != r || (!Oc.holds at_ t (.all s c) || Oc.holds at_ u c)) = !(true && s == r && !(!Oc.holds at_ t (.all s c)) && !Oc.holds at_ u c)
    cases h : (s == r) <;> cases Oc.holds at_ t (.all s c) <;> cases Oc.holds at_ u c <;> simp [bne, h]
theorem borne_eq (at_ : List C) (l : List Nat) (t : Nat) : Oc.borne at_ l t = at_.all fun x => !(isR x && dmd at_ t x) || l.any fun u => Oc.fits at_ (rl x) t u && wnt at_ u x := by
  unfold Oc.borne
  congr 1
  funext x
  cases x with
  | top => rfl
  | bot => rfl
  | name a => rfl
  | and a b => rfl
  | or a b => rfl
  | not a => rfl
  | some s c => rfl
  | all s c =>
    show (Oc.holds at_ t (.all s c) || _) = (!(true && !Oc.holds at_ t (.all s c)) || _)
    cases Oc.holds at_ t (.all s c) <;> rfl
theorem needs_eq (at_ : List C) (l : List Nat) (t : Nat) : Oc01.needs at_ l t = at_.filterMap fun x => if (isR x && dmd at_ t x) = true then (l.find? fun u => Oc.fits at_ (rl x) t u && wnt at_ u x).map fun u => (rl x, u) else none := by
  unfold Oc01.needs
  congr 1
  funext x
  cases x with
  | top => rfl
  | bot => rfl
  | name a => rfl
  | and a b => rfl
  | or a b => rfl
  | not a => rfl
  | some s c =>
    show (if Oc.holds at_ t (.some s c) = true then _ else none) = (if (true && Oc.holds at_ t (.some s c)) = true then _ else none)
    cases Oc.holds at_ t (.some s c) <;> rfl
  | all s c =>
    show (if Oc.holds at_ t (.all s c) = false then _ else none) = (if (true && !Oc.holds at_ t (.all s c)) = true then _ else none)
    cases Oc.holds at_ t (.all s c) <;> rfl
/-! ### The possible kinds -/
/-- the kinds below n of which p is true, in order -/
def lst (p : Nat → Bool) (n : Nat) : List Nat := (List.range n).filter p
theorem mem_lst {p : Nat → Bool} {n t : Nat} : t ∈ lst p n ↔ t < n ∧ p t = true := by
  unfold lst; rw [List.mem_filter, List.mem_range]
theorem lst_filter (p q : Nat → Bool) (n : Nat) : (lst p n).filter q = lst (fun t => p t && q t) n := by
  unfold lst
  rw [List.filter_filter]
  congr 1
  funext t
  rw [Bool.and_comm]
theorem lst_len (p : Nat → Bool) (n : Nat) : (lst p n).length ≤ n := by
  have := List.length_filter_le p (List.range n)
  unfold lst
  rw [List.length_range] at this
  exact this
theorem lst_congr {p q : Nat → Bool} {n : Nat} (h : ∀ t, t < n → p t = q t) : lst p n = lst q n := by
  unfold lst
  apply List.filter_congr
  intro t ht
  exact h t (List.mem_range.mp ht)
theorem lst_inj {p q : Nat → Bool} {n : Nat} (h : lst p n = lst q n) : ∀ t, t < n → p t = q t := by
  intro t ht
  have h1 : t ∈ lst p n ↔ t ∈ lst q n := by rw [h]
  rw [mem_lst, mem_lst] at h1
  cases hp : p t <;> cases hq : q t <;> simp_all
theorem len_eq_of_filter {l : List Nat} {q : Nat → Bool} (h : (l.filter q).length = l.length) : l.filter q = l :=
  List.Sublist.eq_of_length List.filter_sublist h
theorem settle_fuel (at_ : List C) : ∀ (k : Nat) (l : List Nat) (n m : Nat), l.length ≤ k → l.length < n → l.length < m → Oc.settle at_ n l = Oc.settle at_ m l := by
  intro k
  induction k with
  | zero =>
    intro l n m hk hn hm
    have e : l = [] := List.length_eq_zero_iff.mp (by omega)
    subst e
    cases n with
    | zero => simp at hn
    | succ n => cases m with
      | zero => simp at hm
      | succ m => rfl
  | succ k ih =>
    intro l n m hk hn hm
    cases n with
    | zero => omega
    | succ n => cases m with
      | zero => omega
      | succ m =>
        show (if (l.filter (Oc.borne at_ l)).length = l.length then l else Oc.settle at_ n (l.filter (Oc.borne at_ l))) = (if (l.filter (Oc.borne at_ l)).length = l.length then l else Oc.settle at_ m (l.filter (Oc.borne at_ l)))
        by_cases h : (l.filter (Oc.borne at_ l)).length = l.length
        · rw [if_pos h, if_pos h]
        · rw [if_neg h, if_neg h]
          have := List.length_filter_le (Oc.borne at_ l) l
          exact ih _ _ _ (by omega) (by omega) (by omega)
/-- one pass -/
def sup (at_ : List C) (n : Nat) (p : Nat → Bool) (t : Nat) : Bool := p t && Oc.borne at_ (lst p n) t
theorem sup_lst (at_ : List C) (n : Nat) (p : Nat → Bool) : (lst p n).filter (Oc.borne at_ (lst p n)) = lst (sup at_ n p) n := lst_filter _ _ _
/-- what is settled from p on -/
def Settles (at_ : List C) (n : Nat) (p : Nat → Bool) (T : List Nat) : Prop := ∀ m, (lst p n).length < m → Oc.settle at_ m (lst p n) = T
theorem settles_same {at_ : List C} {n : Nat} {p : Nat → Bool} {T : List Nat} (h : Settles at_ n p T) (e : ∀ t, t < n → sup at_ n p t = p t) : T = lst p n := by
  rw [← h ((lst p n).length + 1) (by omega)]
  show (if ((lst p n).filter (Oc.borne at_ (lst p n))).length = (lst p n).length then lst p n else _) = _
  rw [if_pos (by rw [sup_lst, lst_congr e])]
theorem settles_next {at_ : List C} {n : Nat} {p : Nat → Bool} {T : List Nat} (h : Settles at_ n p T) (e : ¬ ∀ t, t < n → sup at_ n p t = p t) : Settles at_ n (sup at_ n p) T ∧ (lst (sup at_ n p) n).length < (lst p n).length := by
  have hne : ¬ (lst (sup at_ n p) n).length = (lst p n).length := by
    intro hl
    rw [← sup_lst] at hl
    have := len_eq_of_filter hl
    rw [sup_lst] at this
    exact e (lst_inj this)
  have hle : (lst (sup at_ n p) n).length ≤ (lst p n).length := by rw [← sup_lst]; exact List.length_filter_le _ _
  refine ⟨fun m hm => ?_, by omega⟩
  have h1 := h ((lst p n).length + 1) (by omega)
  rw [← h1]
  have h2 : Oc.settle at_ ((lst p n).length + 1) (lst p n) = Oc.settle at_ (lst p n).length (lst (sup at_ n p) n) := by
    show (if ((lst p n).filter (Oc.borne at_ (lst p n))).length = (lst p n).length then lst p n else Oc.settle at_ (lst p n).length ((lst p n).filter (Oc.borne at_ (lst p n)))) = _
    rw [if_neg (by rw [sup_lst]; exact hne), sup_lst]
  rw [h2]
  exact settle_fuel at_ _ _ _ _ (Nat.le_refl _) hm (by omega)
theorem settles_types (at_ : List C) (ax : List Oc.Axiom) : Settles at_ (2 ^ at_.length) (Oc.keeps at_ ax) (Oc.types at_ ax) := by
  intro m hm
  have := lst_len (Oc.keeps at_ ax) (2 ^ at_.length)
  exact settle_fuel at_ _ _ _ _ (Nat.le_refl _) hm (by show (lst (Oc.keeps at_ ax) (2 ^ at_.length)).length < _; omega)
/-! ### Concepts over the atoms -/
theorem idx_some {at_ : List C} (hn : at_.Nodup) {k : Nat} {x : C} (h : at_[k]? = some x) : at_.idxOf? x = some k := by
  rw [List.idxOf?_eq_some_iff]
  obtain ⟨hk, e⟩ := List.getElem?_eq_some_iff.mp h
  refine ⟨hk, e, fun j hj => ?_⟩
  intro hjx
  rw [← e] at hjx
  have := (List.getElem_inj hn).mp hjx
  omega
theorem holds_atom {at_ : List C} (hn : at_.Nodup) {k : Nat} {x : C} (h : at_[k]? = some x) (ha : isAtom x = true) (t : Nat) : Oc.holds at_ t x = t.testBit k := by
  have hi := idx_some hn h
  cases x <;> simp [isAtom] at ha
  · rename_i a
    show (match at_.idxOf? (.name a) with | some k => Oc.bit t k | none => false) = _
    rw [hi]; exact bit_eq t k
  · rename_i r c
    show (match at_.idxOf? (.some r c) with | some k => Oc.bit t k | none => false) = _
    rw [hi]; exact bit_eq t k
  · rename_i r c
    show (match at_.idxOf? (.all r c) with | some k => Oc.bit t k | none => false) = _
    rw [hi]; exact bit_eq t k
/-- the group of the kinds in which x holds -/
def grp (at_ : List C) (x : C) : Nat := gof (fun t => Oc.holds at_ t x) (2 ^ at_.length)
end Cx
/-! ## CxPerm -/
namespace Cx
open Oc (C)
/-! ### The possible kinds are the largest good set; the order of the atoms does not matter -/
def Good (at_ : List C) (ax : List Oc.Axiom) (S : List Nat) : Prop := ∀ t ∈ S, t < 2 ^ at_.length ∧ Oc.keeps at_ ax t = true ∧ Oc.borne at_ S t = true
theorem borne_mono {at_ : List C} {S l : List Nat} (h : ∀ t ∈ S, t ∈ l) {t : Nat} (hb : Oc.borne at_ S t = true) : Oc.borne at_ l t = true := by
  rw [borne_eq, List.all_eq_true] at hb ⊢
  intro x hx
  have := hb x hx
  rw [Bool.or_eq_true] at this ⊢
  rcases this with h1 | h1
  · exact .inl h1
  · right
    rw [List.any_eq_true] at h1 ⊢
    obtain ⟨u, hu, e⟩ := h1
    exact ⟨u, h u hu, e⟩
theorem settle_max {at_ : List C} {S : List Nat} : ∀ (n : Nat) (l : List Nat), (∀ t ∈ S, t ∈ l) → (∀ t ∈ S, Oc.borne at_ S t = true) → ∀ t ∈ S, t ∈ Oc.settle at_ n l := by
  intro n
  induction n with
  | zero => intro l h _ t ht; exact h t ht
  | succ n ih =>
    intro l h hb t ht
    show t ∈ (if (l.filter (Oc.borne at_ l)).length = l.length then l else Oc.settle at_ n (l.filter (Oc.borne at_ l)))
    by_cases c : (l.filter (Oc.borne at_ l)).length = l.length
    · rw [if_pos c]; exact h t ht
    · rw [if_neg c]
      refine ih _ (fun u hu => ?_) hb t ht
      rw [List.mem_filter]
      exact ⟨h u hu, borne_mono h (hb u hu)⟩
theorem settle_borne {at_ : List C} : ∀ (n : Nat) (l : List Nat), l.length < n → ∀ t ∈ Oc.settle at_ n l, t ∈ l ∧ Oc.borne at_ (Oc.settle at_ n l) t = true := by
  intro n
  induction n with
  | zero => intro l h; omega
  | succ n ih =>
    intro l h t ht
    have e : Oc.settle at_ (n + 1) l = (if (l.filter (Oc.borne at_ l)).length = l.length then l else Oc.settle at_ n (l.filter (Oc.borne at_ l))) := rfl
    by_cases c : (l.filter (Oc.borne at_ l)).length = l.length
    · rw [if_pos c] at e
      rw [e] at ht ⊢
      refine ⟨ht, ?_⟩
      have e2 := len_eq_of_filter c
      rw [← e2] at ht
      exact (List.mem_filter.mp ht).2
    · rw [if_neg c] at e
      rw [e] at ht ⊢
      have hl := List.length_filter_le (Oc.borne at_ l) l
      obtain ⟨h1, h2⟩ := ih _ (by omega) t ht
      exact ⟨(List.mem_filter.mp h1).1, h2⟩
theorem types_good (at_ : List C) (ax : List Oc.Axiom) : Good at_ ax (Oc.types at_ ax) := by
  intro t ht
  have hl : ((List.range (2 ^ at_.length)).filter (Oc.keeps at_ ax)).length < 2 ^ at_.length + 1 := by
    have := lst_len (Oc.keeps at_ ax) (2 ^ at_.length)
    show (lst (Oc.keeps at_ ax) (2 ^ at_.length)).length < _
    omega
  obtain ⟨h1, h2⟩ := settle_borne (at_ := at_) _ _ hl t ht
  obtain ⟨h3, h4⟩ := List.mem_filter.mp h1
  exact ⟨List.mem_range.mp h3, h4, h2⟩
theorem types_max {at_ : List C} {ax : List Oc.Axiom} {S : List Nat} (h : Good at_ ax S) : ∀ t ∈ S, t ∈ Oc.types at_ ax := by
  refine settle_max _ _ (fun t ht => ?_) (fun t ht => (h t ht).2.2)
  rw [List.mem_filter]
  exact ⟨List.mem_range.mpr (h t ht).1, (h t ht).2.1⟩
/-- at_ holds whatever is an atom of x -/
def Cov (at_ : List C) (x : C) : Prop := ∀ y ∈ x.atoms, y ∈ at_
/-- the atoms' list: no atom twice, atoms alone, and with an atom what stands in it -/
structure Atl (at_ : List C) : Prop where
  nd : at_.Nodup
  ia : ∀ x ∈ at_, isAtom x = true
  cov : ∀ x ∈ at_, Cov at_ x
theorem atl_of (cs : List C) : Atl (Oc.atomsOf cs) := by
  refine ⟨nodup_distinct, fun x hx => ?_, fun x hx y hy => ?_⟩
  · obtain ⟨c, hc, hx⟩ := List.mem_flatMap.mp (mem_distinct.mp hx)
    rw [atoms_eq] at hx
    exact (List.mem_filter.mp hx).2
  · obtain ⟨c, hc, hx⟩ := List.mem_flatMap.mp (mem_distinct.mp hx)
    exact mem_distinct.mpr (List.mem_flatMap.mpr ⟨c, hc, atoms_trans hx y hy⟩)
theorem cov_of {cs : List C} {c : C} (h : c ∈ cs) : Cov (Oc.atomsOf cs) c := fun y hy => mem_distinct.mpr (List.mem_flatMap.mpr ⟨c, h, hy⟩)
/-- a kind over other atoms -/
def tr (at_ at2 : List C) (t : Nat) : Nat := gof (fun k => Oc.holds at_ t (at2.getD k .top)) at2.length
theorem tr_lt (at_ at2 : List C) (t : Nat) : tr at_ at2 t < 2 ^ at2.length := gof_lt _ _
theorem holds_tr_atom {at_ at2 : List C} (A2 : Atl at2) {x : C} (hx : x ∈ at2) (t : Nat) : Oc.holds at2 (tr at_ at2 t) x = Oc.holds at_ t x := by
  obtain ⟨k, hk, e⟩ := List.getElem_of_mem hx
  have hk2 : at2[k]? = some x := by rw [List.getElem?_eq_getElem hk, e]
  rw [holds_atom A2.nd hk2 (A2.ia x hx), tr, gof_bit]
  have : at2.getD k .top = x := by rw [List.getD_eq_getElem?_getD, hk2]; rfl
  rw [this]; simp [hk]
theorem holds_tr {at_ at2 : List C} (A2 : Atl at2) (t : Nat) : ∀ x : C, Cov at2 x → Oc.holds at2 (tr at_ at2 t) x = Oc.holds at_ t x := by
  intro x
  induction x with
  | top => intro _; rfl
  | bot => intro _; rfl
  | name a => intro h; exact holds_tr_atom A2 (h _ (by simp [Oc.C.atoms])) t
  | and a b ia ib =>
    intro h
    show (_ && _) = (_ && _)
    rw [ia fun y hy => h y (by simp [Oc.C.atoms, hy]), ib fun y hy => h y (by simp [Oc.C.atoms, hy])]
  | or a b ia ib =>
    intro h
    show (_ || _) = (_ || _)
    rw [ia fun y hy => h y (by simp [Oc.C.atoms, hy]), ib fun y hy => h y (by simp [Oc.C.atoms, hy])]
  | not a ia =>
    intro h
    show (!_) = (!_)
    rw [ia fun y hy => h y (by simpa [Oc.C.atoms] using hy)]
  | some r c _ => intro h; exact holds_tr_atom A2 (h _ (by simp [Oc.C.atoms])) t
  | all r c _ => intro h; exact holds_tr_atom A2 (h _ (by simp [Oc.C.atoms])) t
/-- of a restriction that is an atom: itself and what stands in it -/
theorem dmd_tr {at_ at2 : List C} (A2 : Atl at2) (t : Nat) {x : C} (hx : x ∈ at2) : dmd at2 (tr at_ at2 t) x = dmd at_ t x := by
  have := holds_tr_atom (at_ := at_) A2 hx t
  cases x <;> simp [dmd] <;> exact this
theorem wnt_tr {at_ at2 : List C} (A2 : Atl at2) (u : Nat) {x : C} (hx : x ∈ at2) : wnt at2 (tr at_ at2 u) x = wnt at_ u x := by
  have hc := A2.cov x hx
  cases x with
  | some r c => exact holds_tr A2 u c fun y hy => hc y (by simp [Oc.C.atoms, hy])
  | all r c =>
    show (!_) = (!_)
    rw [holds_tr A2 u c fun y hy => hc y (by simp [Oc.C.atoms, hy])]
  | _ => rfl
theorem all_same {at_ at2 : List C} (h : ∀ x, x ∈ at_ ↔ x ∈ at2) {p q : C → Bool} (hp : ∀ x ∈ at2, p x = q x) : at2.all p = at_.all q := by
  rw [Bool.eq_iff_iff, List.all_eq_true, List.all_eq_true]
  constructor
  · intro a x hx; rw [← hp x ((h x).mp hx)]; exact a x ((h x).mp hx)
  · intro a x hx; rw [hp x hx]; exact a x ((h x).mpr hx)
theorem fits_tr {at_ at2 : List C} (A2 : Atl at2) (h : ∀ x, x ∈ at_ ↔ x ∈ at2) (r t u : Nat) : Oc.fits at2 r (tr at_ at2 t) (tr at_ at2 u) = Oc.fits at_ r t u := by
  rw [fits_eq, fits_eq]
  exact all_same h fun x hx => by rw [dmd_tr A2 t hx, wnt_tr A2 u hx]
theorem good_tr {at_ at2 : List C} (A2 : Atl at2) (h : ∀ x, x ∈ at_ ↔ x ∈ at2) {ax : List Oc.Axiom} (hax : ∀ a ∈ ax, Cov at2 a.1 ∧ Cov at2 a.2) {S : List Nat} (g : Good at_ ax S) : Good at2 ax (S.map (tr at_ at2)) := by
  intro t' ht'
  obtain ⟨t, ht, rfl⟩ := List.mem_map.mp ht'
  obtain ⟨_, g2, g3⟩ := g t ht
  refine ⟨tr_lt _ _ _, ?_, ?_⟩
  · unfold Oc.keeps at g2 ⊢
    rw [List.all_eq_true] at g2 ⊢
    intro a ha
    rw [holds_tr A2 t _ (hax a ha).1, holds_tr A2 t _ (hax a ha).2]
    exact g2 a ha
  · rw [borne_eq] at g3 ⊢
    rw [← g3]
    refine all_same h fun x hx => ?_
    rw [dmd_tr A2 t hx, List.any_map]
    congr 1
    refine congrArg (fun f => List.any S f) (funext fun u => ?_)
    show (Oc.fits at2 (rl x) (tr at_ at2 t) (tr at_ at2 u) && wnt at2 (tr at_ at2 u) x) = _
    rw [fits_tr A2 h, wnt_tr A2 u hx]
theorem can_le {at_ at2 : List C} (A2 : Atl at2) (h : ∀ x, x ∈ at_ ↔ x ∈ at2) {ax : List Oc.Axiom} (hax : ∀ a ∈ ax, Cov at2 a.1 ∧ Cov at2 a.2) {c : C} (hc : Cov at2 c)
    (e : (Oc.types at_ ax).any (fun t => Oc.holds at_ t c) = true) : (Oc.types at2 ax).any (fun t => Oc.holds at2 t c) = true := by
  rw [List.any_eq_true] at e ⊢
  obtain ⟨t, ht, e⟩ := e
  exact ⟨tr at_ at2 t, types_max (good_tr A2 h hax (types_good at_ ax)) _ (List.mem_map.mpr ⟨t, ht, rfl⟩), by rw [holds_tr A2 t c hc]; exact e⟩
theorem can_perm {at_ at2 : List C} (A1 : Atl at_) (A2 : Atl at2) (h : ∀ x, x ∈ at_ ↔ x ∈ at2) {ax : List Oc.Axiom} (hax : ∀ a ∈ ax, Cov at2 a.1 ∧ Cov at2 a.2) {c : C} (hc : Cov at2 c) :
    (Oc.types at_ ax).any (fun t => Oc.holds at_ t c) = (Oc.types at2 ax).any (fun t => Oc.holds at2 t c) := by
  have cv : ∀ {x}, Cov at2 x → Cov at_ x := fun hx y hy => (h y).mpr (hx y hy)
  rw [Bool.eq_iff_iff]
  exact ⟨can_le A2 h hax hc, can_le A1 (fun x => (h x).symm) (fun a ha => ⟨cv (hax a ha).1, cv (hax a ha).2⟩) (cv hc)⟩
/-- under by the atoms that the program takes -/
theorem under_by {at_ : List C} (A : Atl at_) {ax : List Oc.Axiom} {c d : C} (h : ∀ x, x ∈ at_ ↔ x ∈ Oc.atomsFor ax [.and c (.not d)]) :
    Oc.under ax c d = !(Oc.types at_ ax).any fun t => Oc.holds at_ t c && !Oc.holds at_ t d := by
  unfold Oc.under Oc.can
  show (!(Oc.types (Oc.atomsFor ax [.and c (.not d)]) ax).any fun t => Oc.holds (Oc.atomsFor ax [.and c (.not d)]) t (.and c (.not d))) = _
  have hax : ∀ a ∈ ax, Cov (Oc.atomsFor ax [.and c (.not d)]) a.1 ∧ Cov (Oc.atomsFor ax [.and c (.not d)]) a.2 := fun a ha =>
    ⟨cov_of (List.mem_append_left _ (List.mem_flatMap.mpr ⟨a, ha, by simp⟩)), cov_of (List.mem_append_left _ (List.mem_flatMap.mpr ⟨a, ha, by simp⟩))⟩
  have hc : Cov (Oc.atomsFor ax [.and c (.not d)]) (.and c (.not d)) := cov_of (List.mem_append_right _ (by simp))
  have A2 : Atl (Oc.atomsFor ax [.and c (.not d)]) := atl_of _
  have e := can_perm A A2 h hax hc
  exact congrArg (fun b => !b) e.symm
end Cx
/-! ## CxModel -/
namespace Cx
open Oc (C)
/-! ### The reported model -/
/-- the possible kinds as a group -/
def tg (at_ : List C) (ax : List Oc.Axiom) : Nat := gof (fun t => (Oc.types at_ ax).contains t) (2 ^ at_.length)
theorem settle_sub {at_ : List C} : ∀ (n : Nat) (l : List Nat), (Oc.settle at_ n l).Sublist l := by
  intro n
  induction n with
  | zero => intro l; exact List.Sublist.refl _
  | succ n ih =>
    intro l
    show (if (l.filter (Oc.borne at_ l)).length = l.length then l else Oc.settle at_ n (l.filter (Oc.borne at_ l))).Sublist l
    by_cases c : (l.filter (Oc.borne at_ l)).length = l.length
    · rw [if_pos c]; exact List.Sublist.refl _
    · rw [if_neg c]; exact (ih _).trans List.filter_sublist
theorem sub_filter {l m : List Nat} (h : l.Sublist m) (hn : m.Nodup) : m.filter (fun t => l.contains t) = l := by
  induction h with
  | slnil => rfl
  | cons a h ih =>
    rename_i l1 l2
    obtain ⟨h1, h2⟩ := List.nodup_cons.mp hn
    have : l1.contains a = false := by
      rw [← Bool.not_eq_true, List.contains_iff_mem]
      exact fun hm => h1 (h.subset hm)
    rw [List.filter_cons_of_neg (by simpa using this), ih h2]
  | cons_cons a h ih =>
    rename_i l1 l2
    obtain ⟨h1, h2⟩ := List.nodup_cons.mp hn
    rw [List.filter_cons_of_pos (by simp)]
    congr 1
    rw [← ih h2]
    apply List.filter_congr
    intro x hx
    have hne : ¬ x = a := fun e => h1 (e ▸ hx)
    rw [ih h2]
    simp [List.contains_cons, hne]
theorem types_lst (at_ : List C) (ax : List Oc.Axiom) : Oc.types at_ ax = lst (fun t => (Oc.types at_ ax).contains t) (2 ^ at_.length) := by
  have h : (Oc.types at_ ax).Sublist (List.range (2 ^ at_.length)) := (settle_sub _ _).trans List.filter_sublist
  exact (sub_filter h List.nodup_range).symm
theorem types_nodup (at_ : List C) (ax : List Oc.Axiom) : (Oc.types at_ ax).Nodup := by
  have h : (Oc.types at_ ax).Sublist (List.range (2 ^ at_.length)) := (settle_sub _ _).trans List.filter_sublist
  exact h.nodup List.nodup_range
/-- the first kind of a group -/
def First (g k : Nat) : Prop := g.testBit k = true ∧ ∀ j, j < k → g.testBit j = false
theorem find_lst {p q : Nat → Bool} {n k : Nat} (h : (lst p n).find? q = some k) : First (gof (fun t => p t && q t) n) k ∧ k < n ∧ p k = true ∧ q k = true := by
  unfold lst at h
  rw [List.find?_filter] at h
  rw [List.find?_range_eq_some] at h
  obtain ⟨h1, h2, h3⟩ := h
  simp at h1 h2 h3
  refine ⟨⟨?_, fun j hj => ?_⟩, h2, h1.1, h1.2⟩
  · rw [gof_bit]; simp [h1, h2]
  · rw [gof_bit]
    have := h3 j hj
    cases hp : p j <;> simp [hp] at this ⊢
    simp [this]
theorem find_lst_none {p q : Nat → Bool} {n : Nat} (h : (lst p n).find? q = none) : gof (fun t => p t && q t) n = 0 := by
  rw [gof_zero]
  intro t ht
  rw [List.find?_eq_none] at h
  cases hp : p t with
  | false => rfl
  | true =>
    have := h t (mem_lst.mpr ⟨ht, hp⟩)
    simpa using this
/-- what the program keeps of a kind: for each demand its role and the group that supports it -/
def restr (at_ : List C) : List C := at_.filter isR
def supg (at_ : List C) (t : Nat) (x : C) : Nat := gof (fun u => Oc.fits at_ (rl x) t u && wnt at_ u x) (2 ^ at_.length)
def needG (at_ : List C) (t : Nat) : List (Nat × Nat) := ((restr at_).filter (dmd at_ t)).map fun x => (rl x, supg at_ t x)
theorem filterMap_all {α β : Type} (p : α → Bool) (f : α → Option β) (g : α → β) : ∀ l : List α, (∀ x ∈ l, p x = true → f x = some (g x)) → (l.filterMap fun x => if p x = true then f x else none) = (l.filter p).map g
  | [], _ => rfl
  | a :: l, h => by
    have ih := filterMap_all p f g l fun x hx => h x (List.mem_cons_of_mem _ hx)
    by_cases hp : p a = true
    · rw [List.filterMap_cons_some (b := g a) (by rw [if_pos hp]; exact h a List.mem_cons_self hp), List.filter_cons_of_pos hp, ih]; rfl
    · rw [List.filterMap_cons_none (by rw [if_neg hp]), List.filter_cons_of_neg hp, ih]
theorem restr_dmd (at_ : List C) (t : Nat) : (restr at_).filter (dmd at_ t) = at_.filter fun x => isR x && dmd at_ t x := by
  unfold restr
  rw [List.filter_filter]
  congr 1
  funext x
  rw [Bool.and_comm]
/-- the first kind that supports x -/
def fst (at_ : List C) (ax : List Oc.Axiom) (t : Nat) (x : C) : Nat := ((Oc.types at_ ax).find? fun u => Oc.fits at_ (rl x) t u && wnt at_ u x).getD 0
theorem fst_some {at_ : List C} {ax : List Oc.Axiom} {t : Nat} (ht : t ∈ Oc.types at_ ax) {x : C} (hx : x ∈ at_) (hd : (isR x && dmd at_ t x) = true) :
    ((Oc.types at_ ax).find? fun u => Oc.fits at_ (rl x) t u && wnt at_ u x) = some (fst at_ ax t x) := by
  have hb := (types_good at_ ax t ht).2.2
  rw [borne_eq, List.all_eq_true] at hb
  have h1 := hb x hx
  rw [hd, Bool.not_true, Bool.false_or] at h1
  unfold fst
  cases e : (Oc.types at_ ax).find? fun u => Oc.fits at_ (rl x) t u && wnt at_ u x with
  | some k => rfl
  | none =>
    rw [List.find?_eq_none] at e
    rw [List.any_eq_true] at h1
    obtain ⟨u, hu, h2⟩ := h1
    exact absurd h2 (e u hu)
theorem needs_map {at_ : List C} {ax : List Oc.Axiom} {t : Nat} (ht : t ∈ Oc.types at_ ax) : Oc01.needs at_ (Oc.types at_ ax) t = ((restr at_).filter (dmd at_ t)).map fun x => (rl x, fst at_ ax t x) := by
  rw [needs_eq, restr_dmd]
  refine filterMap_all _ _ _ _ fun x hx hd => ?_
  rw [fst_some ht hx hd]; rfl
theorem needs_at {at_ : List C} {ax : List Oc.Axiom} {t : Nat} (ht : t ∈ Oc.types at_ ax) {i r g : Nat} (h : (needG at_ t)[i]? = some (r, g)) :
    ∃ k, (Oc01.needs at_ (Oc.types at_ ax) t)[i]? = some (r, k) ∧ First (g &&& tg at_ ax) k ∧ k ∈ Oc.types at_ ax ∧ k < 2 ^ at_.length := by
  rw [needs_map ht]
  unfold needG at h
  rw [List.getElem?_map] at h ⊢
  cases e : ((restr at_).filter (dmd at_ t))[i]? with
  | none => rw [e] at h; cases h
  | some x =>
    rw [e] at h
    cases h
    have hm : x ∈ (restr at_).filter (dmd at_ t) := List.mem_of_getElem? e
    rw [restr_dmd, List.mem_filter] at hm
    have hs := fst_some ht hm.1 hm.2
    refine ⟨_, rfl, ?_⟩
    rw [types_lst] at hs
    obtain ⟨h1, h2, h3, h4⟩ := find_lst hs
    have e2 : supg at_ t x &&& tg at_ ax = gof (fun u => (Oc.types at_ ax).contains u && (Oc.fits at_ (rl x) t u && wnt at_ u x)) (2 ^ at_.length) := by
      unfold supg tg
      rw [Nat.and_comm, gof_and]
    rw [e2]
    exact ⟨h1, by simpa using h3, h2⟩
theorem needs_len {at_ : List C} {ax : List Oc.Axiom} {t : Nat} (ht : t ∈ Oc.types at_ ax) : (Oc01.needs at_ (Oc.types at_ ax) t).length = (needG at_ t).length := by
  rw [needs_map ht]; unfold needG; rw [List.length_map, List.length_map]
theorem needG_len (at_ : List C) (t : Nat) : (needG at_ t).length ≤ at_.length := by
  unfold needG restr
  rw [List.length_map]
  exact Nat.le_trans (List.length_filter_le _ _) (List.length_filter_le _ _)
/-! once, and what is gathered -/
def add1 (m : List (Nat × Nat)) (x : Nat × Nat) : List (Nat × Nat) := if m.contains x = true then m else m ++ [x]
theorem once_eq (l : List (Nat × Nat)) : Oc01.once l = l.foldl add1 [] := rfl
theorem once_more (l : List (Nat × Nat)) (x : Nat × Nat) : Oc01.once (l ++ [x]) = add1 (Oc01.once l) x := by rw [once_eq, List.foldl_append]; rfl
def addK (m : List Nat) (x : Nat × Nat) : List Nat := if m.contains x.2 = true then m else m ++ [x.2]
theorem mem_add1 {m : List (Nat × Nat)} {c x : Nat × Nat} : x ∈ add1 m c ↔ x ∈ m ∨ x = c := by
  unfold add1
  by_cases h : m.contains c = true
  · rw [if_pos h]
    constructor
    · exact .inl
    · rintro (h1 | rfl)
      · exact h1
      · exact List.contains_iff_mem.mp h
  · rw [if_neg h]; simp
theorem mem_once {l : List (Nat × Nat)} {x : Nat × Nat} : x ∈ Oc01.once l ↔ x ∈ l := by
  rw [once_eq]
  suffices h : ∀ m, x ∈ l.foldl add1 m ↔ x ∈ m ∨ x ∈ l by simpa using h []
  intro m
  induction l generalizing m with
  | nil => simp
  | cons a l ih => rw [List.foldl_cons, ih, mem_add1]; simp [or_assoc]
theorem once_len (l : List (Nat × Nat)) : (Oc01.once l).length ≤ l.length := by
  rw [once_eq]
  suffices h : ∀ m, (l.foldl add1 m).length ≤ m.length + l.length by simpa using h []
  intro m
  induction l generalizing m with
  | nil => simp
  | cons a l ih =>
    rw [List.foldl_cons]
    have := ih (add1 m a)
    have h2 : (add1 m a).length ≤ m.length + 1 := by
      unfold add1
      by_cases h : m.contains a = true
      · rw [if_pos h]; omega
      · rw [if_neg h]; simp
    simp only [List.length_cons]
    omega
theorem mem_addK {m : List Nat} {x : Nat × Nat} {u : Nat} : u ∈ addK m x ↔ u ∈ m ∨ u = x.2 := by
  unfold addK
  by_cases h : m.contains x.2 = true
  · rw [if_pos h]
    constructor
    · exact .inl
    · rintro (h1 | rfl)
      · exact h1
      · exact List.contains_iff_mem.mp h
  · rw [if_neg h]; simp
theorem mem_foldK {l : List (Nat × Nat)} : ∀ {m : List Nat} {u : Nat}, u ∈ l.foldl addK m ↔ u ∈ m ∨ ∃ x ∈ l, u = x.2 := by
  induction l with
  | nil => intro m u; simp
  | cons a l ih => intro m u; rw [List.foldl_cons, ih, mem_addK]; simp [or_assoc]
theorem nodup_foldK {l : List (Nat × Nat)} : ∀ {m : List Nat}, m.Nodup → (l.foldl addK m).Nodup := by
  induction l with
  | nil => intro m h; exact h
  | cons a l ih =>
    intro m h
    rw [List.foldl_cons]
    refine ih ?_
    unfold addK
    by_cases c : m.contains a.2 = true
    · rw [if_pos c]; exact h
    · rw [if_neg c]
      rw [List.nodup_append]
      refine ⟨h, by simp, ?_⟩
      intro x hx y hy e
      simp at hy
      subst hy e
      exact c (List.contains_iff_mem.mpr hx)
theorem foldK_once (l : List (Nat × Nat)) (m : List Nat) : (Oc01.once l).foldl addK m = l.foldl addK m := by
  suffices h : ∀ r : List (Nat × Nat), (Oc01.once r.reverse).foldl addK m = r.reverse.foldl addK m by simpa using h l.reverse
  intro r
  induction r with
  | nil => rfl
  | cons x r ih =>
    rw [List.reverse_cons, once_more, List.foldl_append]
    unfold add1
    by_cases h : (Oc01.once r.reverse).contains x = true
    · rw [if_pos h, ih]
      show _ = addK (r.reverse.foldl addK m) x
      unfold addK
      have hx : x ∈ r.reverse := mem_once.mp (List.contains_iff_mem.mp h)
      rw [if_pos]
      exact List.contains_iff_mem.mpr (mem_foldK.mpr (.inr ⟨x, hx, rfl⟩))
    · rw [if_neg h, List.foldl_append, ih]
/-- what the kind is related to: role and kind, each once -/
def rels (at_ : List C) (ax : List Oc.Axiom) (t : Nat) : List (Nat × Nat) := Oc01.once (Oc01.needs at_ (Oc.types at_ ax) t)
theorem rels_len {at_ : List C} {ax : List Oc.Axiom} {t : Nat} (ht : t ∈ Oc.types at_ ax) : (rels at_ ax t).length ≤ at_.length := by
  have h1 := once_len (Oc01.needs at_ (Oc.types at_ ax) t)
  have h2 := needs_len ht
  have h3 := needG_len at_ t
  unfold rels
  omega
theorem mem_rels {at_ : List C} {ax : List Oc.Axiom} {t : Nat} (ht : t ∈ Oc.types at_ ax) {x : Nat × Nat} (h : x ∈ rels at_ ax t) : x.2 ∈ Oc.types at_ ax := by
  have h1 := mem_once.mp h
  obtain ⟨i, hi, e⟩ := List.getElem_of_mem h1
  have hi2 : i < (needG at_ t).length := by rw [← needs_len ht]; exact hi
  obtain ⟨k, h2, _, h3, _⟩ := needs_at ht (i := i) (r := (needG at_ t)[i].1) (g := (needG at_ t)[i].2) (List.getElem?_eq_getElem hi2)
  rw [List.getElem?_eq_getElem hi] at h2
  have h4 := Option.some.inj h2
  rw [e] at h4
  rw [h4]
  exact h3
/-- the elements: what is gathered from place i on -/
def Gathers (at_ : List C) (ax : List Oc.Axiom) (i : Nat) (w : List Nat) (m : List Nat) : Prop := ∀ n, (Oc.types at_ ax).length < n + i → Oc01.gather at_ (Oc.types at_ ax) n i w = m
structure Els (at_ : List C) (ax : List Oc.Axiom) (w : List Nat) : Prop where
  nd : w.Nodup
  sub : ∀ u ∈ w, u ∈ Oc.types at_ ax
theorem Els.len {at_ : List C} {ax : List Oc.Axiom} {w : List Nat} (h : Els at_ ax w) : w.length ≤ (Oc.types at_ ax).length := List.Nodup.length_le_of_subset h.nd h.sub
theorem types_len (at_ : List C) (ax : List Oc.Axiom) : (Oc.types at_ ax).length ≤ 2 ^ at_.length := by
  rw [types_lst]; exact lst_len _ _
theorem Els.add {at_ : List C} {ax : List Oc.Axiom} {w : List Nat} (h : Els at_ ax w) {t : Nat} (ht : t ∈ Oc.types at_ ax) {j : Nat} : Els at_ ax (((rels at_ ax t).take j).foldl addK w) := by
  refine ⟨nodup_foldK h.nd, fun u hu => ?_⟩
  rcases mem_foldK.mp hu with h1 | ⟨x, hx, rfl⟩
  · exact h.sub u h1
  · exact mem_rels ht (List.mem_of_mem_take hx)
theorem gathers_start {at_ : List C} {ax : List Oc.Axiom} {w : List Nat} : Gathers at_ ax 0 w (Oc01.gather at_ (Oc.types at_ ax) ((Oc.types at_ ax).length + 1) 0 w) ↔ ∀ n, (Oc.types at_ ax).length < n → Oc01.gather at_ (Oc.types at_ ax) n 0 w = Oc01.gather at_ (Oc.types at_ ax) ((Oc.types at_ ax).length + 1) 0 w := Iff.rfl
theorem gather_none {at_ : List C} {l : List Nat} {n i : Nat} {w : List Nat} (h : w[i]? = none) : Oc01.gather at_ l (n + 1) i w = w := by
  show (match w[i]? with | none => w | some t => _) = w
  rw [h]
theorem gather_some {at_ : List C} {l : List Nat} {n i t : Nat} {w : List Nat} (h : w[i]? = some t) : Oc01.gather at_ l (n + 1) i w = Oc01.gather at_ l n (i + 1) ((Oc01.needs at_ l t).foldl addK w) := by
  show (match w[i]? with | none => w | some t => Oc01.gather at_ l n (i + 1) ((Oc01.needs at_ l t).foldl addK w)) = _
  rw [h]
theorem gather_fuel {at_ : List C} {ax : List Oc.Axiom} : ∀ (k n m i : Nat) (w : List Nat), Els at_ ax w → (Oc.types at_ ax).length < n + i → (Oc.types at_ ax).length < m + i → n ≤ k → Oc01.gather at_ (Oc.types at_ ax) n i w = Oc01.gather at_ (Oc.types at_ ax) m i w := by
  intro k
  induction k with
  | zero =>
    intro n m i w h hn hm hk
    have e : n = 0 := by omega
    subst e
    have hw : w[i]? = none := by
      rw [List.getElem?_eq_none_iff]
      have := h.len
      omega
    cases m with
    | zero => rfl
    | succ m => rw [gather_none hw]; rfl
  | succ k ih =>
    intro n m i w h hn hm hk
    cases hw : w[i]? with
    | none =>
      cases n with
      | zero => cases m with
        | zero => rfl
        | succ m => rw [gather_none hw]; rfl
      | succ n => cases m with
        | zero => rw [gather_none hw]; rfl
        | succ m => rw [gather_none hw, gather_none hw]
    | some t =>
      have hi := (List.getElem?_eq_some_iff.mp hw).1
      have hl := h.len
      have ht := h.sub t (List.mem_of_getElem? hw)
      cases n with
      | zero => omega
      | succ n => cases m with
        | zero => omega
        | succ m =>
          rw [gather_some hw, gather_some hw]
          refine ih n m (i + 1) _ ?_ (by omega) (by omega) (by omega)
          rw [← foldK_once]
          have := h.add ht (j := (rels at_ ax t).length)
          rw [List.take_length] at this
          exact this
theorem gathers_init {at_ : List C} {ax : List Oc.Axiom} {w : List Nat} (h : Els at_ ax w) : Gathers at_ ax 0 w (Oc01.gather at_ (Oc.types at_ ax) ((Oc.types at_ ax).length + 1) 0 w) := fun n hn =>
  gather_fuel n n _ 0 w h hn (by omega) (Nat.le_refl _)
theorem gathers_end {at_ : List C} {ax : List Oc.Axiom} {i : Nat} {w m : List Nat} (h : Gathers at_ ax i w m) (hi : w.length ≤ i) : m = w := by
  rw [← h ((Oc.types at_ ax).length + 1) (by omega)]
  exact gather_none (List.getElem?_eq_none hi)
theorem gathers_next {at_ : List C} {ax : List Oc.Axiom} {i t : Nat} {w m : List Nat} (h : Gathers at_ ax i w m) (hw : w[i]? = some t) : Gathers at_ ax (i + 1) ((rels at_ ax t).foldl addK w) m := by
  intro n hn
  rw [← h (n + 1) (by omega), gather_some hw, rels, foldK_once]
end Cx
/-! ## CxTold -/
namespace Cx
open Oc (C)
/-! ### What is told of a model -/
/-- what a name that holds adds -/
def nmv (h : C → Bool) : C → Nat
  | .name a => if h (.name a) = true then 2 ^ a else 0
  | _ => 0
def nmSum (h : C → Bool) (l : List C) : Nat := l.foldl (fun n x => n + nmv h x) 0
theorem nmSum_more (h : C → Bool) (l : List C) (x : C) : nmSum h (l ++ [x]) = nmSum h l + nmv h x := by unfold nmSum; rw [List.foldl_append]; rfl
/-- what name a adds, if it is in the list -/
def nmIn (h : C → Bool) (l : List C) (a : Nat) : Nat := if (.name a ∈ l ∧ h (.name a) = true) then 2 ^ a else 0
theorem nmSum_in (h : C → Bool) : ∀ l : List C, l.Nodup → (∀ x ∈ l, okc x) → nmSum h l = nmIn h l 0 + nmIn h l 1 + nmIn h l 2 + nmIn h l 3 := by
  suffices H : ∀ r : List C, r.reverse.Nodup → (∀ x ∈ r.reverse, okc x) → nmSum h r.reverse = nmIn h r.reverse 0 + nmIn h r.reverse 1 + nmIn h r.reverse 2 + nmIn h r.reverse 3 by
    intro l hn ho
    have := H l.reverse
    rw [List.reverse_reverse] at this
    exact this hn ho
  intro r
  induction r with
  | nil => intro _ _; simp [nmSum, nmIn]
  | cons x r ih =>
    intro hn ho
    rw [List.reverse_cons] at hn ho ⊢
    rw [List.nodup_append] at hn
    obtain ⟨hn1, _, hn2⟩ := hn
    rw [nmSum_more, ih hn1 fun y hy => ho y (List.mem_append_left _ hy)]
    have hx : x ∉ r.reverse := fun hm => hn2 x hm x (by simp) rfl
    have hox := ho x (by simp)
    have key : ∀ a, (∀ e : x = .name a, False) → nmIn h (r.reverse ++ [x]) a = nmIn h r.reverse a := by
      intro a e
      have e1 : (C.name a ∈ r.reverse ++ [x]) = (C.name a ∈ r.reverse) := by
        apply propext
        rw [List.mem_append]
        constructor
        · rintro (q | q)
          · exact q
          · simp at q; exact (e q.symm).elim
        · exact .inl
      unfold nmIn
      simp only [e1]
    have key2 : ∀ a, x = .name a → nmIn h (r.reverse ++ [x]) a = nmv h x ∧ nmIn h r.reverse a = 0 := by
      intro a e
      subst e
      unfold nmIn
      simp [nmv] at hx ⊢
      simp [hx]
    cases x with
    | name a =>
      have ha : a < 4 := hox
      obtain ⟨k1, k2⟩ := key2 a rfl
      rcases (by omega : a = 0 ∨ a = 1 ∨ a = 2 ∨ a = 3) with rfl | rfl | rfl | rfl
      · rw [k1, key 1 (by simp), key 2 (by simp), key 3 (by simp)]; omega
      · rw [k1, key 0 (by simp), key 2 (by simp), key 3 (by simp)]; omega
      · rw [k1, key 0 (by simp), key 1 (by simp), key 3 (by simp)]; omega
      · rw [k1, key 0 (by simp), key 1 (by simp), key 2 (by simp)]; omega
    | _ => rw [key 0 (by simp), key 1 (by simp), key 2 (by simp), key 3 (by simp)]; rfl
theorem holds_name_mem {at_ : List C} {t a : Nat} (h : Oc.holds at_ t (.name a) = true) : C.name a ∈ at_ := by
  have h' : (match at_.idxOf? (.name a) with | some k => Oc.bit t k | none => false) = true := h
  cases e : at_.idxOf? (.name a) with
  | none => rw [e] at h'; cases h'
  | some k =>
    rw [List.idxOf?_eq_some_iff] at e
    obtain ⟨hk, e, _⟩ := e
    rw [← e]; exact List.getElem_mem hk
theorem namesOf_eq {at_ : List C} (hn : at_.Nodup) (ho : ∀ x ∈ at_, okc x) (t : Nat) : nmSum (Oc.holds at_ t) at_ = Oc01.namesOf at_ t := by
  rw [nmSum_in _ _ hn ho]
  have k : ∀ a, nmIn (Oc.holds at_ t) at_ a = if Oc.holds at_ t (.name a) = true then 2 ^ a else 0 := by
    intro a
    unfold nmIn
    by_cases h : Oc.holds at_ t (.name a) = true
    · rw [if_pos h, if_pos ⟨holds_name_mem h, h⟩]
    · rw [if_neg h, if_neg fun q => h q.2]
  rw [k, k, k, k]
  unfold Oc01.namesOf
  show _ = (List.filter (fun a => Oc.holds at_ t (.name a)) [0, 1, 2, 3]).foldl (fun n a => n + 2 ^ a) 0
  simp only [List.filter_cons, List.filter_nil]
  cases Oc.holds at_ t (.name 0) <;> cases Oc.holds at_ t (.name 1) <;> cases Oc.holds at_ t (.name 2) <;> cases Oc.holds at_ t (.name 3) <;> rfl
/-- the concepts handed in are what the notation has: so are the atoms -/
theorem atoms_ok {cs : List C} (h : ∀ c ∈ cs, okc c) : ∀ x ∈ Oc.atomsOf cs, okc x := by
  intro x hx
  obtain ⟨c, hc, hx⟩ := List.mem_flatMap.mp (mem_distinct.mp hx)
  rw [atoms_eq] at hx
  exact subs_ok (h c hc) x (List.mem_filter.mp hx).1
/-! the relations by the elements' places -/
theorem once_map {f : Nat × Nat → Nat × Nat} : ∀ l : List (Nat × Nat), (∀ x ∈ l, ∀ y ∈ l, f x = f y → x = y) → Oc01.once (l.map f) = (Oc01.once l).map f := by
  suffices H : ∀ r : List (Nat × Nat), (∀ x ∈ r, ∀ y ∈ r, f x = f y → x = y) → Oc01.once (r.reverse.map f) = (Oc01.once r.reverse).map f by
    intro l h
    have := H l.reverse (fun x hx y hy => h x (List.mem_reverse.mp hx) y (List.mem_reverse.mp hy))
    rw [List.reverse_reverse] at this
    exact this
  intro r
  induction r with
  | nil => intro _; rfl
  | cons x r ih =>
    intro h
    rw [List.reverse_cons, List.map_append, once_more]
    show Oc01.once (r.reverse.map f ++ [f x]) = _
    rw [once_more, ih fun a ha b hb => h a (List.mem_cons_of_mem _ ha) b (List.mem_cons_of_mem _ hb)]
    unfold add1
    have e : ((Oc01.once r.reverse).map f).contains (f x) = (Oc01.once r.reverse).contains x := by
      rw [Bool.eq_iff_iff, List.contains_iff_mem, List.contains_iff_mem]
      constructor
      · intro hm
        obtain ⟨y, hy, e⟩ := List.mem_map.mp hm
        have hy2 : y ∈ r := List.mem_reverse.mp (mem_once.mp hy)
        rw [← h y (List.mem_cons_of_mem _ hy2) x List.mem_cons_self e]
        exact hy
      · exact fun hm => List.mem_map.mpr ⟨x, hm, rfl⟩
    rw [e]
    by_cases c : (Oc01.once r.reverse).contains x = true
    · rw [if_pos c, if_pos c]
    · rw [if_neg c, if_neg c, List.map_append]; rfl
theorem idx_mem {w : List Nat} {u : Nat} (h : u ∈ w) : w.idxOf? u = some (w.idxOf u) := by
  rw [List.idxOf?_eq_some_iff]
  refine ⟨List.idxOf_lt_length_of_mem h, List.getElem_idxOf _, fun j hj => ?_⟩
  have := List.not_of_lt_findIdx hj
  simpa using this
theorem idx_at {w : List Nat} {u : Nat} (h : u ∈ w) : w[w.idxOf u]? = some u := by
  have h1 := List.idxOf_lt_length_of_mem h
  rw [List.getElem?_eq_getElem h1, List.getElem_idxOf]
theorem idx_inj {w : List Nat} {u v : Nat} (hu : u ∈ w) (hv : v ∈ w) (e : w.idxOf u = w.idxOf v) : u = v := by
  have h1 := idx_at hu
  rw [e, idx_at hv] at h1
  exact (Option.some.inj h1).symm
/-- what is told of the element of kind u -/
def tellE (at_ : List C) (ax : List Oc.Axiom) (w : List Nat) (u : Nat) : List Nat := Oc01.namesOf at_ u :: (rels at_ ax u).length :: (rels at_ ax u).flatMap fun x => [x.1, w.idxOf x.2]
def Clo (at_ : List C) (ax : List Oc.Axiom) (i : Nat) (w : List Nat) : Prop := ∀ j, j < i → ∀ t, w[j]? = some t → ∀ x ∈ rels at_ ax t, x.2 ∈ w
theorem foldK_pre (l : List (Nat × Nat)) : ∀ w : List Nat, ∃ r, l.foldl addK w = w ++ r := by
  induction l with
  | nil => intro w; exact ⟨[], by simp⟩
  | cons a l ih =>
    intro w
    obtain ⟨r, e⟩ := ih (addK w a)
    rw [List.foldl_cons, e]
    unfold addK
    by_cases h : w.contains a.2 = true
    · rw [if_pos h]; exact ⟨r, rfl⟩
    · rw [if_neg h]; exact ⟨[a.2] ++ r, by simp⟩
theorem clo_next {at_ : List C} {ax : List Oc.Axiom} {i t : Nat} {w : List Nat} (h : Clo at_ ax i w) (hw : w[i]? = some t) : Clo at_ ax (i + 1) ((rels at_ ax t).foldl addK w) := by
  intro j hj u hu x hx
  obtain ⟨r, e⟩ := foldK_pre (rels at_ ax t) w
  have hi := (List.getElem?_eq_some_iff.mp hw).1
  have hjw : j < w.length := by omega
  rw [e, List.getElem?_append_left hjw] at hu
  by_cases hji : j = i
  · subst hji
    rw [hw] at hu
    cases hu
    exact mem_foldK.mpr (.inr ⟨x, hx, rfl⟩)
  · exact mem_foldK.mpr (.inl (h j (by omega) u hu x hx))
theorem gather_good {at_ : List C} {ax : List Oc.Axiom} : ∀ (k i : Nat) (w m : List Nat), Gathers at_ ax i w m → Els at_ ax w → Clo at_ ax i w → (Oc.types at_ ax).length < k + i → Els at_ ax m ∧ (∀ t ∈ m, ∀ x ∈ rels at_ ax t, x.2 ∈ m) := by
  intro k
  induction k with
  | zero =>
    intro i w m g h c hk
    have hl := h.len
    have e := gathers_end g (by omega)
    subst e
    refine ⟨h, fun t ht x hx => ?_⟩
    obtain ⟨j, hj, e⟩ := List.getElem_of_mem ht
    exact c j (by omega) t (by rw [List.getElem?_eq_getElem hj, e]) x hx
  | succ k ih =>
    intro i w m g h c hk
    cases hw : w[i]? with
    | none =>
      have hi := List.getElem?_eq_none_iff.mp hw
      have e := gathers_end g hi
      subst e
      refine ⟨h, fun t ht x hx => ?_⟩
      obtain ⟨j, hj, e⟩ := List.getElem_of_mem ht
      exact c j (by omega) t (by rw [List.getElem?_eq_getElem hj, e]) x hx
    | some t =>
      have ht := h.sub t (List.mem_of_getElem? hw)
      have he := h.add ht (j := (rels at_ ax t).length)
      rw [List.take_length] at he
      exact ih (i + 1) _ m (gathers_next g hw) he (clo_next c hw) (by omega)
/-- the elements of the reported model whose first has kind t -/
def els (at_ : List C) (ax : List Oc.Axiom) (t : Nat) : List Nat := Oc01.gather at_ (Oc.types at_ ax) ((Oc.types at_ ax).length + 1) 0 [t]
theorem els_one {at_ : List C} {ax : List Oc.Axiom} {t : Nat} (ht : t ∈ Oc.types at_ ax) : Els at_ ax [t] := ⟨by simp, fun u hu => by simp at hu; subst hu; exact ht⟩
theorem els_good {at_ : List C} {ax : List Oc.Axiom} {t : Nat} (ht : t ∈ Oc.types at_ ax) : Els at_ ax (els at_ ax t) ∧ (∀ u ∈ els at_ ax t, ∀ x ∈ rels at_ ax u, x.2 ∈ els at_ ax t) :=
  gather_good ((Oc.types at_ ax).length + 1) 0 [t] _ (gathers_init (els_one ht)) (els_one ht) (fun j hj => by omega) (by omega)
def tellM (at_ : List C) (ax : List Oc.Axiom) (t : Nat) : List Nat := (els at_ ax t).length :: (els at_ ax t).flatMap (tellE at_ ax (els at_ ax t))
theorem thing_eq {at_ : List C} {ax : List Oc.Axiom} {w : List Nat} (hw : ∀ u ∈ w, ∀ x ∈ rels at_ ax u, x.2 ∈ w) {u : Nat} (hu : u ∈ w) :
    Oc01.once ((Oc01.needs at_ (Oc.types at_ ax) u).filterMap fun x => (w.idxOf? x.2).map fun i => (x.1, i)) = (rels at_ ax u).map fun x => (x.1, w.idxOf x.2) := by
  have hm : ∀ x ∈ Oc01.needs at_ (Oc.types at_ ax) u, x.2 ∈ w := fun x hx => hw u hu x (mem_once.mpr hx)
  have e : ∀ l : List (Nat × Nat), (∀ x ∈ l, x.2 ∈ w) → (l.filterMap fun x => (w.idxOf? x.2).map fun i => (x.1, i)) = l.map fun x => (x.1, w.idxOf x.2) := by
    intro l
    induction l with
    | nil => intro _; rfl
    | cons a l ih =>
      intro h
      rw [List.filterMap_cons_some (b := (a.1, w.idxOf a.2)) (by rw [idx_mem (h a List.mem_cons_self)]; rfl), ih fun x hx => h x (List.mem_cons_of_mem _ hx)]
      rfl
  rw [e _ hm]
  unfold rels
  refine once_map _ fun x hx y hy h => ?_
  have h1 := congrArg Prod.fst h
  have h2 := congrArg Prod.snd h
  exact Prod.ext h1 (idx_inj (hm x hx) (hm y hy) h2)
theorem told_some {ax : List Oc.Axiom} {c : C} {at_ : List C} (ea : at_ = Oc.atomsFor ax [c]) {t : Nat} (h : (Oc.types at_ ax).find? (fun t => Oc.holds at_ t c) = some t) :
    Oc01.told (Oc01.model ax c) = ⟨((els at_ ax t).length : Nat), (els at_ ax t).flatMap (tellE at_ ax (els at_ ax t))⟩ := by
  subst ea
  have ht := List.mem_of_find?_eq_some h
  obtain ⟨_, hw⟩ := els_good ht
  unfold Oc01.model
  show Oc01.told (((Oc.types (Oc.atomsFor ax [c]) ax).find? (fun t => Oc.holds (Oc.atomsFor ax [c]) t c)).map _) = _
  rw [h]
  show Oc01.Ans.mk _ _ = Oc01.Ans.mk _ _
  have e1 : ∀ (w m : List Nat) (f : Nat → Oc01.Thing) (g : Nat → List Nat), (∀ u ∈ m, (let t := f u; t.names :: t.to.length :: t.to.flatMap fun e => [e.1, e.2]) = g u) →
      ((m.map f).flatMap fun t => t.names :: t.to.length :: t.to.flatMap fun e => [e.1, e.2]) = m.flatMap g := by
    intro w m f g hg
    rw [List.flatMap_map]
    induction m with
    | nil => rfl
    | cons a m ih =>
      rw [List.flatMap_cons, List.flatMap_cons, ih fun u hu => hg u (List.mem_cons_of_mem _ hu), ← hg a List.mem_cons_self]
  refine Oc01.Ans.mk.injEq .. ▸ ⟨?_, ?_⟩
  · rw [List.length_map]; rfl
  · refine e1 [] (els (Oc.atomsFor ax [c]) ax t) _ _ fun u hu => ?_
    show Oc01.namesOf _ u :: (Oc01.once ((Oc01.needs (Oc.atomsFor ax [c]) (Oc.types (Oc.atomsFor ax [c]) ax) u).filterMap fun x => ((els (Oc.atomsFor ax [c]) ax t).idxOf? x.2).map fun i => (x.1, i))).length :: _ = _
    rw [thing_eq hw hu, List.length_map]
    show _ :: _ :: List.flatMap _ (Oc01.once ((Oc01.needs (Oc.atomsFor ax [c]) (Oc.types (Oc.atomsFor ax [c]) ax) u).filterMap fun x => ((els (Oc.atomsFor ax [c]) ax t).idxOf? x.2).map fun i => (x.1, i))) = _
    rw [thing_eq hw hu, List.flatMap_map]
    rfl
theorem told_none {ax : List Oc.Axiom} {c : C} {at_ : List C} (ea : at_ = Oc.atomsFor ax [c]) (h : (Oc.types at_ ax).find? (fun t => Oc.holds at_ t c) = none) : Oc01.told (Oc01.model ax c) = Oc01.ok (-6) := by
  subst ea
  unfold Oc01.model
  show Oc01.told (((Oc.types (Oc.atomsFor ax [c]) ax).find? (fun t => Oc.holds (Oc.atomsFor ax [c]) t c)).map _) = _
  rw [h]
  rfl
end Cx
/-! ## CxS0 -/
namespace Cx
open Oc (C)
/-! ### The mathematics of the operations -/
abbrev axc (ax : List Oc.Axiom) : List C := ax.flatMap fun a => [a.1, a.2]
theorem subs_enc {c x : C} (h : x ∈ subs c) : (enc x).length ≤ (enc c).length := by
  induction c with
  | top => simp [subs] at h; subst h; exact Nat.le_refl _
  | bot => simp [subs] at h; subst h; exact Nat.le_refl _
  | name a => simp [subs] at h; subst h; exact Nat.le_refl _
  | and a b ia ib =>
    simp only [subs, List.mem_cons, List.mem_append] at h
    rcases h with rfl | h | h
    · exact Nat.le_refl _
    · have := ia h; simp [enc]; omega
    · have := ib h; simp [enc]; omega
  | or a b ia ib =>
    simp only [subs, List.mem_cons, List.mem_append] at h
    rcases h with rfl | h | h
    · exact Nat.le_refl _
    · have := ia h; simp [enc]; omega
    · have := ib h; simp [enc]; omega
  | not a ia =>
    simp only [subs, List.mem_cons] at h
    rcases h with rfl | h
    · exact Nat.le_refl _
    · have := ia h; simp [enc]; omega
  | some r a ia =>
    simp only [subs, List.mem_cons] at h
    rcases h with rfl | h
    · exact Nat.le_refl _
    · have := ia h; simp [enc]; omega
  | all r a ia =>
    simp only [subs, List.mem_cons] at h
    rcases h with rfl | h
    · exact Nat.le_refl _
    · have := ia h; simp [enc]; omega
/-- an axiom that line took in -/
def Ax1 (x : Oc.Axiom) : Prop := okc x.1 ∧ okc x.2 ∧ (enc x.1).length ≤ 30 ∧ (enc x.2).length ≤ 30
/-- the axioms that stand -/
structure HouseOk (ax : List Oc.Axiom) : Prop where
  six : ax.length ≤ 6
  ok : ∀ x ∈ ax, Ax1 x
  few : (Oc.atomsFor ax []).length ≤ 6
theorem flat_len0 {α : Type} (f : α → List Nat) (n : Nat) : ∀ l : List α, (∀ x ∈ l, (f x).length ≤ n) → (l.flatMap f).length ≤ n * l.length
  | [], _ => by simp
  | x :: l, h => by
    have h1 := h x List.mem_cons_self
    have h2 := flat_len0 f n l fun y hy => h y (List.mem_cons_of_mem _ hy)
    rw [List.flatMap_cons, List.length_append, List.length_cons, Nat.mul_succ]
    omega
theorem axc_len (ax : List Oc.Axiom) : (axc ax).length = 2 * ax.length := by
  induction ax with
  | nil => rfl
  | cons a ax ih => rw [axc, List.flatMap_cons, List.length_append]; simp at ih ⊢; omega
theorem axc_ok {ax : List Oc.Axiom} (h : HouseOk ax) : ∀ c ∈ axc ax, okc c ∧ (enc c).length ≤ 30 := by
  intro c hc
  obtain ⟨a, ha, hc⟩ := List.mem_flatMap.mp hc
  obtain ⟨h1, h2, h3, h4⟩ := h.ok a ha
  simp at hc
  rcases hc with rfl | rfl
  · exact ⟨h1, h3⟩
  · exact ⟨h2, h4⟩
theorem encs_short {ax : List Oc.Axiom} (h : HouseOk ax) {cs : List C} (hl : cs.length ≤ 2) (hc : ∀ c ∈ cs, (enc c).length ≤ 40) : (encs (axc ax ++ cs)).length ≤ 900 := by
  have h1 := flat_len0 enc 40 (axc ax ++ cs) (fun c hm => by
    rcases List.mem_append.mp hm with hm | hm
    · have := (axc_ok h c hm).2; omega
    · exact hc c hm)
  have h2 := axc_len ax
  have h3 := h.six
  rw [List.length_append] at h1
  show ((axc ax ++ cs).flatMap enc).length ≤ 900
  omega
/-- tg and a group -/
theorem tg_and {at_ : List C} {ax : List Oc.Axiom} (q : Nat → Bool) : (tg at_ ax &&& gof q (2 ^ at_.length) = 0) ↔ ((Oc.types at_ ax).any q = false) := by
  unfold tg
  rw [gof_and, gof_zero, List.any_eq_false]
  constructor
  · intro h t ht
    have := h t (types_good at_ ax t ht).1
    rw [Bool.and_eq_false_iff] at this
    rcases this with h1 | h1
    · rw [← Bool.not_eq_true, List.contains_iff_mem] at h1
      exact absurd ht h1
    · rw [h1]; decide
  · intro h t _
    cases hm : (Oc.types at_ ax).contains t with
    | false => rfl
    | true => have := h t (List.contains_iff_mem.mp hm); simpa using this
theorem tg_find {at_ : List C} {ax : List Oc.Axiom} (q : Nat → Bool) : (tg at_ ax &&& gof q (2 ^ at_.length) = 0 ∧ (Oc.types at_ ax).find? q = none) ∨
    (tg at_ ax &&& gof q (2 ^ at_.length) ≠ 0 ∧ ∃ t, (Oc.types at_ ax).find? q = some t ∧ First (tg at_ ax &&& gof q (2 ^ at_.length)) t ∧ t ∈ Oc.types at_ ax) := by
  cases e : (Oc.types at_ ax).find? q with
  | none =>
    left
    refine ⟨?_, rfl⟩
    rw [tg_and, List.any_eq_false]
    rw [List.find?_eq_none] at e
    exact e
  | some t =>
    right
    have hm := List.mem_of_find?_eq_some e
    have hq := List.find?_some e
    refine ⟨?_, t, rfl, ?_, hm⟩
    · intro h
      rw [tg_and, List.any_eq_false] at h
      exact h t hm hq
    · rw [types_lst] at e
      have := (find_lst e).1
      unfold tg
      rw [gof_and]
      exact this
theorem can_eq (ax : List Oc.Axiom) (c : C) : Oc.can ax c = (Oc.types (Oc.atomsFor ax [c]) ax).any fun t => Oc.holds (Oc.atomsFor ax [c]) t c := rfl
/-- under takes the atoms of both -/
theorem atoms_two (ax : List Oc.Axiom) (c d : C) : Oc.atomsFor ax [.and c (.not d)] = Oc.atomsFor ax [c, d] := by
  unfold Oc.atomsFor Oc.atomsOf
  rw [List.flatMap_append, List.flatMap_append]
  simp [Oc.C.atoms]
theorem under_two (ax : List Oc.Axiom) (c d : C) : Oc.under ax c d = !(Oc.types (Oc.atomsFor ax [c, d]) ax).any fun t => Oc.holds (Oc.atomsFor ax [c, d]) t c && !Oc.holds (Oc.atomsFor ax [c, d]) t d :=
  under_by (atl_of _) fun x => by rw [atoms_two]; exact Iff.rfl
/-- the axioms without the i-th -/
abbrev wo (ax : List Oc.Axiom) (i : Nat) : List Oc.Axiom := ax.take i ++ ax.drop (i + 1)
theorem mem_wo {ax : List Oc.Axiom} {i : Nat} {a : Oc.Axiom} (h : ax[i]? = some a) (x : Oc.Axiom) : x ∈ ax ↔ x ∈ wo ax i ∨ x = a := by
  obtain ⟨hi, e⟩ := List.getElem?_eq_some_iff.mp h
  have e2 : ax = ax.take i ++ a :: ax.drop (i + 1) := by rw [← e, ← List.drop_eq_getElem_cons hi, List.take_append_drop]
  constructor
  · intro hx
    rw [e2] at hx
    simp only [List.mem_append, List.mem_cons] at hx ⊢
    rcases hx with h1 | h1 | h1
    · exact .inl (.inl h1)
    · exact .inr h1
    · exact .inl (.inr h1)
  · intro hx
    rw [e2]
    simp only [List.mem_append, List.mem_cons] at hx ⊢
    rcases hx with (h1 | h1) | h1
    · exact .inl h1
    · exact .inr (.inr h1)
    · exact .inr (.inl h1)
theorem under_spare {ax : List Oc.Axiom} {i : Nat} {a : Oc.Axiom} (h : ax[i]? = some a) :
    Oc.under (wo ax i) a.1 a.2 = !(Oc.types (Oc.atomsFor ax []) (wo ax i)).any fun t => Oc.holds (Oc.atomsFor ax []) t a.1 && !Oc.holds (Oc.atomsFor ax []) t a.2 := by
  refine under_by (atl_of _) fun x => ?_
  rw [atoms_two]
  show x ∈ Oc.distinct _ ↔ x ∈ Oc.distinct _
  rw [mem_distinct, mem_distinct]
  simp only [List.mem_flatMap, List.mem_append]
  constructor
  · rintro ⟨c, hc | hc, hx⟩
    · obtain ⟨b, hb, hcb⟩ := hc
      rcases (mem_wo h b).mp hb with h1 | rfl
      · exact ⟨c, .inl ⟨b, List.mem_append.mp h1, hcb⟩, hx⟩
      · exact ⟨c, .inr hcb, hx⟩
    · simp at hc
  · rintro ⟨c, hc | hc, hx⟩
    · obtain ⟨b, hb, hcb⟩ := hc
      exact ⟨c, .inl ⟨b, (mem_wo h b).mpr (.inl (List.mem_append.mpr hb)), hcb⟩, hx⟩
    · exact ⟨c, .inl ⟨a, (mem_wo h a).mpr (.inr rfl), hc⟩, hx⟩
theorem house_wo {ax : List Oc.Axiom} (h : HouseOk ax) (i : Nat) : HouseOk (wo ax i) := by
  have hsub : ∀ x ∈ wo ax i, x ∈ ax := by
    intro x hx
    rcases List.mem_append.mp hx with h1 | h1
    · exact List.mem_of_mem_take h1
    · exact List.mem_of_mem_drop h1
  refine ⟨?_, fun x hx => h.ok x (hsub x hx), ?_⟩
  · have := h.six
    have h1 : (wo ax i).length ≤ ax.length := by
      rw [List.length_append, List.length_take, List.length_drop]; omega
    omega
  · refine Nat.le_trans (List.Nodup.length_le_of_subset nodup_distinct ?_) h.few
    intro x hx
    have hx' : x ∈ Oc.distinct _ := hx
    show x ∈ Oc.distinct _
    rw [mem_distinct] at hx' ⊢
    simp only [List.mem_flatMap, List.mem_append] at hx' ⊢
    obtain ⟨c, hc | hc, hx'⟩ := hx'
    · obtain ⟨b, hb, hcb⟩ := hc
      exact ⟨c, .inl ⟨b, hsub b (List.mem_append.mpr hb), hcb⟩, hx'⟩
    · simp at hc
theorem house_nil : HouseOk [] := ⟨by simp, by simp, by decide⟩
theorem atoms_add (ax : List Oc.Axiom) (a : Oc.Axiom) : Oc.atomsFor (ax ++ [a]) [] = Oc.atomsFor ax [a.1, a.2] := by
  unfold Oc.atomsFor
  rw [List.flatMap_append, List.append_nil]
  simp
theorem house_add {ax : List Oc.Axiom} (h : HouseOk ax) {a : Oc.Axiom} (h6 : ax.length < 6) (ha : Ax1 a) (hm : (Oc.atomsFor ax [a.1, a.2]).length ≤ 6) : HouseOk (ax ++ [a]) := by
  refine ⟨by simp; omega, fun x hx => ?_, by rw [atoms_add]; exact hm⟩
  rcases List.mem_append.mp hx with h1 | h1
  · exact h.ok x h1
  · simp at h1; subst h1; exact ha
end Cx
/-! ## CxM0 -/
namespace Cx
open Oc (C)
/-! ### The calls as one list of numbers -/
abbrev zs (l : List Nat) : List Int := l.map fun (n : Nat) => (n : Int)
theorem nats_zs (l : List Nat) : Oc01Neutral.nats (zs l) = l := by
  unfold Oc01Neutral.nats
  rw [List.map_map]
  conv => rhs; rw [← List.map_id l]
  apply List.map_congr_left
  intro n _
  exact Int.toNat_natCast n
theorem zs_take (l : List Nat) (n : Nat) : (zs l).take n = zs (l.take n) := List.map_take.symm
theorem zs_drop (l : List Nat) (n : Nat) : (zs l).drop n = zs (l.drop n) := List.map_drop.symm
/-- one call: its own numbers, and what it asks -/
inductive CallIs : List Nat → Oc01.Call → Prop
  | begins : CallIs [0] .begins
  | line (row : List Nat) : row.length ≤ 30 → CallIs (1 :: row.length :: row) (.line row)
  | drop (i : Nat) : CallIs [2, i] (.drop i)
  | can (row : List Nat) : row.length ≤ 30 → CallIs (3 :: row.length :: row) (.can row)
  | under (row : List Nat) : row.length ≤ 30 → CallIs (4 :: row.length :: row) (.under row)
  | model (row : List Nat) : row.length ≤ 30 → CallIs (5 :: row.length :: row) (.model row)
  | against (row : List Nat) : row.length ≤ 30 → CallIs (6 :: row.length :: row) (.against row)
  | names : CallIs [7] .names
  | spare : CallIs [8] .spare
theorem whole_id (c : List (List Int)) : PyOc01.whole c = c := by
  unfold PyOc01.whole
  split <;> rfl
/-- how a call is read off the list -/
theorem call_read {h : Nat} {r : List Nat} {c : List (List Int)} {t : List Int} (e : PyFlat.call PyOc01.shape (zs (h :: r)) = some (c, t)) (ha : Oc01Neutral.asked1 c = true) :
    ∃ m op r', h :: r = m ++ r' ∧ t = zs r' ∧ CallIs m op ∧ Oc01Neutral.callOf c = some op := by
  have e' : (match PyOc01.shape (h : Int) with
    | none => none
    | some (n, k) => if (zs r).length < n then none else match PyFlat.rows k ((zs r).drop n) with
      | none => none
      | some (xs, t) => some (((h : Int) :: (zs r).take n) :: xs, t)) = some (c, t) := e
  -- without a row
  have z00 : ∀ (op : Oc01.Call), PyOc01.shape (h : Int) = some (0, 0) → Oc01Neutral.callOf [[(h : Int)]] = some op → CallIs [h] op → ∃ m op r', h :: r = m ++ r' ∧ t = zs r' ∧ CallIs m op ∧ Oc01Neutral.callOf c = some op := by
    intro op hs hc hi
    rw [hs] at e'
    simp [PyFlat.rows] at e'
    obtain ⟨e1, e2⟩ := e'
    refine ⟨[h], op, r, rfl, e2.symm, hi, ?_⟩
    rw [← e1]
    exact hc
  -- with a row
  have z01 : ∀ (f : List Nat → Oc01.Call), PyOc01.shape (h : Int) = some (0, 1) → (∀ l : List Int, Oc01Neutral.asked1 [[(h : Int)], l] = Oc01Neutral.row32 l 30) → (∀ l : List Int, Oc01Neutral.callOf [[(h : Int)], l] = some (f (Oc01Neutral.nats l))) →
      (∀ row : List Nat, row.length ≤ 30 → CallIs (h :: row.length :: row) (f row)) → ∃ m op r', h :: r = m ++ r' ∧ t = zs r' ∧ CallIs m op ∧ Oc01Neutral.callOf c = some op := by
    intro f hs has hc hi
    rw [hs] at e'
    have e2 : (match PyFlat.rows 1 (zs r) with
      | none => none
      | some (xs, t) => some ([(h : Int)] :: xs, t)) = some (c, t) := by
      simp only at e'
      rw [if_neg (Nat.not_lt_zero _)] at e'
      exact e'
    cases r with
    | nil => simp [PyFlat.rows, PyFlat.row] at e2
    | cons n r =>
      have e3 : PyFlat.row (zs (n :: r)) = if 0 ≤ (n : Int) ∧ (n : Int).toNat ≤ (zs r).length then some ((zs r).take (n : Int).toNat, (zs r).drop (n : Int).toNat) else none := rfl
      rw [Int.toNat_natCast, List.length_map, zs_take, zs_drop] at e3
      by_cases hn : n ≤ r.length
      · rw [if_pos ⟨by omega, hn⟩] at e3
        have e4 : PyFlat.rows 1 (zs (n :: r)) = some ([zs (r.take n)], zs (r.drop n)) := by
          show (match PyFlat.row (zs (n :: r)) with | none => none | some (x, s) => match PyFlat.rows 0 s with | none => none | some (xs, t) => some (x :: xs, t)) = _
          rw [e3]
          rfl
        rw [e4] at e2
        have e5 := Option.some.inj e2
        have e6 := congrArg Prod.fst e5
        have e7 := congrArg Prod.snd e5
        simp only at e6 e7
        subst e6
        rw [has] at ha
        unfold Oc01Neutral.row32 at ha
        rw [Bool.and_eq_true, decide_eq_true_eq, List.length_map] at ha
        have hl : (r.take n).length = n := by rw [List.length_take]; omega
        refine ⟨h :: n :: r.take n, f (r.take n), r.drop n, by simp, e7.symm, ?_, ?_⟩
        · have := hi (r.take n) ha.1
          rw [hl] at this
          exact this
        · rw [hc, nats_zs]
      · rw [if_neg fun q => hn q.2] at e3
        have e4 : PyFlat.rows 1 (zs (n :: r)) = none := by
          show (match PyFlat.row (zs (n :: r)) with | none => none | some (x, s) => match PyFlat.rows 0 s with | none => none | some (xs, t) => some (x :: xs, t)) = _
          rw [e3]
        rw [e4] at e2
        cases e2
  match h, e', z00, z01 with
  | 0, e', z00, z01 => exact z00 _ rfl rfl .begins
  | 1, e', z00, z01 => exact z01 _ rfl (fun _ => rfl) (fun _ => rfl) .line
  | 2, e', z00, z01 =>
    have hs : PyOc01.shape ((2 : Nat) : Int) = some (1, 0) := rfl
    rw [hs] at e'
    cases r with
    | nil => simp at e'
    | cons x r =>
      simp [PyFlat.rows] at e'
      obtain ⟨e1, e2⟩ := e'
      refine ⟨[2, x], .drop x, r, rfl, e2.symm, .drop x, ?_⟩
      rw [← e1]
      rfl
  | 3, e', z00, z01 => exact z01 _ rfl (fun _ => rfl) (fun _ => rfl) .can
  | 4, e', z00, z01 => exact z01 _ rfl (fun _ => rfl) (fun _ => rfl) .under
  | 5, e', z00, z01 => exact z01 _ rfl (fun _ => rfl) (fun _ => rfl) .model
  | 6, e', z00, z01 => exact z01 _ rfl (fun _ => rfl) (fun _ => rfl) .against
  | 7, e', z00, z01 => exact z00 _ rfl rfl .names
  | 8, e', z00, z01 => exact z00 _ rfl rfl .spare
  | n + 9, e', z00, z01 =>
    have hs : PyOc01.shape ((n + 9 : Nat) : Int) = none := by
      unfold PyOc01.shape
      repeat rw [if_neg (by omega)]
    rw [hs] at e'
    cases e'
/-- what is left to be told from the calls L on, where the axioms ax stand -/
def Rest (ax : List Oc.Axiom) (L : List Nat) (T : List Int) : Prop := ∃ (f : Nat) (cs : List (List (List Int))), PyFlat.calls PyOc01.shape f (zs L) = some cs ∧ (∀ c ∈ cs, Oc01Neutral.asked1 c = true) ∧ T = PyFlat.told (PyFlat.played Oc01Neutral.step ⟨ax⟩ cs)
theorem rest_nil {ax : List Oc.Axiom} {T : List Int} (h : Rest ax [] T) : T = [] := by
  obtain ⟨f, cs, h1, h2, h3⟩ := h
  have h1' : some [] = some cs := by cases f <;> exact h1
  cases h1'
  exact h3
theorem rest_next {ax : List Oc.Axiom} {h : Nat} {r : List Nat} {T : List Int} (k : Rest ax (h :: r) T) :
    ∃ m op r' T', h :: r = m ++ r' ∧ CallIs m op ∧ T = (((Oc01Neutral.out (Oc01.step ⟨ax⟩ op).2).length : Nat) : Int) :: (Oc01Neutral.out (Oc01.step ⟨ax⟩ op).2 ++ T') ∧ Rest (Oc01.step ⟨ax⟩ op).1.axioms r' T' := by
  obtain ⟨f, cs, h1, h2, h3⟩ := k
  cases f with
  | zero => cases h1
  | succ f =>
    have h1' : (match PyFlat.call PyOc01.shape (zs (h :: r)) with
      | none => none
      | some (c, t) => match PyFlat.calls PyOc01.shape f t with
        | none => none
        | some cs => some (c :: cs)) = some cs := h1
    cases e1 : PyFlat.call PyOc01.shape (zs (h :: r)) with
    | none => rw [e1] at h1'; cases h1'
    | some x =>
      obtain ⟨c, t⟩ := x
      rw [e1] at h1'
      cases e2 : PyFlat.calls PyOc01.shape f t with
      | none => simp only [e2] at h1'; cases h1'
      | some cs' =>
        simp only [e2] at h1'
        cases h1'
        obtain ⟨m, op, r', e3, e4, e5, e6⟩ := call_read e1 (h2 c List.mem_cons_self)
        subst e4
        have hst : Oc01Neutral.step ⟨ax⟩ c = ((Oc01.step ⟨ax⟩ op).1, Oc01Neutral.out (Oc01.step ⟨ax⟩ op).2) := by
          unfold Oc01Neutral.step
          rw [e6]
        refine ⟨m, op, r', _, e3, e5, ?_, f, cs', e2, fun c' hc' => h2 c' (List.mem_cons_of_mem _ hc'), rfl⟩
        rw [h3]
        show PyFlat.told ((Oc01Neutral.step ⟨ax⟩ c).2 :: PyFlat.played Oc01Neutral.step (Oc01Neutral.step ⟨ax⟩ c).1 cs') = _
        rw [hst]
        unfold PyFlat.told
        rw [List.flatMap_cons]
        rfl
theorem call_pos {m : List Nat} {op : Oc01.Call} (h : CallIs m op) : 0 < m.length := by cases h <;> simp
/-- what stands behind a step -/
theorem house_step {ax : List Oc.Axiom} (h : HouseOk ax) {m : List Nat} {op : Oc01.Call} (hc : CallIs m op) : HouseOk (Oc01.step ⟨ax⟩ op).1.axioms := by
  cases hc with
  | begins => exact house_nil
  | line row hl =>
    show HouseOk (match Oc.two row with | none => _ | some a => if ax.length = Oc01.AXIOMS ∨ Oc01.much ⟨ax⟩ [a.1, a.2] = true then _ else _ : Oc01.House × Oc01.Ans).1.axioms
    cases e : Oc.two row with
    | none => exact h
    | some a =>
      obtain ⟨c, d⟩ := a
      simp only
      by_cases hif : ax.length = Oc01.AXIOMS ∨ Oc01.much ⟨ax⟩ [c, d] = true
      · rw [if_pos hif]; exact h
      · rw [if_neg hif]
        obtain ⟨e1, e2, e3⟩ := two_iff.mp e
        have hlen : (enc c).length + (enc d).length ≤ 30 := by rw [e1, List.length_append] at hl; exact hl
        have h6 := h.six
        have n6 : ¬ ax.length = 6 := fun q => hif (.inl q)
        refine house_add h (by omega) ⟨e2, e3, by show (enc c).length ≤ 30; omega, by show (enc d).length ≤ 30; omega⟩ ?_
        have nm : ¬ Oc01.much ⟨ax⟩ [c, d] = true := fun q => hif (.inr q)
        unfold Oc01.much at nm
        rw [decide_eq_true_eq] at nm
        exact Nat.not_lt.mp nm
  | drop i =>
    show HouseOk (if ax.length ≤ i then _ else _ : Oc01.House × Oc01.Ans).1.axioms
    by_cases hi : ax.length ≤ i
    · rw [if_pos hi]; exact h
    · rw [if_neg hi]; exact house_wo h i
  | can row hl =>
    show HouseOk (match Oc.concept row with | none => _ | some c => if Oc01.much ⟨ax⟩ [c] = true then _ else _ : Oc01.House × Oc01.Ans).1.axioms
    cases Oc.concept row with
    | none => exact h
    | some c => simp only; split <;> exact h
  | under row hl =>
    show HouseOk (match Oc.two row with | none => _ | some a => if Oc01.much ⟨ax⟩ [a.1, a.2] = true then _ else _ : Oc01.House × Oc01.Ans).1.axioms
    cases Oc.two row with
    | none => exact h
    | some c => simp only; split <;> exact h
  | model row hl =>
    show HouseOk (match Oc.concept row with | none => _ | some c => if Oc01.much ⟨ax⟩ [c] = true then _ else _ : Oc01.House × Oc01.Ans).1.axioms
    cases Oc.concept row with
    | none => exact h
    | some c => simp only; split <;> exact h
  | against row hl =>
    show HouseOk (match Oc.two row with | none => _ | some a => if Oc01.much ⟨ax⟩ [a.1, a.2] = true then _ else _ : Oc01.House × Oc01.Ans).1.axioms
    cases Oc.two row with
    | none => exact h
    | some c => simp only; split <;> exact h
  | names => exact h
  | spare => exact h
/-- the request -/
theorem asked_rest {L : List Nat} (h : PyOc01.answers_asked (zs L) = true) : Rest [] L (PyOc01.answers (zs L)) ∧ (PyOc01.answers (zs L)).length ≤ 10000000 := by
  unfold PyOc01.answers_asked at h
  cases e : PyFlat.calls PyOc01.shape (zs L).length (zs L) with
  | none => rw [e] at h; cases h
  | some raw =>
    rw [e] at h
    simp only [Bool.and_eq_true] at h
    obtain ⟨⟨⟨⟨h1, h2⟩, h3⟩, h4⟩, h5⟩ := h
    have hid : raw.map PyOc01.whole = raw := by
      conv => rhs; rw [← List.map_id raw]
      exact List.map_congr_left fun c _ => whole_id c
    have e2 : PyOc01.answers (zs L) = PyFlat.told (PyFlat.played Oc01Neutral.step Oc01Neutral.start raw) := by
      unfold PyOc01.answers PyOc01.calls
      rw [e]
      simp only
      rw [hid]
    refine ⟨⟨_, raw, e, fun c hc => ?_, e2⟩, ?_⟩
    · rw [hid] at h4
      unfold Oc01Neutral.asked at h4
      rw [Bool.and_eq_true, List.all_eq_true] at h4
      exact h4.1 c hc
    · unfold PyFlat.short at h5
      exact of_decide_eq_true h5
end Cx
/-! ## CxW1 -/
namespace Cx
open Oc (C)
open PySem PySem.Spec PyProof.Rows L2
/-! ### The text by places -/
def top (i : Nat) : Stmt := PySem.Challenge.pw_conceptaxioms_s01_answers.main.body.getD i (.Pass ⟨0, 0, 0, 0⟩)
abbrev sHead : Stmt := top 12
abbrev sEnd : Stmt := top 13
abbrev sRead : Stmt := top 14
abbrev sStarts : Stmt := top 15
abbrev sAt : Stmt := top 16
abbrev sAtoms : Stmt := top 17
/-! ### Numbers in a list or a tuple -/
def vn (l : List Nat) : List V := l.map fun (n : Nat) => V.int (n : Int)
theorem vn_get {l : List Nat} {i n : Nat} (h : l[i]? = some n) : (vn l)[i]? = some (V.int (n : Int)) := by
  unfold vn; rw [List.getElem?_map, h]; rfl
theorem vn_len (l : List Nat) : (vn l).length = l.length := by unfold vn; rw [List.length_map]
theorem vn_drop (l : List Nat) (k : Nat) : (vn l).drop k = vn (l.drop k) := by unfold vn; rw [List.map_drop]
theorem vn_take (l : List Nat) (k : Nat) : (vn l).take k = vn (l.take k) := by unfold vn; rw [List.map_take]
/-- at a stands a list or a tuple of these numbers -/
def SqN (K : PySem.W.Frag) (H : Hp) (a : Addr) (l : List Nat) : Prop := SqL K H a (vn l) ∨ SqT K H a (vn l)
theorem sameT {K : PySem.W.Frag} {H H' : Hp} {a : Addr} {xs : List V} (e : Same H H') (h : SqT K H a xs) : SqT K H' a xs := by
  rcases h with (h | ⟨o, h⟩) | h
  · exact .inl (.inl (e _ _ h))
  · exact .inl (.inr ⟨o, e _ _ h⟩)
  · exact .inr h
theorem SqN.same {K : PySem.W.Frag} {H H' : Hp} {a : Addr} {l : List Nat} (e : Same H H') (h : SqN K H a l) : SqN K H' a l := by
  rcases h with h | h
  · exact .inl (e.seq h)
  · exact .inr (sameT e h)
theorem same_upd {H : Hp} {p : Addr} {o : HO} (hp : H p = none) : Same H (upd H p o) := fun b u e => by
  rw [upd_ne (ne_of_none e hp)]; exact e
theorem rix_n {K : PySem.W.Frag} {H : Hp} {a : Addr} {l : List Nat} {j n : Nat} {z : Int} {Q : VK} (h : SqN K H a l) (hz : z = (j : Int)) (hj : l[j]? = some n) (q : Q (.int (n : Int)) H) : rIx K (.ref a) (.int z) H Q := by
  subst hz
  rcases h with h | h
  · exact .inl ⟨a, _, _, _, rfl, rfl, h, atI_nat (vn_get hj), q⟩
  · exact .inr (.inl ⟨a, _, _, _, rfl, rfl, h, atI_nat (vn_get hj), q⟩)
def partsL : List Nat := [0, 0, 0, 2, 2, 1, 1, 1]
def choicesL : List Nat := [0, 0, 4, 0, 0, 0, 2, 2]
/-! ### What the top has written -/
structure TxA (K : PySem.W.Frag) (mg : Str → Option Value) (pP pC CN : Addr) : Prop where
  len : mg "len" = none
  tuple : mg "tuple" = none
  gP : mg "PARTS" = some (.ref pP)
  tP : ∀ H, SqT K H pP (vn partsL)
  gC : mg "CHOICES" = some (.ref pC)
  tC : ∀ H, SqT K H pC (vn choicesL)
  gN : mg "NotConcepts" = some (.ref CN)
  xN : PySem.W.excIn K CN [.type "ValueError", .type "Exception", .type "BaseException", .type "object"] "ValueError.__new__" = true
  kN : PySem.W.keepIn K (.ref CN) = true
  bN : PySem.W.subIn K (.ref CN) (.type "BaseException") = some true
  tN : PySem.W.typeIn K (.ref CN) = some (.type "type")
  iName : ∃ u, mg "NAME" = some u ∧ RelV (.int 2) u
  iSome : ∃ u, mg "SOME" = some u ∧ RelV (.int 6) u
  iOnly : ∃ u, mg "ONLY" = some u ∧ RelV (.int 7) u
/-! ### The promises -/
/-- head_length -/
def spHead (K : PySem.W.Frag) (CN : Addr) : Sp := fun vs H Q E => ∃ (a : Addr) (l : List Nat) (s : Nat), vs = [.ref a, .int (s : Int)] ∧ SqN K H a l ∧
  (∀ k, hlen (l.drop s) = some k → Q (.int (k : Int)) H) ∧ (hlen (l.drop s) = none → E (.ref CN) none H)
/-- concept_end -/
def spEnd (K : PySem.W.Frag) (CN : Addr) : Sp := fun vs H Q E => ∃ (a : Addr) (l : List Nat) (s : Nat), vs = [.ref a, .int (s : Int)] ∧ SqN K H a l ∧ s ≤ l.length ∧
  (∀ (c : C) (r : List Nat), okc c → l.drop s = enc c ++ r → Q (.int ((s + (enc c).length : Nat) : Int)) H) ∧ ((∀ (c : C) (r : List Nat), okc c → l.drop s = enc c ++ r → False) → E (.ref CN) none H)
section
variable {P : Program} {w : World} {K : PySem.W.Frag} {mg : Str → Option Value} {base : Heap} {pP pC CN : Addr}
theorem scHead : FnScope ["numbers", "start", "choices"] ["numbers", "start"] (defScope sHead) := ⟨rfl, rfl, rfl, by decide +kernel, rfl, by decide +kernel, by decide +kernel⟩
theorem ifT {c : Bool} {A B : Prop} (hc : c = true) (h : A) : if c = true then A else B := by rw [if_pos hc]; exact h
theorem ifF {c : Bool} {A B : Prop} (hc : c = false) (h : B) : if c = true then A else B := by rw [hc, if_neg Bool.false_ne_true]; exact h
theorem head_none_end {l : List Nat} {s : Nat} (h : l.length ≤ s) : hlen (l.drop s) = none := by rw [List.drop_eq_nil_of_le h]; rfl
theorem parts_lt {n : Nat} (h : n < 8) : partsL[n]? = some (parts n) := by
  match n, h with
  | 0, _ | 1, _ | 2, _ | 3, _ | 4, _ | 5, _ | 6, _ | 7, _ => rfl
theorem choices_lt {n : Nat} (h : n < 8) : choicesL[n]? = some (choices n) := by
  match n, h with
  | 0, _ | 1, _ | 2, _ | 3, _ | 4, _ | 5, _ | 6, _ | 7, _ => rfl
theorem ok_head {f : Addr} {fd : FuncData} (F : Fun K "head_length" "head_length" sHead f fd) (T : TxA K mg pP pC CN) : FnOk P w K mg base (L2.CX P w) 1 f fd ["numbers", "start"] (spHead K CN) := by
  refine F.okX scHead (fun vs H Q E h => ?_) (fun cdv A outer s H vs Q E hr h => ?_)
  · obtain ⟨a, l, s, rfl, _⟩ := h
    rfl
  · obtain ⟨a, l, s, rfl, hS, kS, kN⟩ := h
    refine ⟨_, pss_cons (ps_if (PW.pt (pw_or (pt_cmpR op_ge (pv 1) (pe_callB call_len_seq (by rfl) T.len PySem.boot_len (pa_cons (pv 0) pa_nil)) (nomark _))
          (pw_or1 (pt_cmpR op_ge (pe_ix ix_seq (pv 0) (pv 1) (fun _ _ => rfl)) (pe_callB call_len_seq (by rfl) T.len PySem.boot_len (pa_cons (pe_glob (v := .ref pP) (by rfl) T.gP rfl) pa_nil)) (nomark _)))))
        (pss_one (ps_raise rfl (takes_of rfl rfl rfl rfl) (pmk_own PySem.F.excBase_ValueError T.xN T.gN T.kN (raises_own T.bN T.tN) (by exact rfl)))) pss_nil)
      (pss_cons (ps_set (i := 2) scHead.nd rfl (Or.inl rfl) (pe_ix ix_tup (pe_glob (v := .ref pC) (by rfl) T.gC rfl) (pe_ix ix_seq (pv 0) (pv 1) (fun _ _ => rfl)) (fun _ _ => rfl)))
      (pss_cons (ps_if (pt_cmpR op_eq (pv 2) pe_int (nomark _)) (pss_one (ps_ret pe_int)) pss_nil)
      (pss_cons (ps_if (PW.pt (pw_or (pt_cmpR op_ge (pe_op op_add (pv 1) pe_int) (pe_callB call_len_seq (by rfl) T.len PySem.boot_len (pa_cons (pv 0) pa_nil)) (nomark _))
          (pw_or1 (pt_cmpR op_ge (pe_ix ix_seq (pv 0) (pe_op op_add (pv 1) pe_int) (fun _ _ => rfl)) (pv 2) (nomark _)))))
        (pss_one (ps_raise rfl (takes_of rfl rfl rfl rfl) (pmk_own PySem.F.excBase_ValueError T.xN T.gN T.kN (raises_own T.bN T.tN) (by exact rfl)))) pss_nil)
      (pss_one (ps_ret pe_int))))), ?_⟩
    -- start >= len(numbers)
    have len0 : (SqL K H a (vn l) ∨ SqT K H a (vn l)) := hS
    refine ⟨_, rfl, _, rfl, a, vn l, rfl, len0, _, _, rfl, rfl, _, rfl, ?_⟩
    rw [vn_len]
    by_cases h1 : l.length ≤ s
    · refine ifT (decide_eq_true (by omega)) ?_
      exact ifT rfl (kN (head_none_end h1))
    refine ifF (decide_eq_false (by omega)) ?_
    obtain ⟨n, hn⟩ : ∃ n, l[s]? = some n := ⟨_, List.getElem?_eq_getElem (by omega)⟩
    have hd : l.drop s = n :: l.drop (s + 1) := by
      obtain ⟨h2, e⟩ := List.getElem?_eq_some_iff.mp hn
      rw [List.drop_eq_getElem_cons h2, e]
    refine ⟨_, rfl, _, rfl, rix_n hS rfl hn ?_⟩
    refine ⟨pP, vn partsL, rfl, .inr (T.tP H), _, _, rfl, rfl, _, rfl, ?_⟩
    by_cases h8 : 8 ≤ n
    · refine ifT (decide_eq_true (by show ((8 : Nat) : Int) ≤ (n : Int); omega)) ?_
      exact kN (by rw [hd, hlen_cons, if_pos h8])
    refine ifF (decide_eq_false (by show ¬ ((8 : Nat) : Int) ≤ (n : Int); omega)) ?_
    -- choices = CHOICES[numbers[start]]
    refine ⟨_, rfl, _, rfl, rix_n hS rfl hn ?_⟩
    refine ⟨pC, _, _, _, rfl, rfl, T.tC H, atI_nat (vn_get (choices_lt (by omega))), ?_⟩
    refine ⟨_, rfl, rfl, _, rfl, ?_⟩
    by_cases h0 : choices n = 0
    · refine ifT (decide_eq_true (by rw [h0]; rfl)) ?_
      exact kS 1 (by rw [hd, hlen_cons, if_neg h8, if_pos h0])
    refine ifF (decide_eq_false (by intro q; injection q with q; omega)) ?_
    refine ⟨_, rfl, _, _, rfl, rfl, _, rfl, a, vn l, rfl, len0, _, _, rfl, rfl, _, rfl, ?_⟩
    rw [vn_len]
    by_cases h2 : l.length ≤ s + 1
    · refine ifT (decide_eq_true (by omega)) ?_
      refine ifT rfl (kN ?_)
      rw [hd, hlen_cons, if_neg h8, if_neg h0, List.drop_eq_nil_of_le h2]
    refine ifF (decide_eq_false (by omega)) ?_
    obtain ⟨m, hm⟩ : ∃ m, l[s + 1]? = some m := ⟨_, List.getElem?_eq_getElem (by omega)⟩
    have hd2 : l.drop (s + 1) = m :: l.drop (s + 2) := by
      obtain ⟨h2, e⟩ := List.getElem?_eq_some_iff.mp hm
      rw [List.drop_eq_getElem_cons h2, e]
    refine ⟨_, rfl, _, rfl, _, _, rfl, rfl, rix_n (j := s + 1) hS (by omega) hm ?_⟩
    refine ⟨_, rfl, _, _, rfl, rfl, _, rfl, ?_⟩
    by_cases h3 : choices n ≤ m
    · refine ifT (decide_eq_true (by omega)) ?_
      refine kN ?_
      rw [hd, hlen_cons, if_neg h8, if_neg h0, hd2]
      exact if_pos h3
    refine ifF (decide_eq_false (by omega)) ?_
    refine kS 2 ?_
    rw [hd, hlen_cons, if_neg h8, if_neg h0, hd2]
    exact if_neg h3
end
end Cx
/-! ## CxW2 -/
namespace Cx
open Oc (C)
open PySem PySem.Spec PyProof.Rows L2
/-- at the places ts stand the concepts cs as tuples of their numbers -/
abbrev Cons (H : Hp) (ts : List Addr) (cs : List C) : Prop := Paired (fun (t : Addr) (c : C) => H t = some (.tup (vn (enc c)))) ts cs
theorem Cons.same {H H' : Hp} {ts : List Addr} {cs : List C} (e : Same H H') (h : Cons H ts cs) : Cons H' ts cs := L2.Paired.mapP h fun _ _ q => e _ _ q
theorem paired_get {α β : Type} {F : α → β → Prop} : ∀ {l : List α} {m : List β}, Paired F l m → ∀ {i : Nat} {x : α}, l[i]? = some x → ∃ y, m[i]? = some y ∧ F x y
  | _, _, .nil, i, x, h => by simp at h
  | _, _, .cons f t, 0, x, h => by simp at h; subst h; exact ⟨_, rfl, f⟩
  | _, _, .cons f t, i + 1, x, h => by simpa using paired_get t (i := i) (x := x) (by simpa using h)
theorem paired_append {α β : Type} {F : α → β → Prop} : ∀ {l l' : List α} {m m' : List β}, Paired F l m → Paired F l' m' → Paired F (l ++ l') (m ++ m')
  | _, _, _, _, .nil, h => h
  | _, _, _, _, .cons f t, h => .cons f (paired_append t h)
/-- read_concepts: l are the numbers, n how many concepts are wanted -/
def spRead (K : PySem.W.Frag) (CN : Addr) : Sp := fun vs H Q E => ∃ (a : Addr) (l : List Nat) (n : Nat), vs = [.ref a, .int (n : Int)] ∧ SqL K H a (vn l) ∧ n ≤ 100 ∧
  (∀ cs : List C, cs.length = n → (∀ c ∈ cs, okc c) → l = encs cs → ∀ (H' : Hp) (p : Addr) (ts : List Addr), Same H H' → H p = none → H' p = some (.lst (ts.map V.ref)) → Cons H' ts cs → Q (.ref p) H') ∧
  ((∀ cs : List C, cs.length = n → (∀ c ∈ cs, okc c) → l = encs cs → False) → ∀ H' : Hp, Same H H' → E (.ref CN) none H')
section
variable {P : Program} {w : World} {K : PySem.W.Frag} {mg : Str → Option Value} {base : Heap} {pP pC CN : Addr}
theorem scEnd : FnScope ["numbers", "start", "place", "missing", "length"] ["numbers", "start"] (defScope sEnd) := ⟨rfl, rfl, rfl, by decide +kernel, rfl, by decide +kernel, by decide +kernel⟩
theorem ok_end {f fH : Addr} {fd fdH : FuncData} (F : Fun K "concept_end" "concept_end" sEnd f fd) (T : TxA K mg pP pC CN)
    (GH : FnOk P w K mg base (L2.CX P w) 1 fH fdH ["numbers", "start"] (spHead K CN)) (bH : Binds K fdH ["numbers", "start"] []) (mH : mg "head_length" = some (.ref fH)) (kH : PySem.W.keepIn K (.ref fH) = true) :
    FnOk P w K mg base (L2.CX P w) 2 f fd ["numbers", "start"] (spEnd K CN) := by
  refine F.okX scEnd (fun vs H Q E h => ?_) (fun cdv A outer s H vs Q E hr h => ?_)
  · obtain ⟨a, l, s, rfl, _⟩ := h
    rfl
  · obtain ⟨a, l, s, rfl, hS, hs, kS, kN⟩ := h
    refine ⟨_, pss_cons (ps_set (i := 2) scEnd.nd rfl (Or.inl rfl) (pv 1))
      (pss_cons (ps_set (i := 3) scEnd.nd rfl (Or.inl rfl) pe_int)
      (pss_cons (ps_while (passes_of rfl) (pt_cmpR op_gt (pv 3) pe_int (nomark _))
        (pss_cons (ps_set (i := 4) scEnd.nd rfl (Or.inl rfl) (pe_call GH hr (by rfl) mH kH bH .nil (passes_call (takes_of rfl rfl rfl rfl) fun _ _ _ _ h => h) (pa_cons (pv 0) (pa_cons (pv 2) pa_nil))))
        (pss_cons (ps_aug (i := 3) scEnd.nd rfl (Or.inl rfl) (pe_op op_sub (pe_ix ix_tup (pe_glob (v := .ref pP) (by rfl) T.gP rfl) (pe_ix ix_seq (pv 0) (pv 2) (fun _ _ => rfl)) (fun _ _ => rfl)) pe_int) ip_add)
        (pss_one (ps_aug (i := 2) scEnd.nd rfl (Or.inl rfl) (pv 4) ip_add)))))
      (pss_one (ps_ret (pv 2))))), ?_⟩
    refine ⟨_, rfl, while_by (fun σ H1 => H1 = H ∧ ∃ (p m : Nat) (v : Option V), σ = [some (.ref a), some (.int (s : Int)), some (.int (p : Int)), some (.int (m : Int)), v] ∧ p ≤ l.length ∧ ∀ r, Many m (l.drop p) r ↔ Many 1 (l.drop s) r)
      (fun σ _ => match σ with | [_, _, some (.int p), _, _] => l.length - p.toNat | _ => 0) ⟨rfl, s, 1, none, rfl, hs, fun r => Iff.rfl⟩ ?_ ?_⟩
    · rintro σ H1 ⟨rfl, p, m, v, rfl, hp, hM⟩
      refine ⟨_, rfl, _, _, rfl, rfl, _, rfl, ?_⟩
      cases m with
      | zero =>
        refine ifF (decide_eq_false (by omega)) ?_
        refine ⟨_, rfl, ?_⟩
        obtain ⟨c, s', o, e, e2⟩ := (hM (l.drop p)).mp rfl
        have e3 : s' = l.drop p := e2
        subst e3
        have hl : (l.drop s).length = (enc c ++ l.drop p).length := by rw [e]
        simp at hl
        have hq := kS c _ o e
        rw [show s + (enc c).length = p by omega] at hq
        exact hq
      | succ m =>
        refine ifT (decide_eq_true (by omega)) ?_
        refine ⟨_, rfl, _, rfl, a, l, p, rfl, hS, fun k hk => ?_, fun hk => ?_⟩
        · obtain ⟨k0, k1⟩ := hlen_le hk
          simp at k1
          obtain ⟨n, hn⟩ : ∃ n, l[p]? = some n := ⟨_, List.getElem?_eq_getElem (by omega)⟩
          have hd : l.drop p = n :: l.drop (p + 1) := by
            obtain ⟨h2, e⟩ := List.getElem?_eq_some_iff.mp hn
            rw [List.drop_eq_getElem_cons h2, e]
          have h8 : n < 8 := by
            rw [hd, hlen_cons] at hk
            by_cases h8 : 8 ≤ n
            · rw [if_pos h8] at hk; cases hk
            · omega
          have hstep := fun r => (many_step hk m r).symm.trans (hM r)
          rw [show (l.drop p).getD 0 0 = n by rw [hd]; rfl, List.drop_drop] at hstep
          refine ⟨_, rfl, _, rfl, _, rfl, rix_n hS rfl hn ?_⟩
          refine ⟨pP, _, _, _, rfl, rfl, T.tP H1, atI_nat (vn_get (parts_lt h8)), ?_⟩
          refine ⟨_, _, rfl, rfl, _, _, rfl, rfl, ?_⟩
          refine ⟨_, rfl, _, rfl, _, _, rfl, rfl, ?_⟩
          have e1 : ((m + 1 : Nat) : Int) + ((parts n : Int) - 1) = ((m + parts n : Nat) : Int) := by omega
          have e2 : (p : Int) + (k : Int) = ((p + k : Nat) : Int) := by omega
          refine ⟨⟨rfl, p + k, m + parts n, some (.int (k : Int)), ?_, by omega, hstep⟩, ?_⟩
          · rw [← e1, ← e2]; rfl
          · show l.length - ((p : Int) + (k : Int)).toNat < l.length - ((p : Int)).toNat
            omega
        · exact kN fun c r o e => many_none hk m r ((hM r).mpr ⟨c, r, o, e, rfl⟩)
    · intro σ H1 Q Q' hq
      rintro ⟨x, h1, i, j, h2, h3, k, h4, h5⟩
      exact ⟨x, h1, i, j, h2, h3, k, h4, hq _ _ h5⟩
end
end Cx
/-! ## CxW3 -/
namespace Cx
open Oc (C)
open PySem PySem.Spec PyProof.Rows L2
theorem cut_some (xs : List V) (i j : Nat) (hi : i ≤ xs.length) (hj : j ≤ xs.length) : cutV xs (some (i : Int)) (some (j : Int)) = (xs.drop i).take (j - i) := by
  unfold cutV
  rw [HT.sIx_nat, HT.sIx_nat, Nat.min_eq_left hi, Nat.min_eq_left hj]
theorem encs_cons (c : C) (cs : List C) : encs (c :: cs) = enc c ++ encs cs := rfl
theorem encs_append (cs ds : List C) : encs (cs ++ ds) = encs cs ++ encs ds := by unfold encs; rw [List.flatMap_append]
theorem encs_inj : ∀ (cs ds : List C), cs.length = ds.length → encs cs = encs ds → cs = ds
  | [], [], _, _ => rfl
  | c :: cs, d :: ds, h, e => by
    rw [encs_cons, encs_cons] at e
    obtain ⟨e1, e2⟩ := enc_inj _ _ _ _ e
    rw [e1, encs_inj cs ds (by simpa using h) e2]
section
variable {P : Program} {w : World} {K : PySem.W.Frag} {mg : Str → Option Value} {base : Heap} {pP pC CN : Addr}
theorem scRead : FnScope ["numbers", "wanted", "concepts", "start", "end"] ["numbers", "wanted"] (defScope sRead) := ⟨rfl, rfl, rfl, by decide +kernel, rfl, by decide +kernel, by decide +kernel⟩
/-- the concepts read so far, and what is left -/
theorem read_left {l : List Nat} {n s : Nat} {cs : List C} (e : l = encs cs ++ l.drop s) (hn : cs.length ≤ n) :
    (∃ ds : List C, ds.length = n ∧ (∀ d ∈ ds, okc d) ∧ l = encs ds) → (∀ c ∈ cs, okc c) → ∃ ds : List C, cs.length + ds.length = n ∧ (∀ d ∈ ds, okc d) ∧ l.drop s = encs ds := by
  intro ⟨ds, h1, h2, h3⟩ ho
  suffices h : ∀ (cs ds : List C) (r : List Nat), encs cs ++ r = encs ds → cs.length ≤ ds.length → ∃ es, ds = cs ++ es ∧ r = encs es by
    obtain ⟨es, e1, e2⟩ := h cs ds (l.drop s) (by rw [← e, h3]) (by omega)
    subst e1
    exact ⟨es, by simpa using h1, fun d hd => h2 d (List.mem_append_right _ hd), e2⟩
  intro cs
  induction cs with
  | nil => intro ds r h _; exact ⟨ds, rfl, h⟩
  | cons c cs ih =>
    intro ds r h hl
    cases ds with
    | nil => simp at hl
    | cons d ds =>
      rw [encs_cons, encs_cons, List.append_assoc] at h
      obtain ⟨e1, e2⟩ := enc_inj _ _ _ _ h
      obtain ⟨es, e3, e4⟩ := ih ds r e2 (by simpa using hl)
      exact ⟨es, by rw [e1, e3]; rfl, e4⟩
theorem ok_read {f fE : Addr} {fd fdE : FuncData} (F : Fun K "read_concepts" "read_concepts" sRead f fd) (T : TxA K mg pP pC CN)
    (GE : FnOk P w K mg base (L2.CX P w) 2 fE fdE ["numbers", "start"] (spEnd K CN)) (bE : Binds K fdE ["numbers", "start"] []) (mE : mg "concept_end" = some (.ref fE)) (kE : PySem.W.keepIn K (.ref fE) = true) :
    FnOk P w K mg base (L2.CX P w) 3 f fd ["numbers", "wanted"] (spRead K CN) := by
  refine F.okX scRead (fun vs H Q E h => ?_) (fun cdv A outer s H vs Q E hr h => ?_)
  · obtain ⟨a, l, n, rfl, _⟩ := h
    rfl
  · obtain ⟨a, l, n, rfl, hS, hn, kS, kN⟩ := h
    refine ⟨_, pss_cons (ps_set (i := 2) scRead.nd rfl (Or.inl rfl) (pe_lst pa_nil))
      (pss_cons (ps_set (i := 3) scRead.nd rfl (Or.inl rfl) pe_int)
      (pss_cons (ps_while (passes_of rfl) (pt_cmpR op_lt (pe_callB call_len_seq (by rfl) T.len PySem.boot_len (pa_cons (pv 2) pa_nil)) (pv 1) (nomark _))
        (pss_cons (ps_set (i := 4) scRead.nd rfl (Or.inl rfl) (pe_call GE hr (by rfl) mE kE bE .nil (passes_call (takes_of rfl rfl rfl rfl) fun _ _ _ _ h => h) (pa_cons (pv 0) (pa_cons (pv 3) pa_nil))))
        (pss_cons (ps_expr (pe_bm PySem.F.plainAttrs_list PySem.F.slot_list_append PySem.F.type_list_append mt_append (pv 2) (pa_cons
            (pe_tupleOf (by rfl) T.tuple (pe_slice sl_list (pv 0) (po_some (pv 3)) (po_some (pv 4)))) pa_nil)))
        (pss_one (ps_set (i := 3) scRead.nd rfl (Or.inl rfl) (pv 4))))))
      (pss_cons (ps_if (pt_cmpR op_lt (pv 3) (pe_callB call_len_seq (by rfl) T.len PySem.boot_len (pa_cons (pv 0) pa_nil)) (nomark _))
        (pss_one (ps_raise rfl (takes_of rfl rfl rfl rfl) (pmk_own PySem.F.excBase_ValueError T.xN T.gN T.kN (raises_own T.bN T.tN) (by exact rfl)))) pss_nil)
      (pss_one (ps_ret (pv 2)))))), ?_⟩
    refine ⟨Nat.zero_le _, fun q hq => ?_⟩
    refine while_by (fun σ H1 => Same H H1 ∧ ∃ (s : Nat) (v : Option V) (cs : List C) (ts : List Addr), σ = [some (.ref a), some (.int (n : Int)), some (.ref q), some (.int (s : Int)), v] ∧ s ≤ l.length ∧
        H1 q = some (.lst (ts.map V.ref)) ∧ Cons H1 ts cs ∧ cs.length ≤ n ∧ (∀ c ∈ cs, okc c) ∧ l = encs cs ++ l.drop s)
      (fun σ H1 => match H1 q with | some (.lst xs) => n - xs.length | _ => 0) ⟨same_upd hq, 0, none, [], [], rfl, Nat.zero_le _, upd_same, .nil, Nat.zero_le _, (fun c hc => by cases hc), rfl⟩ ?_ ?_
    · rintro σ H1 ⟨sm, s, v, cs, ts, rfl, hs, hl, hc, hcn, ho, he⟩
      have hlen : ts.length = cs.length := Paired.length hc
      refine ⟨_, rfl, q, _, rfl, .inl (SqL.of hl), _, rfl, _, _, rfl, rfl, _, rfl, ?_⟩
      rw [List.length_map, hlen]
      by_cases hcs : cs.length < n
      · refine ifT (decide_eq_true (by omega)) ?_
        refine ⟨_, rfl, _, rfl, a, l, s, rfl, .inl (sm.seq hS), hs, fun c r o e => ?_, fun hno => ?_⟩
        · have hll : (l.drop s).length = (enc c ++ r).length := by rw [e]
          simp at hll
          refine ⟨_, rfl, .inl ⟨rfl, _, SqL.of hl⟩, _, rfl, _, rfl, _, rfl, _, rfl, _, rfl, a, vn l, rfl, sm.seq hS, fun p1 hp1 => ?_⟩
          refine .inl ⟨p1, _, rfl, SqL.of upd_same, fun p2 hp2 => ?_⟩
          have s1 : Same H1 (upd H1 p1 (.lst (cutV (vn l) (some (s : Int)) (some ((s + (enc c).length : Nat) : Int))))) := same_upd hp1
          have s2 := s1.trans (same_upd (o := .tup (cutV (vn l) (some (s : Int)) (some ((s + (enc c).length : Nat) : Int)))) hp2)
          have nq : q ≠ p2 := ne_of_none (s1 _ _ hl) hp2
          refine ⟨q, _, _, rfl, rfl, s2 _ _ hl, (by rw [List.length_map]; exact small1000 (by omega)), ?_⟩
          refine ⟨_, rfl, ?_⟩
          have e1 : cutV (vn l) (some (s : Int)) (some ((s + (enc c).length : Nat) : Int)) = vn (enc c) := by
            rw [cut_some _ _ _ (by rw [vn_len]; omega) (by rw [vn_len]; omega), vn_drop, vn_take, e, show s + (enc c).length - s = (enc c).length by omega, List.take_left]
          have s3 : ∀ b o, b ≠ q → (upd (upd H1 p1 (.lst (cutV (vn l) (some (s : Int)) (some ((s + (enc c).length : Nat) : Int))))) p2 (.tup (cutV (vn l) (some (s : Int)) (some ((s + (enc c).length : Nat) : Int))))) b = some o →
              (upd (upd (upd H1 p1 (.lst (cutV (vn l) (some (s : Int)) (some ((s + (enc c).length : Nat) : Int))))) p2 (.tup (cutV (vn l) (some (s : Int)) (some ((s + (enc c).length : Nat) : Int))))) q (.lst (ts.map V.ref ++ [V.ref p2]))) b = some o :=
            fun b o hb h => by rw [upd_ne hb]; exact h
          refine ⟨⟨fun b o h => s3 b o (ne_of_none h hq) (s2 _ _ (sm _ _ h)), s + (enc c).length, _, cs ++ [c], ts ++ [p2], rfl, by omega, ?_, ?_, by simp; omega, ?_, ?_⟩, ?_⟩
          · rw [upd_same, List.map_append]; rfl
          · refine Paired.snoc (L2.Paired.mapP hc fun t c' h => ?_) ?_
            · have nt : t ≠ q := ne_of h hl (by intro z; cases z)
              exact s3 _ _ nt (s2 _ _ h)
            · exact s3 _ _ (fun z => nq z.symm) (by rw [upd_same, e1])
          · intro c' hc'
            rcases List.mem_append.mp hc' with h | h
            · exact ho _ h
            · simp at h; subst h; exact o
          · rw [encs_append, ← List.drop_drop, e, List.drop_left, List.append_assoc]
            show l = encs cs ++ ((enc c ++ []) ++ r)
            rw [List.append_nil, ← e]
            exact he
          · rw [upd_same, hl]
            show n - (ts.map V.ref ++ [V.ref p2]).length < n - (ts.map V.ref).length
            simp
            omega
        · refine kN (fun ds h1 h2 h3 => ?_) H1 sm
          obtain ⟨es, e1, e2, e3⟩ := read_left he hcn ⟨ds, h1, h2, h3⟩ ho
          cases es with
          | nil => simp at e1; omega
          | cons d es => exact hno d (encs es) (e2 d (List.mem_cons_self)) e3
      · refine ifF (decide_eq_false (by omega)) ?_
        refine ⟨_, rfl, _, rfl, a, vn l, rfl, .inl (sm.seq hS), _, _, rfl, rfl, _, rfl, ?_⟩
        rw [vn_len]
        by_cases hll : s < l.length
        · refine ifT (decide_eq_true (by omega)) (kN (fun ds h1 h2 h3 => ?_) H1 sm)
          obtain ⟨es, e1, e2, e3⟩ := read_left he hcn ⟨ds, h1, h2, h3⟩ ho
          cases es with
          | nil =>
            have h4 : (l.drop s).length = (encs []).length := by rw [e3]
            simp [encs] at h4
            omega
          | cons d es => simp at e1; omega
        · refine ifF (decide_eq_false (by omega)) ?_
          refine ⟨_, rfl, kS cs (by omega) ho ?_ H1 q ts sm hq hl hc⟩
          rw [List.drop_eq_nil_of_le (by omega), List.append_nil] at he
          exact he
    · intro σ H1 Q Q' hq
      rintro ⟨x, h1, p, ys, h2, h3, y, h4, i, j, h5, h6, k, h7, h8⟩
      exact ⟨x, h1, p, ys, h2, h3, y, h4, i, j, h5, h6, k, h7, hq _ _ h8⟩
end
end Cx
/-! ## CxW4 -/
namespace Cx
open Oc (C)
open PySem PySem.Spec PyProof.Rows L2
/-! ### A concept as data -/
def dC (c : C) : PyData := .tuple ((enc c).map fun (n : Nat) => .int (n : Int))
theorem lay_ints : ∀ l : List Nat, PyData.canLayAll0 (l.map fun (n : Nat) => .int (n : Int)) = true
  | [] => by simp [PyData.canLayAll0]
  | n :: l => by rw [List.map_cons, PyData.canLayAll0, lay_ints l]; simp [PyData.canLay0]
theorem depth_ints : ∀ l : List Nat, PyData.depthAll (l.map fun (n : Nat) => .int (n : Int)) = 0
  | [] => by simp [PyData.depthAll]
  | n :: l => by rw [List.map_cons, PyData.depthAll, depth_ints l]; simp [PyData.depth]
theorem dC_lay (c : C) : (dC c).canLay0 = true := by rw [dC, PyData.canLay0]; exact lay_ints _
theorem dC_depth (c : C) : (dC c).depth = 1 := by rw [dC, PyData.depth, depth_ints]
theorem dC_shaped (c : C) : SeqAt.shaped (dC c) = true := by
  show ((dC c).canLay0 && decide ((dC c).depth ≤ 64)) = true
  rw [dC_lay, dC_depth]; rfl
theorem dCs_lay : ∀ l : List C, PyData.canLayAll0 (l.map dC) = true
  | [] => by simp [PyData.canLayAll0]
  | c :: l => by rw [List.map_cons, PyData.canLayAll0, dC_lay, dCs_lay l]; rfl
theorem dCs_depth : ∀ l : List C, PyData.depthAll (l.map dC) ≤ 1
  | [] => by simp [PyData.depthAll]
  | c :: l => by have := dCs_depth l; rw [List.map_cons, PyData.depthAll, dC_depth]; omega
theorem dCs_shaped (l : List C) : SeqAt.shaped (.list (l.map dC)) = true := by
  have h1 := dCs_depth l
  have h2 : PyData.depth (.list (l.map dC)) ≤ 64 := by rw [PyData.depth]; omega
  show (PyData.canLay0 (.list (l.map dC)) && decide (PyData.depth (.list (l.map dC)) ≤ 64)) = true
  rw [Bool.and_eq_true]
  exact ⟨by rw [PyData.canLay0]; exact dCs_lay l, decide_eq_true h2⟩
theorem eqv_ints : ∀ l m : List Nat, PyData.eqvAll (l.map fun (n : Nat) => .int (n : Int)) (m.map fun (n : Nat) => .int (n : Int)) = decide (l = m)
  | [], [] => by simp [PyData.eqvAll]
  | [], b :: m => by simp [PyData.eqvAll]
  | a :: l, [] => by simp [PyData.eqvAll]
  | a :: l, b :: m => by
    rw [List.map_cons, List.map_cons, PyData.eqvAll, eqv_ints l m, PyData.eqv]
    by_cases h : a = b
    · subst h; simp
    · have : ((a : Int) == (b : Int)) = false := beq_eq_false_iff_ne.mpr (by omega)
      rw [this]; simp [h]
theorem dC_eqv (c d : C) : PyData.eqv (dC c) (dC d) = decide (c = d) := by
  rw [dC, dC, PyData.eqv, eqv_ints]
  by_cases h : c = d
  · subst h; simp
  · rw [decide_eq_false h, decide_eq_false fun e => h (enc_eq e)]
theorem dp_ints {K : PySem.W.Frag} {H : Hp} : ∀ l : List Nat, DpAll K H (vn l) (l.map fun (n : Nat) => .int (n : Int))
  | [] => .nil
  | _ :: l => .cons (.int _) (dp_ints l)
theorem dp_c {K : PySem.W.Frag} {H : Hp} {t : Addr} {c : C} (h : H t = some (.tup (vn (enc c)))) : Dp K H (.ref t) (dC c) := .tup (SqT.of h) (dp_ints _)
theorem dp_cs {K : PySem.W.Frag} {H : Hp} : ∀ {ts : List Addr} {cs : List C}, Cons H ts cs → DpAll K H (ts.map V.ref) (cs.map dC)
  | _, _, .nil => .nil
  | _, _, .cons h t => .cons (dp_c h) (dp_cs t)
theorem any_dC (l : List C) (x : C) : ((l.map dC).any fun z => PyData.eqv z (dC x)) = l.contains x := by
  induction l with
  | nil => rfl
  | cons a l ih =>
    rw [List.map_cons, List.any_cons, ih, dC_eqv, List.contains_cons]
    congr 1
    by_cases h : a = x
    · subst h; simp
    · have h' : ¬ x = a := fun e => h e.symm
      simp [h, h']
theorem room65 {k : Nat} {A : Around} (r : Room k A) : A.units + 65 < cLine := by have := r.un; omega
/-! ### The promises -/
/-- part_starts -/
def spStarts : Sp := fun vs H Q _ => ∃ (t : Addr) (c : C), vs = [.ref t] ∧ H t = some (.tup (vn (enc c))) ∧ okc c ∧ (enc c).length ≤ 1000 ∧
  ∀ (H' : Hp) (p : Addr), Same H H' → H p = none → H' p = some (.lst (vn (offs 0 c))) → Q (.ref p) H'
/-- concept_at -/
def spAt : Sp := fun vs H Q _ => ∃ (t : Addr) (c x : C) (s : Nat), vs = [.ref t, .int (s : Int)] ∧ H t = some (.tup (vn (enc c))) ∧ okc x ∧ At (enc c) s x ∧
  ∀ (H' : Hp) (p : Addr), Same H H' → H' p = some (.tup (vn (enc x))) → Q (.ref p) H'
/-- atoms_of -/
def spAtoms (K : PySem.W.Frag) : Sp := fun vs H Q _ => ∃ (a : Addr) (ts : List Addr) (cs : List C), vs = [.ref a] ∧ SqL K H a (ts.map V.ref) ∧ Cons H ts cs ∧ (∀ c ∈ cs, okc c) ∧ (encs cs).length ≤ 900 ∧
  ∀ (H' : Hp) (p : Addr) (us : List Addr), Same H H' → H p = none → H' p = some (.lst (us.map V.ref)) → Cons H' us (Oc.atomsOf cs) → Q (.ref p) H'
theorem encs_pos {cs : List C} (h : 0 < (encs cs).length) : ∃ d ds, cs = d :: ds := by
  cases cs with
  | nil => simp [encs] at h
  | cons d ds => exact ⟨d, ds, rfl⟩
theorem subsM_len (cs : List C) : (subsM cs).length ≤ (encs cs).length := by
  induction cs with
  | nil => simp [subsM, encs]
  | cons c cs ih =>
    have := subs_len c
    show (subs c ++ subsM cs).length ≤ (enc c ++ encs cs).length
    rw [List.length_append, List.length_append]
    omega
theorem take_more {α : Type} {l : List α} {i : Nat} {x : α} (h : l[i]? = some x) : l.take (i + 1) = l.take i ++ [x] := by
  obtain ⟨hi, e⟩ := List.getElem?_eq_some_iff.mp h
  rw [List.take_succ_eq_append_getElem hi, e]
/-- the atoms among the concepts gone through -/
def gone (l : List C) : List C := (l.filter isAtom).foldl addD []
theorem gone_len (l : List C) : (gone l).length ≤ l.length := by
  have := foldD_len (l.filter isAtom) []
  have h2 := List.length_filter_le isAtom l
  unfold gone
  simp at this
  omega
theorem gone_more (l : List C) (x : C) : gone (l ++ [x]) = if isAtom x = true then addD (gone l) x else gone l := by
  unfold gone
  rw [List.filter_append, List.foldl_append]
  by_cases h : isAtom x = true
  · rw [if_pos h, List.filter_cons_of_pos h]; rfl
  · rw [if_neg h, List.filter_cons_of_neg h]; rfl
theorem gone_all (cs : List C) : gone (subsM cs) = Oc.atomsOf cs := (atomsOf_eq cs).symm
section
variable {P : Program} {w : World} {K : PySem.W.Frag} {mg : Str → Option Value} {base : Heap} {pP pC CN : Addr}
theorem scStarts : FnScope ["concept", "starts", "place"] ["concept"] (defScope sStarts) := ⟨rfl, rfl, rfl, by decide +kernel, rfl, by decide +kernel, by decide +kernel⟩
theorem ok_starts {f fH : Addr} {fd fdH : FuncData} (F : Fun K "part_starts" "part_starts" sStarts f fd) (T : TxA K mg pP pC CN)
    (GH : FnOk P w K mg base (L2.CX P w) 1 fH fdH ["numbers", "start"] (spHead K CN)) (bH : Binds K fdH ["numbers", "start"] []) (mH : mg "head_length" = some (.ref fH)) (kH : PySem.W.keepIn K (.ref fH) = true) :
    FnOk P w K mg base CX0 2 f fd ["concept"] spStarts := by
  refine F.ok scStarts (fun vs H Q E h => ?_) (fun cdv A outer s H vs Q E hr h => ?_)
  · obtain ⟨t, c, rfl, _⟩ := h
    rfl
  · obtain ⟨t, c, rfl, ht, ho, hb, k⟩ := h
    refine ⟨_, pss_cons (ps_set (i := 1) scStarts.nd rfl (Or.inl rfl) (pe_lst pa_nil))
      (pss_cons (ps_set (i := 2) scStarts.nd rfl (Or.inl rfl) pe_int)
      (pss_cons (ps_while PassesOwn.never (pt_cmpR op_lt (pv 2) (pe_callB call_len_seq (by rfl) T.len PySem.boot_len (pa_cons (pv 0) pa_nil)) (nomark _))
        (pss_cons (ps_expr (pe_bm PySem.F.plainAttrs_list PySem.F.slot_list_append PySem.F.type_list_append mt_append (pv 1) (pa_cons (pv 2) pa_nil)))
        (pss_one (ps_aug (i := 2) scStarts.nd rfl (Or.inl rfl) (pe_call GH hr (by rfl) mH kH bH .nil passL (pa_cons (pv 0) (pa_cons (pv 2) pa_nil))) ip_add))))
      (pss_one (ps_ret (pv 1))))), ?_⟩
    refine ⟨Nat.zero_le _, fun q hq => ?_⟩
    have hlt := subs_len c
    refine while_by (fun σ H1 => Same H H1 ∧ ∃ (p : Nat) (done : List Nat) (cs : List C), σ = [some (.ref t), some (.ref q), some (.int (p : Int))] ∧ p ≤ (enc c).length ∧
        H1 q = some (.lst (vn done)) ∧ (∀ d ∈ cs, okc d) ∧ (enc c).drop p = encs cs ∧ done ++ offsM p cs = offs 0 c)
      (fun σ _ => match σ with | [_, _, some (.int p)] => (enc c).length - p.toNat | _ => 0) ⟨same_upd hq, 0, [], [c], rfl, Nat.zero_le _, upd_same, (fun d hd => by simp at hd; subst hd; exact ho), (by simp [encs]), (by simp [offsM])⟩ ?_ ?_
    · rintro σ H1 ⟨sm, p, done, cs, rfl, hp, hL, hok, he, hd⟩
      have ht1 := sm _ _ ht
      refine ⟨_, rfl, _, rfl, t, _, rfl, .inr (SqT.of ht1), _, _, rfl, rfl, _, rfl, ?_⟩
      rw [vn_len]
      by_cases hlt2 : p < (enc c).length
      · refine ifT (decide_eq_true (by omega)) ?_
        obtain ⟨d, ds, rfl⟩ : ∃ d ds, cs = d :: ds := encs_pos (by rw [← he]; simp; omega)
        have hdn : done.length + (offsM p (d :: ds)).length = (subs c).length := by
          rw [← List.length_append, hd, offs_len]
        have hdl : done.length ≤ (subs c).length := by omega
        refine ⟨_, rfl, .inl ⟨rfl, _, SqL.of hL⟩, _, rfl, q, _, _, rfl, rfl, hL, (by rw [vn_len]; exact small1000 (by omega)), ?_⟩
        have nt : t ≠ q := ne_of ht1 hL (by intro z; cases z)
        have ht2 : (upd H1 q (.lst (vn done ++ [.int (p : Int)]))) t = some (.tup (vn (enc c))) := by rw [upd_ne nt]; exact ht1
        refine ⟨_, rfl, _, rfl, _, rfl, t, enc c, p, rfl, .inr (SqT.of ht2), fun k' hk => ?_, fun hk => ?_⟩
        · have e1 : hlen ((enc c).drop p) = some (hl d) := by
            rw [he, encs_cons]
            exact enc_hlen d (hok d List.mem_cons_self) _
          rw [e1] at hk
          cases hk
          have hle := enc_len d
          have hll : ((enc c).drop p).length = (encs (d :: ds)).length := by rw [he]
          rw [encs_cons, List.length_append, List.length_drop] at hll
          refine ⟨_, _, rfl, rfl, ?_⟩
          have e2 : (p : Int) + (hl d : Int) = ((p + hl d : Nat) : Int) := by omega
          refine ⟨⟨fun b o h => by rw [upd_ne (ne_of_none h hq)]; exact sm _ _ h, p + hl d, done ++ [p], kids d ++ ds, ?_, by omega, ?_, ?_, ?_, ?_⟩, ?_⟩
          · rw [← e2]; rfl
          · rw [upd_same]; unfold vn; rw [List.map_append]; rfl
          · intro x hx
            rcases List.mem_append.mp hx with h | h
            · exact kids_ok (hok d List.mem_cons_self) x h
            · exact hok x (List.mem_cons_of_mem _ h)
          · rw [← List.drop_drop, he, encs_cons, enc_drop, encs_append]
          · rw [← hd, offsM_append, offsM, offs_eq, enc_len]
            simp [Nat.add_assoc]
          · show (enc c).length - ((p : Int) + (hl d : Int)).toNat < (enc c).length - ((p : Int)).toNat
            have : 0 < hl d := by cases d <;> simp [hl]
            omega
        · rw [he, encs_cons, enc_hlen d (hok d List.mem_cons_self)] at hk
          cases hk
      · refine ifF (decide_eq_false (by omega)) ?_
        refine ⟨_, rfl, k H1 q sm hq ?_⟩
        have e0 : encs cs = [] := by rw [← he, List.drop_eq_nil_of_le (by omega)]
        cases cs with
        | cons d ds =>
          have := enc_pos d
          have h2 : (encs (d :: ds)).length = 0 := by rw [e0]; rfl
          rw [encs_cons, List.length_append] at h2
          omega
        | nil =>
          rw [offsM, List.append_nil] at hd
          rw [← hd]; exact hL
    · intro σ H1 Q Q' hq
      rintro ⟨x, h1, x2, h2, p, ys, h3, h4, i, j, h5, h6, k, h7, h8⟩
      exact ⟨x, h1, x2, h2, p, ys, h3, h4, i, j, h5, h6, k, h7, hq _ _ h8⟩
theorem scAt : FnScope ["concept", "start"] ["concept", "start"] (defScope sAt) := ⟨rfl, rfl, rfl, by decide +kernel, rfl, by decide +kernel, by decide +kernel⟩
theorem ok_at {f fE : Addr} {fd fdE : FuncData} (F : Fun K "concept_at" "concept_at" sAt f fd) 
    (GE : FnOk P w K mg base (L2.CX P w) 2 fE fdE ["numbers", "start"] (spEnd K CN)) (bE : Binds K fdE ["numbers", "start"] []) (mE : mg "concept_end" = some (.ref fE)) (kE : PySem.W.keepIn K (.ref fE) = true) :
    FnOk P w K mg base CX0 3 f fd ["concept", "start"] spAt := by
  refine F.ok scAt (fun vs H Q E h => ?_) (fun cdv A outer s H vs Q E hr h => ?_)
  · obtain ⟨t, c, x, s, rfl, _⟩ := h
    rfl
  · obtain ⟨t, c, x, s, rfl, ht, ho, ⟨hs, r, hx⟩, k⟩ := h
    refine ⟨_, pss_one (ps_ret (pe_slice sl_tupA (pv 0) (po_some (pv 1)) (po_some (pe_call GE hr (by rfl) mE kE bE .nil passL (pa_cons (pv 0) (pa_cons (pv 1) pa_nil)))))), ?_⟩
    have hll : ((enc c).drop s).length = (enc x ++ r).length := by rw [hx]
    rw [List.length_drop, List.length_append] at hll
    refine ⟨_, rfl, _, rfl, _, rfl, _, rfl, _, rfl, t, enc c, s, rfl, .inr (SqT.of ht), hs, fun c' r' o' e' => ?_, fun hno => (hno x r ho hx).elim⟩
    obtain ⟨rfl, rfl⟩ := enc_inj _ _ _ _ (e'.symm.trans hx)
    refine ⟨_, rfl, t, _, rfl, SqT.of ht, fun hw => ?_, fun _ p hp => ?_⟩
    · rw [HT.sIx_nat, HT.sIx_nat, vn_len] at hw
      have e0 : s = 0 := by have := hw.1; omega
      subst e0
      have e1 : r' = [] := by
        have := hw.2
        cases r' with
        | nil => rfl
        | cons z r' => simp at hll; omega
      subst e1
      rw [List.drop_zero, List.append_nil] at hx
      exact k H t (Same.refl H) (by rw [← hx]; exact ht)
    · refine k _ p (same_upd hp) ?_
      rw [upd_same, cut_some _ _ _ (by rw [vn_len]; omega) (by rw [vn_len]; omega), vn_drop, vn_take, hx, show s + (enc c').length - s = (enc c').length by omega, List.take_left]
theorem scAtoms : FnScope ["concepts", "atoms", "concept", "start", "atom"] ["concepts"] (defScope sAtoms) := ⟨rfl, rfl, rfl, by decide +kernel, rfl, by decide +kernel, by decide +kernel⟩
theorem in_atomic (x : C) : inV (.int ((enc x).getD 0 0 : Nat)) [.int 2, .int 6, .int 7] = isAtom x := by
  cases x <;> simp [inV, eqV, enc, isAtom]
theorem subsM_append (cs ds : List C) : subsM (cs ++ ds) = subsM cs ++ subsM ds := by unfold subsM; rw [List.flatMap_append]
theorem ok_atoms {f fS fA : Addr} {fd fdS fdA : FuncData} (F : Fun K "atoms_of" "atoms_of" sAtoms f fd) (T : TxA K mg pP pC CN)
    (GS : FnOk P w K mg base CX0 2 fS fdS ["concept"] spStarts) (bS : Binds K fdS ["concept"] []) (mS : mg "part_starts" = some (.ref fS)) (kS : PySem.W.keepIn K (.ref fS) = true)
    (GA : FnOk P w K mg base CX0 3 fA fdA ["concept", "start"] spAt) (bA : Binds K fdA ["concept", "start"] []) (mA : mg "concept_at" = some (.ref fA)) (kA : PySem.W.keepIn K (.ref fA) = true) :
    FnOk P w K mg base CX0 4 f fd ["concepts"] (spAtoms K) := by
  refine F.ok scAtoms (fun vs H Q E h => ?_) (fun cdv A outer s H vs Q E hr h => ?_)
  · obtain ⟨a, ts, cs, rfl, _⟩ := h
    rfl
  · obtain ⟨a, ts, cs, rfl, hS, hC, ho, hb, k⟩ := h
    obtain ⟨uN, gN, rN⟩ := T.iName
    obtain ⟨uS, gS, rS⟩ := T.iSome
    obtain ⟨uO, gO, rO⟩ := T.iOnly
    refine ⟨_, pss_cons (ps_set (i := 1) scAtoms.nd rfl (Or.inl rfl) (pe_lst pa_nil))
      (pss_cons (ps_for PassesOwn.never rfl (pi_list (pv 0)) (pg_name (i := 2) scAtoms.nd rfl (Or.inl rfl))
        (pss_one (ps_for PassesOwn.never rfl (pi_list (pe_call GS (hr.mono (by decide)) (by rfl) mS kS bS .nil pass0 (pa_cons (pv 2) pa_nil))) (pg_name (i := 3) scAtoms.nd rfl (Or.inl rfl))
          (pss_one (ps_if (pt_cmpR op_in_seq (pe_ix ix_tup (pv 2) (pv 3) (fun _ _ => rfl)) (pe_tup (pa_cons (pe_glob (by rfl) gN rN) (pa_cons (pe_glob (by rfl) gS rS) (pa_cons (pe_glob (by rfl) gO rO) pa_nil)))) (by rfl))
            (pss_cons (ps_set (i := 4) scAtoms.nd rfl (Or.inl rfl) (pe_call GA hr (by rfl) mA kA bA .nil pass0 (pa_cons (pv 2) (pa_cons (pv 3) pa_nil))))
            (pss_one (ps_if (pt_cmpR (op_notInD (room65 hr)) (pv 4) (pv 1) (by rfl))
              (pss_one (ps_expr (pe_bm PySem.F.plainAttrs_list PySem.F.slot_list_append PySem.F.type_list_append mt_append (pv 1) (pa_cons (pv 4) pa_nil)))) pss_nil)))
            pss_nil)))))
      (pss_one (ps_ret (pv 1)))), ?_⟩
    have hlt := subsM_len cs
    have hlC : ts.length = cs.length := Paired.length hC
    refine ⟨Nat.zero_le _, fun q hq => ?_⟩
    have sq : Same H (upd H q (.lst [])) := same_upd hq
    refine ⟨_, rfl, a, rfl, ⟨_, sq.seq hS⟩, for_list (K := K) (a := a) (xs := ts.map V.ref) (fun i σ H1 => Same H H1 ∧ ∃ (v2 v3 v4 : Option V) (us : List Addr), σ = [some (.ref a), some (.ref q), v2, v3, v4] ∧
        H1 q = some (.lst (us.map V.ref)) ∧ Cons H1 us (gone (subsM (cs.take i)))) ⟨sq, none, none, none, [], rfl, upd_same, .nil⟩ (fun i σ H1 _ ⟨sm, _⟩ => sm.seq hS) ?_ ?_⟩
    · rintro i y σ H1 hi ⟨sm, v2, v3, v4, us, rfl, hL, hU⟩
      rw [List.getElem?_map] at hi
      obtain ⟨t, hti, rfl⟩ : ∃ t, ts[i]? = some t ∧ y = V.ref t := by
        cases e : ts[i]? with
        | none => rw [e] at hi; cases hi
        | some t => rw [e] at hi; exact ⟨t, rfl, (Option.some.inj hi).symm⟩
      obtain ⟨c, hci, htc⟩ := paired_get hC hti
      have hcm : c ∈ cs := List.mem_of_getElem? hci
      have hil : i < cs.length := (List.getElem?_eq_some_iff.mp hci).1
      have hsplit : subsM (cs.take (i + 1)) = subsM (cs.take i) ++ subs c := by
        rw [take_more hci, subsM_append]; simp [subsM]
      have hle : (subsM (cs.take (i + 1))).length ≤ (subsM cs).length := by
        have e : subsM cs = subsM (cs.take (i + 1)) ++ subsM (cs.drop (i + 1)) := by rw [← subsM_append, List.take_append_drop]
        rw [e, List.length_append]; omega
      have hce : (enc c).length ≤ 1000 := by
        have e : encs cs = encs (cs.take i) ++ (encs [c] ++ encs (cs.drop (i + 1))) := by
          rw [← encs_append, ← encs_append, ← List.append_assoc, ← take_more hci, List.take_append_drop]
        have e2 : (encs [c]).length = (enc c).length := by simp [encs]
        have := congrArg List.length e
        simp at this
        omega
      refine ⟨_, rfl, t, c, rfl, sm _ _ htc, ho c hcm, hce, fun H2 p s2 hp hP => ?_⟩
      refine ⟨p, rfl, ⟨_, SqL.of hP⟩, for_list (K := K) (a := p) (xs := vn (offs 0 c)) (fun j σ H3 => Same H H3 ∧ H3 p = some (.lst (vn (offs 0 c))) ∧ ∃ (v3 v4 : Option V) (us : List Addr), σ = [some (.ref a), some (.ref q), some (.ref t), v3, v4] ∧
          H3 q = some (.lst (us.map V.ref)) ∧ Cons H3 us (gone (subsM (cs.take i) ++ (subs c).take j)))
        ⟨sm.trans s2, hP, v3, v4, us, rfl, s2 _ _ hL, by rw [List.take_zero, List.append_nil]; exact hU.same s2⟩ (fun j σ H3 _ ⟨_, h, _⟩ => SqL.of h) ?_ ?_⟩
      · rintro j z σ H3 hj ⟨s3, hP3, w3, w4, us3, rfl, hL3, hU3⟩
        have hpq : p ≠ q := by
          intro e; subst e
          rw [hL] at hp
          cases hp
        unfold vn at hj
        rw [List.getElem?_map] at hj
        obtain ⟨o, hoj, rfl⟩ : ∃ o, (offs 0 c)[j]? = some o ∧ z = V.int (o : Nat) := by
          cases e : (offs 0 c)[j]? with
          | none => rw [e] at hj; cases hj
          | some o => rw [e] at hj; exact ⟨o, rfl, (Option.some.inj hj).symm⟩
        have hjl : j < (subs c).length := by
          have := (List.getElem?_eq_some_iff.mp hoj).1
          rw [offs_len] at this; exact this
        obtain ⟨x, hx⟩ : ∃ x, (subs c)[j]? = some x := ⟨_, List.getElem?_eq_getElem hjl⟩
        have hat : At (enc c) o x := at_offs (enc c) c 0 ⟨Nat.zero_le _, [], by simp⟩ j o x hoj hx
        have hxo : okc x := subs_ok (ho c hcm) x (List.mem_of_getElem? hx)
        obtain ⟨hol, r, hr0⟩ := hat
        have hn : (enc c)[o]? = some ((enc x).getD 0 0) := by
          have h0 : ((enc c).drop o)[0]? = (enc x ++ r)[0]? := by rw [hr0]
          rw [List.getElem?_drop, Nat.add_zero] at h0
          rw [h0]
          cases x <;> simp [enc]
        have ht3 := s3 _ _ htc
        refine ⟨_, rfl, _, rfl, t, _, _, _, rfl, rfl, SqT.of ht3, atI_nat (vn_get hn), ?_⟩
        refine ⟨(by show 3 ≤ sizeLine; decide), fun p1 hp1 => ?_⟩
        have s4 : Same H3 (upd H3 p1 (.tup [.int 2, .int 6, .int 7])) := same_upd hp1
        refine ⟨p1, _, rfl, .inr (SqT.of upd_same), rfl, rfl, _, rfl, ?_⟩
        have ein : (if false = true then !inV (.int ((enc x).getD 0 0 : Nat)) [.int 2, .int 6, .int 7] else inV (.int ((enc x).getD 0 0 : Nat)) [.int 2, .int 6, .int 7]) = isAtom x := by
          rw [if_neg Bool.false_ne_true]; exact in_atomic x
        rw [ein]
        have hsame : subsM (cs.take i) ++ (subs c).take (j + 1) = (subsM (cs.take i) ++ (subs c).take j) ++ [x] := by rw [take_more hx, List.append_assoc]
        have hgl : us3.length ≤ (subsM (cs.take (i + 1))).length := by
          have h1 := Paired.length hU3
          have h2 := gone_len (subsM (cs.take i) ++ (subs c).take j)
          rw [hsplit, List.length_append]
          rw [List.length_append, List.length_take] at h2
          omega
        by_cases hax : isAtom x = true
        · refine ifT hax ?_
          refine ⟨_, rfl, _, rfl, t, c, x, o, rfl, s4 _ _ ht3, hxo, ⟨hol, r, hr0⟩, fun H5 p5 s5 hp5 => ?_⟩
          have s45 := s4.trans s5
          have hU5 := hU3.same s45
          refine ⟨_, rfl, _, rfl, dC x, _, dp_c hp5, .lst (SqL.of (s45 _ _ hL3)) (dp_cs hU5), dC_shaped x, dCs_shaped _, _, rfl, ?_⟩
          rw [any_dC]
          by_cases hcon : (gone (subsM (cs.take i) ++ (subs c).take j)).contains x = true
          · rw [hcon]
            refine iteF ?_
            refine ⟨s3.trans s45, s45 _ _ hP3, _, _, us3, rfl, s45 _ _ hL3, ?_⟩
            rw [hsame, gone_more, if_pos hax, addD, if_pos hcon]
            exact hU5
          · have hcon' : (gone (subsM (cs.take i) ++ (subs c).take j)).contains x = false := by simpa using hcon
            rw [hcon']
            refine ifT rfl ?_
            refine ⟨_, rfl, .inl ⟨rfl, _, SqL.of (s45 _ _ hL3)⟩, _, rfl, q, _, _, rfl, rfl, s45 _ _ hL3, (by rw [List.length_map]; exact small1000 (by omega)), ?_⟩
            have hk : ∀ b o', b ≠ q → H5 b = some o' → (upd H5 q (.lst (us3.map V.ref ++ [.ref p5]))) b = some o' := fun b o' h1 h2 => by rw [upd_ne h1]; exact h2
            refine ⟨fun b o' h => hk b o' (ne_of_none h hq) (s45 _ _ (s3 _ _ h)), hk _ _ hpq (s45 _ _ hP3), _, _, us3 ++ [p5], rfl, by rw [upd_same, List.map_append]; rfl, ?_⟩
            rw [hsame, gone_more, if_pos hax, addD, if_neg hcon]
            refine Paired.snoc (L2.Paired.mapP hU5 fun t' c' h => hk _ _ (ne_of h (s45 _ _ hL3) (by intro z; cases z)) h) ?_
            exact hk _ _ (ne_of hp5 (s45 _ _ hL3) (by intro z; cases z)) hp5
        · have hax' : isAtom x = false := by simpa using hax
          refine ifF hax' ?_
          refine ⟨s3.trans s4, s4 _ _ hP3, _, _, us3, rfl, s4 _ _ hL3, ?_⟩
          rw [hsame, gone_more, if_neg hax]
          exact hU3.same s4
      · rintro σ H3 ⟨s3, hP3, w3, w4, us3, rfl, hL3, hU3⟩
        refine ⟨s3, _, _, _, us3, rfl, hL3, ?_⟩
        rw [vn_len, offs_len, List.take_length, ← hsplit] at hU3
        exact hU3
    · rintro σ H1 ⟨sm, v2, v3, v4, us, rfl, hL, hU⟩
      rw [List.length_map, hlC, List.take_length, gone_all] at hU
      exact ⟨_, rfl, k H1 q us sm hq hL hU⟩
end
end Cx
/-! ## CxK1 -/
namespace Cx
open Oc (C)
open PySem PySem.Spec PyProof.Rows L2
/-! ### Numbers -/
abbrev zn (n : Nat) : V := .int (n : Int)
theorem z_and (a b : Nat) : Builtin.bitAnd (a : Int) (b : Int) = ((a &&& b : Nat) : Int) := by simp [Builtin.bitAnd]
theorem z_or (a b : Nat) : Builtin.bitOr (a : Int) (b : Int) = ((a ||| b : Nat) : Int) := by
  rw [Bits.bitOr_pp (by omega) (by omega)]; rfl
theorem z_xor (a b : Nat) : Builtin.bitXor (a : Int) (b : Int) = ((a ^^^ b : Nat) : Int) := by
  rw [Bits.bitXor_pp (by omega) (by omega)]; rfl
theorem z_bit (t k : Nat) : Builtin.bitAnd ((t : Int) / 2 ^ ((k : Int).toNat)) 1 = ((t.testBit k).toNat : Int) := by
  have e : ((t : Int) / 2 ^ ((k : Int).toNat)) = ((t / 2 ^ k : Nat) : Int) := by
    rw [Int.toNat_natCast]
    push_cast
    rfl
  rw [e]
  show Builtin.bitAnd _ ((1 : Nat) : Int) = _
  rw [z_and, Nat.and_one_is_mod, Nat.testBit_eq_decide_div_mod_eq]
  have := Nat.mod_two_eq_zero_or_one (t / 2 ^ k)
  rcases this with h | h <;> simp [h]
theorem z_shl (k : Nat) : (1 : Int) * 2 ^ ((k : Int).toNat) = ((2 ^ k : Nat) : Int) := by
  rw [Int.toNat_natCast]; push_cast; omega
theorem bit1 (t k : Nat) : decide (V.int (Builtin.bitAnd ((t : Int) / 2 ^ ((k : Int).toNat)) 1) = V.int 1) = t.testBit k := by
  rw [z_bit]; cases t.testBit k <;> decide
theorem bit0 (t k : Nat) : decide (V.int (Builtin.bitAnd ((t : Int) / 2 ^ ((k : Int).toNat)) 1) = V.int 0) = !t.testBit k := by
  rw [z_bit]; cases t.testBit k <;> decide
theorem ip_or {X : Cx} : PIp X .BitOr (ipI fun i j => Builtin.bitOr i j) :=
  fun _ _ _ H _ _ _ _ _ inv ra rb ⟨i, j, ei, ej, q⟩ => by
    subst ei ej
    obtain ⟨ti, rfl⟩ := ra
    obtain ⟨tj, rfl⟩ := rb
    exact ior_int ⟨V.int (Builtin.bitOr i j), H, inv.tok _, ⟨_, rfl⟩, q⟩
theorem ip_and {X : Cx} : PIp X .BitAnd (ipI fun i j => Builtin.bitAnd i j) :=
  fun _ _ _ H _ _ _ _ _ inv ra rb ⟨i, j, ei, ej, q⟩ => by
    subst ei ej
    obtain ⟨ti, rfl⟩ := ra
    obtain ⟨tj, rfl⟩ := rb
    exact iand_int ⟨V.int (Builtin.bitAnd i j), H, inv.tok _, ⟨_, rfl⟩, q⟩
/-- list.extend by a tuple -/
def rExtendT (K : PySem.W.Frag) : V → List V → Hp → VK → Prop := fun x vs H Q => ∃ (a b : Addr) (old more : List V), x = .ref a ∧ vs = [.ref b] ∧ H a = some (.lst old) ∧ H b = some (.tup more) ∧
  old.length + more.length ≤ sizeLine ∧ Q .non (upd H a (.lst (old ++ more)))
/-- the built-in itself, whatever own dict and slots the tuple has -/
theorem ext_tup (a b : Addr) (xs ys : Array Value) (i j : Nat) (d : Option Addr) (sl : Array (Option Value)) (door : ¬(!xs.isEmpty && Builtin.List.listTooLong (xs.size + ys.size)) = true) (hx : xs.size ≤ sizeLine) (hxy : xs.size + ys.size ≤ sizeLine + 1) :
    Meets (Builtin.«list.extend» ⟨[.ref a, .ref b], []⟩) (fun _ R s => s.heap.get? a = some ⟨.type "list", none, .seq xs i, #[]⟩ ∧ s.heap.get? b = some ⟨.type "tuple", d, .seq ys j, sl⟩ ∧
      R (.ok (.ret Value.none)) { s with heap := s.heap.update a (Obj.mapSeq fun zs => zs ++ ys), toks := s.toks }) :=
  .of_wp fun _ _ _ _ st hyp => by
    obtain ⟨_, _, _, _, _⟩ := st
    obtain ⟨ha, hb, fin⟩ := hyp
    have g1 := AutoSeq1.sub_list_list; have g2 := AutoSeq1.sub_tuple_list; have g3 := AutoSeq1.sub_list_tuple; have g4 := AutoSeq1.sub_tuple_tuple; have g5 := AutoSeq1.idx_int
    have both : (xs ++ ys).size ≤ sizeLine + 1 := Array.size_append ▸ hxy
    wp_walk using (wpAny_updateSeq ha rfl (hz := hx) (_hz' := both)), AutoSeq1.wpAny_loadPart' ha, AutoSeq1.wpAny_loadPart' hb
    exact ⟨_, rfl, fin⟩
theorem mt_extendT {X : Cx} : MtM X "list.extend" (rExtendT X.K) :=
  fun _ _ _ _ _ _ _ _ _ inv rl ra ⟨a, b, old, more, e1, e2, ha, hb, hsz, fin⟩ => by
    subst e1 e2
    cases rl
    obtain ⟨_, rfl, ry⟩ := ra.one
    cases ry
    obtain ⟨_, us, i, ru, lu, ga⟩ := inv.lstM ha
    obtain ⟨ws, rw', ⟨⟨_, d, _, sl⟩, gb, hk, j, hdat⟩, _⟩ := inv.tuple (SqT.of hb)
    cases hk; cases hdat
    have lw := rw'.length
    have fit : us.toArray.size + ws.toArray.size ≤ sizeLine := by simp only [List.size_toArray]; omega
    have fit0 : us.toArray.size ≤ sizeLine := Nat.le_trans (Nat.le_add_right _ _) fit
    have door : ¬(!us.toArray.isEmpty && Builtin.List.listTooLong (us.toArray.size + ws.toArray.size)) = true := fun bad => by
      rw [Bool.and_eq_true, notLongL fit] at bad
      exact Bool.noConfusion bad.2
    exact call_meets PySem.F.slot_list_extend ⟨_, ga, rfl⟩ PySem.F.entry_list_extend (PySem.F.args_list_extend_2 _ _) (ext_tup a b us.toArray ws.toArray i j d sl door fit0 (by omega))
      ⟨ga, gb, .non, _, inv.lset (its' := us ++ ws) ha ga (by simp) (ru.append rw') (by simp only [List.length_append]; omega), rfl, fin⟩
/-! ### The objects -/
abbrev sFirst : Stmt := top 19
abbrev sRInit : Stmt := inClass (top 20) 0
abbrev sDemands : Stmt := inClass (top 20) 1
abbrev sKInit : Stmt := inClass (top 21) 0
abbrev sReadR : Stmt := inClass (top 21) 1
abbrev sHaving : Stmt := inClass (top 21) 2
abbrev sJoined : Stmt := inClass (top 21) 3
abbrev sNamesOf : Stmt := inClass (top 21) 4
abbrev sHavAtom : Stmt := inClass (top 21) 5
abbrev sPermit : Stmt := inClass (top 21) 6
abbrev sNeedsOf : Stmt := inClass (top 21) 7
abbrev sObeying : Stmt := inClass (top 21) 8
abbrev sSupp : Stmt := inClass (top 21) 9
abbrev sPossible : Stmt := inClass (top 21) 10
/-- how many kinds -/
abbrev kn (at_ : List C) : Nat := 2 ^ at_.length
/-- what the atoms of a call are -/
structure AtOk (at_ : List C) : Prop where
  atl : Atl at_
  six : at_.length ≤ 6
  ok : ∀ x ∈ at_, okc x
  short : ∀ x ∈ at_, (enc x).length ≤ 900
theorem AtOk.kn {at_ : List C} (h : AtOk at_) : kn at_ ≤ 64 := Nat.pow_le_pow_right (by decide) h.six
/-- a Kinds' attributes as they come -/
def kF (aA : Addr) (n : Nat) (rest : List (Str × V)) : List (Str × V) := ("atoms", .ref aA) :: ("total", zn (2 ^ n)) :: ("every", zn (2 ^ 2 ^ n - 1)) :: rest
def KRest (rest : List (Str × V)) : Prop := rest = [] ∨ (∃ r : V, rest = [(("restrictions" : Str), r)]) ∨ ∃ r q : V, rest = [(("restrictions" : Str), r), (("needs" : Str), q)]
/-- a Kinds with its atoms -/
def KB (CK : Addr) (H : Hp) (a : Addr) (at_ : List C) : Prop := ∃ (dx aA : Addr) (ts : List Addr) (rest : List (Str × V)), H a = some (.ins CK dx (kF aA at_.length rest)) ∧ KRest rest ∧ H aA = some (.lst (ts.map V.ref)) ∧ Cons H ts at_
/-- a restriction's attributes -/
def dm : C → Nat
  | .some _ _ => 1
  | _ => 0
def wg (at_ : List C) (x : C) : Nat := gof (fun u => wnt at_ u x) (kn at_)
def rF (at_ : List C) (x : C) (k : Nat) : List (Str × V) := [("role", zn (rl x)), ("place", zn k), ("demanding", zn (dm x)), ("wanted", zn (wg at_ x))]
def ResAt (CR : Addr) (at_ : List C) (H : Hp) (p : Addr) (x : C) : Prop := ∃ (dx : Addr) (k : Nat), H p = some (.ins CR dx (rF at_ x k)) ∧ at_[k]? = some x ∧ isR x = true
abbrev Ress (CR : Addr) (at_ : List C) (H : Hp) (rs : List Addr) (l : List C) : Prop := Paired (fun p x => ResAt CR at_ H p x) rs l
/-- .. with its restrictions -/
def KR (CK CR : Addr) (H : Hp) (a : Addr) (at_ : List C) : Prop := ∃ (dx aA aR : Addr) (ts rs : List Addr) (rest : List (Str × V)), H a = some (.ins CK dx (kF aA at_.length (("restrictions", .ref aR) :: rest))) ∧ KRest (("restrictions", .ref aR) :: rest) ∧
  H aA = some (.lst (ts.map V.ref)) ∧ Cons H ts at_ ∧ H aR = some (.lst (rs.map V.ref)) ∧ Ress CR at_ H rs (restr at_)
/-- a kind's demands as they stand: role and group -/
abbrev Pairs (H : Hp) (us : List Addr) (l : List (Nat × Nat)) : Prop := Paired (fun (u : Addr) (x : Nat × Nat) => H u = some (.tup [zn x.1, zn x.2])) us l
def NeedAt (at_ : List C) (H : Hp) (p : Addr) (t : Nat) : Prop := ∃ us : List Addr, H p = some (.lst (us.map V.ref)) ∧ Pairs H us (needG at_ t)
/-- .. with all its demands -/
def KN (CK CR : Addr) (H : Hp) (a : Addr) (at_ : List C) : Prop := ∃ (dx aA aR aN : Addr) (ts rs ns : List Addr), H a = some (.ins CK dx (kF aA at_.length [("restrictions", .ref aR), ("needs", .ref aN)])) ∧
  H aA = some (.lst (ts.map V.ref)) ∧ Cons H ts at_ ∧ H aR = some (.lst (rs.map V.ref)) ∧ Ress CR at_ H rs (restr at_) ∧
  H aN = some (.lst (ns.map V.ref)) ∧ Paired (fun p t => NeedAt at_ H p t) ns (List.range (kn at_))
theorem Pairs.same {H H' : Hp} {us : List Addr} {l : List (Nat × Nat)} (e : Same H H') (h : Pairs H us l) : Pairs H' us l := L2.Paired.mapP h fun _ _ q => e _ _ q
theorem Ress.same {CR : Addr} {at_ : List C} {H H' : Hp} {rs : List Addr} {l : List C} (e : Same H H') (h : Ress CR at_ H rs l) : Ress CR at_ H' rs l := L2.Paired.mapP h fun _ _ ⟨dx, k, h1, h2⟩ => ⟨dx, k, e _ _ h1, h2⟩
theorem KB.same {CK : Addr} {H H' : Hp} {a : Addr} {at_ : List C} (e : Same H H') (h : KB CK H a at_) : KB CK H' a at_ := by
  obtain ⟨dx, aA, ts, rest, h1, h2, h3, h4⟩ := h
  exact ⟨dx, aA, ts, rest, e _ _ h1, h2, e _ _ h3, h4.same e⟩
theorem KR.same {CK CR : Addr} {H H' : Hp} {a : Addr} {at_ : List C} (e : Same H H') (h : KR CK CR H a at_) : KR CK CR H' a at_ := by
  obtain ⟨dx, aA, aR, ts, rs, rest, h1, h2, h3, h4, h5, h6⟩ := h
  exact ⟨dx, aA, aR, ts, rs, rest, e _ _ h1, h2, e _ _ h3, h4.same e, e _ _ h5, h6.same e⟩
theorem KN.same {CK CR : Addr} {H H' : Hp} {a : Addr} {at_ : List C} (e : Same H H') (h : KN CK CR H a at_) : KN CK CR H' a at_ := by
  obtain ⟨dx, aA, aR, aN, ts, rs, ns, h1, h3, h4, h5, h6, h7, h8⟩ := h
  exact ⟨dx, aA, aR, aN, ts, rs, ns, e _ _ h1, e _ _ h3, h4.same e, e _ _ h5, h6.same e, e _ _ h7, L2.Paired.mapP h8 fun _ _ ⟨us, q1, q2⟩ => ⟨us, e _ _ q1, q2.same e⟩⟩
theorem KR.kb {CK CR : Addr} {H : Hp} {a : Addr} {at_ : List C} (h : KR CK CR H a at_) : KB CK H a at_ := by
  obtain ⟨dx, aA, aR, ts, rs, rest, h1, h2, h3, h4, h5, h6⟩ := h
  exact ⟨dx, aA, ts, _, h1, h2, h3, h4⟩
theorem KN.kr {CK CR : Addr} {H : Hp} {a : Addr} {at_ : List C} (h : KN CK CR H a at_) : KR CK CR H a at_ := by
  obtain ⟨dx, aA, aR, aN, ts, rs, ns, h1, h3, h4, h5, h6, h7, h8⟩ := h
  exact ⟨dx, aA, aR, ts, rs, _, h1, .inr (.inr ⟨_, _, rfl⟩), h3, h4, h5, h6⟩
/-! lookups -/
theorem lk_here {k : Str} {v : V} {r : List (Str × V)} : ((k, v) :: r : List (Str × V)).lookup k = some v := by simp [List.lookup]
theorem lk_past {k g : Str} {v : V} {r : List (Str × V)} (h : (k == g) = false) : ((g, v) :: r : List (Str × V)).lookup k = r.lookup k := by simp [List.lookup, h]
theorem put_here {f : Str} {x y : V} {r : List (Str × V)} : putF f y ((f, x) :: r) = (f, y) :: r := by simp [putF]
theorem put_past {f g : Str} {x y : V} {r : List (Str × V)} (h : ¬ g = f) : putF f y ((g, x) :: r) = (g, x) :: putF f y r := by simp [putF, h]
section
variable {aA : Addr} {n : Nat} {rest : List (Str × V)}
theorem kF_atoms : (kF aA n rest).lookup ("atoms" : Str) = some (.ref aA) := lk_here
theorem kF_total : (kF aA n rest).lookup ("total" : Str) = some (zn (2 ^ n)) := (lk_past (by decide +kernel)).trans lk_here
theorem kF_every : (kF aA n rest).lookup ("every" : Str) = some (zn (2 ^ 2 ^ n - 1)) := (lk_past (by decide +kernel)).trans ((lk_past (by decide +kernel)).trans lk_here)
theorem kF_restr {r : V} : (kF aA n (("restrictions", r) :: rest)).lookup ("restrictions" : Str) = some r := (lk_past (by decide +kernel)).trans ((lk_past (by decide +kernel)).trans ((lk_past (by decide +kernel)).trans lk_here))
theorem kF_needs {r q : V} : (kF aA n [("restrictions", r), ("needs", q)]).lookup ("needs" : Str) = some q := (lk_past (by decide +kernel)).trans ((lk_past (by decide +kernel)).trans ((lk_past (by decide +kernel)).trans ((lk_past (by decide +kernel)).trans lk_here)))
/-- a name that is none of the attributes -/
theorem kF_no (h : KRest rest) {m : Str} (h1 : (m == ("atoms" : Str)) = false) (h2 : (m == ("total" : Str)) = false) (h3 : (m == ("every" : Str)) = false) (h4 : (m == ("restrictions" : Str)) = false) (h5 : (m == ("needs" : Str)) = false) :
    (kF aA n rest).lookup m = none := by
  unfold kF
  rw [lk_past h1, lk_past h2, lk_past h3]
  rcases h with rfl | ⟨r, rfl⟩ | ⟨r, q, rfl⟩
  · rfl
  · rw [lk_past h4]; rfl
  · rw [lk_past h4, lk_past h5]; rfl
end
section
variable {at_ : List C} {x : C} {k : Nat}
theorem rF_role : (rF at_ x k).lookup ("role" : Str) = some (zn (rl x)) := lk_here
theorem rF_place : (rF at_ x k).lookup ("place" : Str) = some (zn k) := (lk_past (by decide +kernel)).trans lk_here
theorem rF_dem : (rF at_ x k).lookup ("demanding" : Str) = some (zn (dm x)) := (lk_past (by decide +kernel)).trans ((lk_past (by decide +kernel)).trans lk_here)
theorem rF_want : (rF at_ x k).lookup ("wanted" : Str) = some (zn (wg at_ x)) := (lk_past (by decide +kernel)).trans ((lk_past (by decide +kernel)).trans ((lk_past (by decide +kernel)).trans lk_here))
theorem rF_demands : (rF at_ x k).lookup ("demands" : Str) = none := (lk_past (by decide +kernel)).trans ((lk_past (by decide +kernel)).trans ((lk_past (by decide +kernel)).trans ((lk_past (by decide +kernel)).trans rfl)))
end
/-! ### What the top has written of kinds.py -/
structure TxK (K : PySem.W.Frag) (mg : Str → Option Value) (CK CR : Addr) : Prop where
  range : mg "range" = none
  reversed : mg "reversed" = none
  enumerate : mg "enumerate" = none
  all : mg "all" = none
  clK : Cls K CK
  clR : Cls K CR
  gCK : mg "Kinds" = some (.ref CK)
  gCR : mg "Restriction" = some (.ref CR)
  nAtoms : NoAttr K CK "atoms"
  nTotal : NoAttr K CK "total"
  nEvery : NoAttr K CK "every"
  nRestr : NoAttr K CK "restrictions"
  nNeeds : NoAttr K CK "needs"
  nRole : NoAttr K CR "role"
  nPlace : NoAttr K CR "place"
  nDem : NoAttr K CR "demanding"
  nWant : NoAttr K CR "wanted"
  iTop : ∃ u, mg "TOP" = some u ∧ RelV (.int 0) u
  iBottom : ∃ u, mg "BOTTOM" = some u ∧ RelV (.int 1) u
  iBoth : ∃ u, mg "BOTH" = some u ∧ RelV (.int 3) u
  iEither : ∃ u, mg "EITHER" = some u ∧ RelV (.int 4) u
  iWithout : ∃ u, mg "WITHOUT" = some u ∧ RelV (.int 5) u
/-! ### Promises -/
/-- first_kind -/
def spFirst : Sp := fun vs H Q _ => ∃ g k : Nat, vs = [zn g] ∧ First g k ∧ Q (zn k) H
/-- Restriction.__init__ -/
def spRInit (CR : Addr) : Sp := fun vs H Q _ => ∃ (p dx : Addr) (r k d g : Nat), vs = [.ref p, zn r, zn k, zn d, zn g] ∧ H p = some (.ins CR dx []) ∧
  ∀ H' : Hp, H' p = some (.ins CR dx [("role", zn r), ("place", zn k), ("demanding", zn d), ("wanted", zn g)]) → (∀ b o, H b = some o → b ≠ p → H' b = some o) → Q .non H'
/-- demands -/
def spDemands (CR : Addr) : Sp := fun vs H Q _ => ∃ (p : Addr) (at_ : List C) (x : C) (t : Nat), vs = [.ref p, zn t] ∧ AtOk at_ ∧ ResAt CR at_ H p x ∧ Q (.bl (dmd at_ t x)) H
/-- having_atom -/
def spHavAtom (CK : Addr) : Sp := fun vs H Q _ => ∃ (a : Addr) (at_ : List C) (k : Nat), vs = [.ref a, zn k] ∧ AtOk at_ ∧ KB CK H a at_ ∧ Q (zn (gof (fun t => t.testBit k) (kn at_))) H
section
variable {P : Program} {w : World} {K : PySem.W.Frag} {mg : Str → Option Value} {base : Heap} {CK CR : Addr}
theorem scFirst : FnScope ["group", "kind"] ["group"] (defScope sFirst) := ⟨rfl, rfl, rfl, by decide +kernel, rfl, by decide +kernel, by decide +kernel⟩
theorem ok_first {f : Addr} {fd : FuncData} (F : Fun K "first_kind" "first_kind" sFirst f fd) : FnOk P w K mg base CX0 1 f fd ["group"] spFirst := by
  refine F.ok scFirst (fun vs H Q E h => ?_) (fun cdv A outer s H vs Q E hr h => ?_)
  · obtain ⟨g, k, rfl, _⟩ := h
    rfl
  · obtain ⟨g, k, rfl, ⟨hk, hj⟩, q⟩ := h
    refine ⟨_, pss_cons (ps_set (i := 1) scFirst.nd rfl (Or.inl rfl) pe_int)
      (pss_cons (ps_while PassesOwn.never (pt_cmpR op_eq (pe_op op_and (pe_op op_shr (pv 0) (pv 1)) pe_int) pe_int (nomark _))
        (pss_one (ps_aug (i := 1) scFirst.nd rfl (Or.inl rfl) pe_int ip_add)))
      (pss_one (ps_ret (pv 1)))), ?_⟩
    refine while_by (fun σ H1 => H1 = H ∧ ∃ j : Nat, σ = [some (zn g), some (zn j)] ∧ j ≤ k) (fun σ _ => match σ with | [_, some (.int j)] => k - j.toNat | _ => 0) ⟨rfl, 0, rfl, Nat.zero_le _⟩ ?_ ?_
    · rintro σ H1 ⟨rfl, j, rfl, hjk⟩
      refine ⟨_, rfl, _, rfl, _, _, rfl, rfl, (by omega), _, _, rfl, rfl, rfl, _, rfl, ?_⟩
      by_cases e : j = k
      · subst e
        refine ifF ((bit0 g j).trans (by rw [hk]; rfl)) ?_
        exact ⟨_, rfl, q⟩
      · have hlt : j < k := by omega
        refine ifT ((bit0 g j).trans (by rw [hj j hlt]; rfl)) ?_
        refine ⟨_, rfl, _, _, rfl, rfl, ?_⟩
        have e1 : (j : Int) + 1 = ((j + 1 : Nat) : Int) := by omega
        refine ⟨⟨rfl, j + 1, ?_, by omega⟩, ?_⟩
        · show [some (zn g), some (V.int ((j : Int) + 1))] = _
          rw [e1]
        · show k - ((j : Int) + 1).toNat < k - ((j : Int)).toNat
          omega
    · intro σ H1 Q Q' hq
      rintro ⟨x, h1, y, h2, i, j, h3, h4, h5, i', j', h6, h7, h8, k', h9, h10⟩
      exact ⟨x, h1, y, h2, i, j, h3, h4, h5, i', j', h6, h7, h8, k', h9, hq _ _ h10⟩
theorem scRInit : FnScope ["self", "role", "place", "demanding", "wanted"] ["self", "role", "place", "demanding", "wanted"] (defScope sRInit) := ⟨rfl, rfl, rfl, by decide +kernel, rfl, by decide +kernel, by decide +kernel⟩
theorem ok_rinit {f : Addr} {fd : FuncData} (F : Fun K "__init__" "Restriction.__init__" sRInit f fd) (T : TxK K mg CK CR) : FnOk P w K mg base CX0 1 f fd ["self", "role", "place", "demanding", "wanted"] (spRInit CR) := by
  refine F.ok scRInit (fun vs H Q E h => ?_) (fun cdv A outer s H vs Q E hr h => ?_)
  · obtain ⟨p, dx, r, k, d, g, rfl, _⟩ := h
    rfl
  · obtain ⟨p, dx, r, k, d, g, rfl, hp, q⟩ := h
    refine ⟨_, pss_cons (ps_fld (pv 0) (pv 1) rfl) (pss_cons (ps_fld (pv 0) (pv 2) rfl) (pss_cons (ps_fld (pv 0) (pv 3) rfl) (pss_one (ps_fld (pv 0) (pv 4) rfl)))), ?_⟩
    refine ⟨_, rfl, _, rfl, p, CR, dx, _, rfl, hp, T.clR, T.nRole, (by decide), ?_⟩
    refine ⟨_, rfl, _, rfl, p, CR, dx, _, rfl, upd_same, T.clR, T.nPlace, (by show 1 < 1000; decide), ?_⟩
    refine ⟨_, rfl, _, rfl, p, CR, dx, _, rfl, upd_same, T.clR, T.nDem, (by show 2 < 1000; decide), ?_⟩
    refine ⟨_, rfl, _, rfl, p, CR, dx, _, rfl, upd_same, T.clR, T.nWant, (by show 3 < 1000; decide), ?_⟩
    refine q _ ?_ fun b o e hb => by rw [upd_ne hb, upd_ne hb, upd_ne hb, upd_ne hb]; exact e
    rw [upd_same]
    have e1 : putF "role" (zn r) [] = ([("role", zn r)] : List (Str × V)) := rfl
    have e2 : putF "place" (zn k) ([("role", zn r)] : List (Str × V)) = ([("role", zn r), ("place", zn k)] : List (Str × V)) := (put_past (by decide +kernel)).trans rfl
    have e3 : putF "demanding" (zn d) ([("role", zn r), ("place", zn k)] : List (Str × V)) = ([("role", zn r), ("place", zn k), ("demanding", zn d)] : List (Str × V)) := (put_past (by decide +kernel)).trans (congrArg _ ((put_past (by decide +kernel)).trans rfl))
    have e4 : putF "wanted" (zn g) ([("role", zn r), ("place", zn k), ("demanding", zn d)] : List (Str × V)) = ([("role", zn r), ("place", zn k), ("demanding", zn d), ("wanted", zn g)] : List (Str × V)) :=
      (put_past (by decide +kernel)).trans (congrArg _ ((put_past (by decide +kernel)).trans (congrArg _ ((put_past (by decide +kernel)).trans rfl))))
    rw [e1, e2, e3, e4]
theorem dmd_bit {at_ : List C} (A : AtOk at_) {k : Nat} {x : C} (h : at_[k]? = some x) (hr : isR x = true) (t : Nat) : (decide (V.int ((t.testBit k).toNat : Int) = V.int ((dm x : Nat) : Int))) = dmd at_ t x := by
  have e := holds_atom A.atl.nd h (A.atl.ia x (List.mem_of_getElem? h)) t
  cases x <;> simp [isR] at hr
  · show decide (V.int ((t.testBit k).toNat : Int) = V.int ((1 : Nat) : Int)) = Oc.holds at_ t _
    rw [e]
    cases t.testBit k <;> decide
  · show decide (V.int ((t.testBit k).toNat : Int) = V.int ((0 : Nat) : Int)) = !Oc.holds at_ t _
    rw [e]
    cases t.testBit k <;> decide
theorem scDemands : FnScope ["self", "kind"] ["self", "kind"] (defScope sDemands) := ⟨rfl, rfl, rfl, by decide +kernel, rfl, by decide +kernel, by decide +kernel⟩
theorem ok_demands {f : Addr} {fd : FuncData} (F : Fun K "demands" "Restriction.demands" sDemands f fd) (T : TxK K mg CK CR) : FnOk P w K mg base CX0 1 f fd ["self", "kind"] (spDemands CR) := by
  refine F.ok scDemands (fun vs H Q E h => ?_) (fun cdv A outer s H vs Q E hr h => ?_)
  · obtain ⟨p, at_, x, t, rfl, _⟩ := h
    rfl
  · obtain ⟨p, at_, x, t, rfl, A, ⟨dx, k, hp, hk, hx⟩, q⟩ := h
    refine ⟨_, pss_one (ps_ret (pe_cmpR op_eq (pe_op op_and (pe_op op_shr (pv 1) (pe_fld (pv 0) rfl)) pe_int) (pe_fld (pv 0) rfl) (nomark _))), ?_⟩
    refine ⟨_, rfl, _, rfl, p, CR, dx, _, _, rfl, hp, T.clR, T.nPlace, rF_place, _, _, rfl, rfl, (by omega), _, _, rfl, rfl, _, rfl, p, CR, dx, _, _, rfl, hp, T.clR, T.nDem, rF_dem, rfl, ?_⟩
    exact (congrArg (fun b => Q (V.bl b) H) ((congrArg (fun z : Int => decide (V.int z = V.int ((dm x : Nat) : Int))) (z_bit t k)).trans (dmd_bit A hk hx t))).mpr q
theorem scHavAtom : FnScope ["self", "place", "group", "kind"] ["self", "place"] (defScope sHavAtom) := ⟨rfl, rfl, rfl, by decide +kernel, rfl, by decide +kernel, by decide +kernel⟩
theorem ok_havatom {f : Addr} {fd : FuncData} (F : Fun K "having_atom" "Kinds.having_atom" sHavAtom f fd) (T : TxK K mg CK CR) : FnOk P w K mg base CX0 1 f fd ["self", "place"] (spHavAtom CK) := by
  refine F.ok scHavAtom (fun vs H Q E h => ?_) (fun cdv A outer s H vs Q E hr h => ?_)
  · obtain ⟨a, at_, k, rfl, _⟩ := h
    rfl
  · obtain ⟨a, at_, k, rfl, A, ⟨dx, aA, ts, rest, ha, hrest, hA, hC⟩, q⟩ := h
    refine ⟨_, pss_cons (ps_set (i := 2) scHavAtom.nd rfl (Or.inl rfl) pe_int)
      (pss_cons (ps_for PassesOwn.never rfl (pi_range1 rfl T.range (pa_cons (pe_fld (pv 0) rfl) pa_nil)) (pg_name (i := 3) scHavAtom.nd rfl (Or.inl rfl))
        (pss_one (ps_if (pt_cmpR op_eq (pe_op op_and (pe_op op_shr (pv 3) (pv 1)) pe_int) pe_int (nomark _))
          (pss_one (ps_aug (i := 2) scHavAtom.nd rfl (Or.inl rfl) (pe_op op_shl pe_int (pv 3)) ip_or)) pss_nil)))
      (pss_one (ps_ret (pv 2)))), ?_⟩
    have hkn := A.kn
    refine ⟨_, rfl, a, CK, dx, _, _, rfl, ha, T.clK, T.nTotal, kF_total, (kn at_), rfl, (by omega), (by omega), ?_⟩
    refine for_range (n := kn at_) (fun i σ H1 => H1 = H ∧ ∃ v, σ = [some (.ref a), some (zn k), some (zn (gof (fun t => t.testBit k) i)), v]) ⟨rfl, none, rfl⟩ ?_ ?_
    · rintro i σ H1 hi ⟨rfl, v, rfl⟩
      rw [Int.zero_add]
      refine ⟨_, rfl, _, rfl, _, _, rfl, rfl, (by omega), _, _, rfl, rfl, rfl, _, rfl, ?_⟩
      by_cases e : i.testBit k = true
      · refine ifT ((bit1 i k).trans e) ?_
        refine ⟨_, rfl, _, rfl, _, _, rfl, rfl, ⟨by omega, by omega, by decide⟩, _, _, rfl, rfl, ?_⟩
        refine ⟨rfl, some (zn i), ?_⟩
        show [_, _, some (V.int (Builtin.bitOr ((gof (fun t => t.testBit k) i : Nat) : Int) (1 * 2 ^ ((i : Int).toNat)))), _] = _
        rw [z_shl, z_or]
        show _ = [_, _, some (zn (if i.testBit k = true then gof (fun t => t.testBit k) i ||| 2 ^ i else gof (fun t => t.testBit k) i)), _]
        rw [if_pos e]
      · have e' : i.testBit k = false := by simpa using e
        refine ifF ((bit1 i k).trans e') ?_
        refine ⟨rfl, some (zn i), ?_⟩
        show _ = [_, _, some (zn (if i.testBit k = true then gof (fun t => t.testBit k) i ||| 2 ^ i else gof (fun t => t.testBit k) i)), _]
        rw [if_neg e]
        rfl
    · rintro σ H1 ⟨rfl, v, rfl⟩
      exact ⟨_, rfl, q⟩
end
end Cx
/-! ## CxK2 -/
namespace Cx
open Oc (C)
open PySem PySem.Spec PyProof.Rows L2
/-! ### Groups of concepts -/
theorem grp_top (at_ : List C) : grp at_ .top = 2 ^ kn at_ - 1 := gof_every _
theorem grp_bot (at_ : List C) : grp at_ .bot = 0 := gof_none _
theorem grp_and (at_ : List C) (c d : C) : grp at_ (.and c d) = grp at_ c &&& grp at_ d := (gof_and _ _ _).symm
theorem grp_or (at_ : List C) (c d : C) : grp at_ (.or c d) = grp at_ c ||| grp at_ d := (gof_or _ _ _).symm
theorem grp_not (at_ : List C) (c : C) : grp at_ (.not c) = (2 ^ kn at_ - 1) ^^^ grp at_ c := (gof_not _ _).symm
theorem grp_atom {at_ : List C} (A : AtOk at_) {k : Nat} {x : C} (h : at_[k]? = some x) : grp at_ x = gof (fun t => t.testBit k) (kn at_) :=
  gof_ext.mpr fun t _ => holds_atom A.atl.nd h (A.atl.ia x (List.mem_of_getElem? h)) t
def hd (c : C) : Nat := (enc c).getD 0 0
theorem enc_hd (c : C) : (enc c)[0]? = some (hd c) := by cases c <;> rfl
theorem hd_lt (c : C) : hd c < 8 := by cases c <;> simp [hd, enc]
theorem hd_parts (c : C) : parts (hd c) = (kids c).length := by cases c <;> rfl
theorem subs_trans {c x : C} (h : x ∈ subs c) : ∀ y ∈ subs x, y ∈ subs c := by
  induction c with
  | top => intro y hy; simp [subs] at h; subst h; exact hy
  | bot => intro y hy; simp [subs] at h; subst h; exact hy
  | name a => intro y hy; simp [subs] at h; subst h; exact hy
  | and a b ia ib =>
    intro y hy
    simp only [subs, List.mem_cons, List.mem_append] at h
    rcases h with rfl | h | h
    · exact hy
    · simp [subs, ia h y hy]
    · simp [subs, ib h y hy]
  | or a b ia ib =>
    intro y hy
    simp only [subs, List.mem_cons, List.mem_append] at h
    rcases h with rfl | h | h
    · exact hy
    · simp [subs, ia h y hy]
    · simp [subs, ib h y hy]
  | not a ia =>
    intro y hy
    simp only [subs, List.mem_cons] at h
    rcases h with rfl | h
    · exact hy
    · simp [subs, ia h y hy]
  | some r a ia =>
    intro y hy
    simp only [subs, List.mem_cons] at h
    rcases h with rfl | h
    · exact hy
    · simp [subs, ia h y hy]
  | all r a ia =>
    intro y hy
    simp only [subs, List.mem_cons] at h
    rcases h with rfl | h
    · exact hy
    · simp [subs, ia h y hy]
theorem cov_subs {at_ : List C} {c x : C} (h : Cov at_ c) (hx : x ∈ subs c) : Cov at_ x := by
  intro y hy
  rw [atoms_eq] at hy
  obtain ⟨h1, h2⟩ := List.mem_filter.mp hy
  refine h y ?_
  rw [atoms_eq]
  exact List.mem_filter.mpr ⟨subs_trans hx y h1, h2⟩
/-- joined -/
def spJoined (CK : Addr) : Sp := fun vs H Q _ => ∃ (a t i : Addr) (at_ : List C) (c : C), vs = [.ref a, .ref t, .ref i] ∧ AtOk at_ ∧ KB CK H a at_ ∧ H t = some (.tup (vn (enc c))) ∧ Cov at_ c ∧
  H i = some (.lst ((kids c).map fun d => zn (grp at_ d))) ∧ Q (zn (grp at_ c)) H
/-- having -/
def spHaving (CK : Addr) : Sp := fun vs H Q _ => ∃ (a t : Addr) (at_ : List C) (c : C), vs = [.ref a, .ref t] ∧ AtOk at_ ∧ KB CK H a at_ ∧ H t = some (.tup (vn (enc c))) ∧ okc c ∧ Cov at_ c ∧ (enc c).length ≤ 900 ∧
  ∀ H', Same H H' → Q (zn (grp at_ c)) H'
theorem eqNum (a b : Nat) : decide (V.int (a : Int) = V.int (b : Int)) = decide (a = b) := by
  by_cases h : a = b
  · subst h; simp
  · rw [decide_eq_false h, decide_eq_false]
    intro e
    injection e with e
    omega
section
variable {P : Program} {w : World} {K : PySem.W.Frag} {mg : Str → Option Value} {base : Heap} {CK CR pP pC CN : Addr}
theorem scJoined : FnScope ["self", "concept", "inner"] ["self", "concept", "inner"] (defScope sJoined) := ⟨rfl, rfl, rfl, by decide +kernel, rfl, by decide +kernel, by decide +kernel⟩
theorem ok_joined {f fA : Addr} {fd fdA : FuncData} (F : Fun K "joined" "Kinds.joined" sJoined f fd) (T : TxK K mg CK CR)
    (GA : FnOk P w K mg base CX0 1 fA fdA ["self", "place"] (spHavAtom CK)) (bA : Binds K fdA ["self", "place"] []) (mA : Meth K CK "having_atom" fA) :
    FnOk P w K mg base CX0 2 f fd ["self", "concept", "inner"] (spJoined CK) := by
  refine F.ok scJoined (fun vs H Q E h => ?_) (fun cdv A outer s H vs Q E hr h => ?_)
  · obtain ⟨a, t, i, at_, c, rfl, _⟩ := h
    rfl
  · obtain ⟨a, t, i, at_, c, rfl, AO, hK, ht, hc, hi, q⟩ := h
    obtain ⟨u0, g0, r0⟩ := T.iTop
    obtain ⟨u1, g1, r1⟩ := T.iBottom
    obtain ⟨u3, g3, r3⟩ := T.iBoth
    obtain ⟨u4, g4, r4⟩ := T.iEither
    obtain ⟨u5, g5, r5⟩ := T.iWithout
    refine ⟨_, pss_cons (ps_if (pt_cmpR op_eq (pe_ix ix_tup (pv 1) pe_int (fun _ _ => rfl)) (pe_glob (by rfl) g0 r0) (nomark _)) (pss_one (ps_ret (pe_fld (pv 0) rfl))) pss_nil)
      (pss_cons (ps_if (pt_cmpR op_eq (pe_ix ix_tup (pv 1) pe_int (fun _ _ => rfl)) (pe_glob (by rfl) g1 r1) (nomark _)) (pss_one (ps_ret pe_int)) pss_nil)
      (pss_cons (ps_if (pt_cmpR op_eq (pe_ix ix_tup (pv 1) pe_int (fun _ _ => rfl)) (pe_glob (by rfl) g3 r3) (nomark _)) (pss_one (ps_ret (pe_op op_and (pe_ix ix_list (pv 2) pe_int (fun _ _ => rfl)) (pe_ix ix_list (pv 2) pe_int (fun _ _ => rfl))))) pss_nil)
      (pss_cons (ps_if (pt_cmpR op_eq (pe_ix ix_tup (pv 1) pe_int (fun _ _ => rfl)) (pe_glob (by rfl) g4 r4) (nomark _)) (pss_one (ps_ret (pe_op op_or (pe_ix ix_list (pv 2) pe_int (fun _ _ => rfl)) (pe_ix ix_list (pv 2) pe_int (fun _ _ => rfl))))) pss_nil)
      (pss_cons (ps_if (pt_cmpR op_eq (pe_ix ix_tup (pv 1) pe_int (fun _ _ => rfl)) (pe_glob (by rfl) g5 r5) (nomark _)) (pss_one (ps_ret (pe_op op_xor (pe_fld (pv 0) rfl) (pe_ix ix_list (pv 2) pe_int (fun _ _ => rfl))))) pss_nil)
      (pss_one (ps_ret (pe_meth (pv 0) T.clK mA GA hr bA .nil pass0 (pa_cons (pe_bm PySem.F.plainAttrs_list PySem.F.slot_list_index PySem.F.type_list_index (mt_indexD (room65 hr)) (pe_fld (pv 0) rfl) (pa_cons (pv 1) pa_nil)) pa_nil)))))))), ?_⟩
    have hK' := hK
    obtain ⟨dx, aA, ts, rest, ha, hrest, hA, hC⟩ := hK
    have h0 : (vn (enc c))[0]? = some (V.int (hd c : Nat)) := vn_get (enc_hd c)
    -- one test
    have test : ∀ {n : Nat} {A B : Prop}, (hd c = n → A) → (hd c ≠ n → B) → if decide (V.int ((hd c : Nat) : Int) = V.int (n : Int)) = true then A else B := by
      intro n A B hA hB
      by_cases h : hd c = n
      · exact ifT (by rw [eqNum]; exact decide_eq_true h) (hA h)
      · exact ifF (by rw [eqNum]; exact decide_eq_false h) (hB h)
    refine ⟨_, rfl, t, _, _, _, rfl, rfl, SqT.of ht, atI_nat (j := 0) h0, rfl, _, rfl, test (n := 0) (fun e => ?_) (fun n0 => ?_)⟩
    · refine ⟨_, rfl, a, CK, dx, _, _, rfl, ha, T.clK, T.nEvery, kF_every, ?_⟩
      have ec : c = .top := by cases c <;> simp [hd, enc] at e; rfl
      subst ec
      rw [grp_top] at q
      exact q
    refine ⟨_, rfl, t, _, _, _, rfl, rfl, SqT.of ht, atI_nat (j := 0) h0, rfl, _, rfl, test (n := 1) (fun e => ?_) (fun n1 => ?_)⟩
    · have ec : c = .bot := by cases c <;> simp [hd, enc] at e; rfl
      subst ec
      rw [grp_bot] at q
      exact q
    refine ⟨_, rfl, t, _, _, _, rfl, rfl, SqT.of ht, atI_nat (j := 0) h0, rfl, _, rfl, test (n := 3) (fun e => ?_) (fun n3 => ?_)⟩
    · obtain ⟨x, y, ec⟩ : ∃ x y, c = .and x y := by cases c <;> simp [hd, enc] at e; exact ⟨_, _, rfl⟩
      subst ec
      refine ⟨_, rfl, i, _, _, _, rfl, rfl, SqL.of hi, atI_nat (j := 0) rfl, _, rfl, i, _, _, _, rfl, rfl, SqL.of hi, atI_nat (j := 1) rfl, _, _, rfl, rfl, ?_⟩
      rw [grp_and] at q
      show Q (V.int (Builtin.bitAnd _ _)) H
      rw [z_and]
      exact q
    refine ⟨_, rfl, t, _, _, _, rfl, rfl, SqT.of ht, atI_nat (j := 0) h0, rfl, _, rfl, test (n := 4) (fun e => ?_) (fun n4 => ?_)⟩
    · obtain ⟨x, y, ec⟩ : ∃ x y, c = .or x y := by cases c <;> simp [hd, enc] at e; exact ⟨_, _, rfl⟩
      subst ec
      refine ⟨_, rfl, i, _, _, _, rfl, rfl, SqL.of hi, atI_nat (j := 0) rfl, _, rfl, i, _, _, _, rfl, rfl, SqL.of hi, atI_nat (j := 1) rfl, _, _, rfl, rfl, ?_⟩
      rw [grp_or] at q
      show Q (V.int (Builtin.bitOr _ _)) H
      rw [z_or]
      exact q
    refine ⟨_, rfl, t, _, _, _, rfl, rfl, SqT.of ht, atI_nat (j := 0) h0, rfl, _, rfl, test (n := 5) (fun e => ?_) (fun n5 => ?_)⟩
    · obtain ⟨x, ec⟩ : ∃ x, c = .not x := by cases c <;> simp [hd, enc] at e; exact ⟨_, rfl⟩
      subst ec
      refine ⟨_, rfl, a, CK, dx, _, _, rfl, ha, T.clK, T.nEvery, kF_every, _, rfl, i, _, _, _, rfl, rfl, SqL.of hi, atI_nat (j := 0) rfl, _, _, rfl, rfl, ?_⟩
      rw [grp_not] at q
      show Q (V.int (Builtin.bitXor ((2 ^ kn at_ - 1 : Nat) : Int) _)) H
      rw [z_xor]
      exact q
    have hm : c ∈ at_ := by
      refine hc c ?_
      cases c <;> simp [hd, enc] at n0 n1 n3 n4 n5 <;> simp [Oc.C.atoms]
    obtain ⟨k, hk, ek⟩ := List.getElem_of_mem hm
    have hk2 : at_[k]? = some c := by rw [List.getElem?_eq_getElem hk, ek]
    refine ⟨_, rfl, a, dx, _, rfl, ha, kF_no hrest (by decide +kernel) (by decide +kernel) (by decide +kernel) (by decide +kernel) (by decide +kernel), ?_⟩
    refine ⟨_, rfl, a, CK, dx, _, _, rfl, ha, T.clK, T.nAtoms, kF_atoms, .inl ⟨rfl, _, SqL.of hA⟩, _, rfl, aA, _, dC c, at_.map dC, k, dC c, rfl, rfl, .lst (SqL.of hA) (dp_cs hC), dp_c ht, dCs_shaped at_, dC_shaped c, ?_, ?_, ?_, ?_⟩
    · rw [List.getElem?_map, hk2]; rfl
    · rw [dC_eqv]; simp
    · intro m z hm2 hz
      rw [List.getElem?_map] at hz
      cases e : at_[m]? with
      | none => rw [e] at hz; cases hz
      | some x =>
        rw [e] at hz
        have hz' := Option.some.inj hz
        subst hz'
        rw [dC_eqv]
        refine decide_eq_false fun h => ?_
        subst h
        have := nd_ix AO.atl.nd e hk2
        omega
    · exact ⟨a, at_, k, rfl, AO, hK', by rw [grp_atom AO hk2] at q; exact q⟩
end
end Cx
/-! ## CxK3 -/
namespace Cx
open Oc (C)
open PySem PySem.Spec PyProof.Rows L2
/-- the stack: the groups of the forest, its first one last -/
def stk (at_ : List C) (cs : List C) : List V := (cs.map fun d => zn (grp at_ d)).reverse
theorem stk_last (at_ : List C) (c : C) (cs : List C) : (stk at_ (c :: cs))[(stk at_ (c :: cs)).length - 1]? = some (zn (grp at_ c)) := by
  unfold stk
  rw [List.map_cons, List.reverse_cons, List.length_append]
  simp
theorem stk_drop (at_ : List C) (c : C) (cs : List C) : (stk at_ (c :: cs)).dropLast = stk at_ cs := by
  unfold stk
  rw [List.map_cons, List.reverse_cons]
  simp
theorem stk_push (at_ : List C) (c : C) (cs : List C) : stk at_ cs ++ [zn (grp at_ c)] = stk at_ (c :: cs) := by
  unfold stk
  rw [List.map_cons, List.reverse_cons]
section
variable {P : Program} {w : World} {K : PySem.W.Frag} {mg : Str → Option Value} {base : Heap} {CK CR pP pC CN : Addr}
theorem scHaving : FnScope ["self", "concept", "groups", "start", "inner"] ["self", "concept"] (defScope sHaving) := ⟨rfl, rfl, rfl, by decide +kernel, rfl, by decide +kernel, by decide +kernel⟩
theorem ok_having {f fS fA fJ : Addr} {fd fdS fdA fdJ : FuncData} (F : Fun K "having" "Kinds.having" sHaving f fd) (T : TxA K mg pP pC CN) (TK : TxK K mg CK CR)
    (GS : FnOk P w K mg base CX0 2 fS fdS ["concept"] spStarts) (bS : Binds K fdS ["concept"] []) (mS : mg "part_starts" = some (.ref fS)) (kS : PySem.W.keepIn K (.ref fS) = true)
    (GA : FnOk P w K mg base CX0 3 fA fdA ["concept", "start"] spAt) (bA : Binds K fdA ["concept", "start"] []) (mA : mg "concept_at" = some (.ref fA)) (kA : PySem.W.keepIn K (.ref fA) = true)
    (GJ : FnOk P w K mg base CX0 2 fJ fdJ ["self", "concept", "inner"] (spJoined CK)) (bJ : Binds K fdJ ["self", "concept", "inner"] []) (mJ : Meth K CK "joined" fJ) :
    FnOk P w K mg base CX0 4 f fd ["self", "concept"] (spHaving CK) := by
  refine F.ok scHaving (fun vs H Q E h => ?_) (fun cdv A outer s H vs Q E hr h => ?_)
  · obtain ⟨a, t, at_, c, rfl, _⟩ := h
    rfl
  · obtain ⟨a, t, at_, c, rfl, AO, hK, ht, ho, hc, hl, q⟩ := h
    refine ⟨_, pss_cons (ps_set (i := 2) scHaving.nd rfl (Or.inl rfl) (pe_lst pa_nil))
      (pss_cons (ps_for PassesOwn.never rfl (pi_reversed (by rfl) TK.reversed (pa_cons (pe_call GS (hr.mono (by decide)) (by rfl) mS kS bS .nil pass0 (pa_cons (pv 1) pa_nil)) pa_nil)) (pg_name (i := 3) scHaving.nd rfl (Or.inl rfl))
        (pss_cons (ps_set (i := 4) scHaving.nd rfl (Or.inl rfl) (pe_lst pa_nil))
        (pss_cons (ps_while PassesOwn.never (pt_cmpR op_lt (pe_callB call_len_seq (by rfl) T.len PySem.boot_len (pa_cons (pv 4) pa_nil))
              (pe_ix ix_tup (pe_glob (v := .ref pP) (by rfl) T.gP rfl) (pe_ix ix_tup (pv 1) (pv 3) (fun _ _ => rfl)) (fun _ _ => rfl)) (nomark _))
          (pss_one (ps_expr (pe_bm PySem.F.plainAttrs_list PySem.F.slot_list_append PySem.F.type_list_append mt_append (pv 4) (pa_cons
            (pe_bm0 PySem.F.plainAttrs_list PySem.F.slot_list_pop PySem.F.type_list_pop mt_pop (pv 2)) pa_nil)))))
        (pss_one (ps_expr (pe_bm PySem.F.plainAttrs_list PySem.F.slot_list_append PySem.F.type_list_append mt_append (pv 2) (pa_cons
            (pe_meth (pv 0) TK.clK mJ GJ (hr.mono (by decide)) bJ .nil pass0 (pa_cons (pe_call GA (hr.mono (by decide)) (by rfl) mA kA bA .nil pass0 (pa_cons (pv 1) (pa_cons (pv 3) pa_nil))) (pa_cons (pv 4) pa_nil))) pa_nil)))))))
      (pss_one (ps_ret (pe_bm0 PySem.F.plainAttrs_list PySem.F.slot_list_pop PySem.F.type_list_pop mt_pop (pv 2))))), ?_⟩
    have hK' := hK
    obtain ⟨dx, aA, ts, rest, ha, hrest, hA, hC⟩ := hK
    refine ⟨Nat.zero_le _, fun g hg => ?_⟩
    have s0 : Same H (upd H g (.lst [])) := same_upd hg
    refine ⟨_, rfl, t, c, rfl, s0 _ _ ht, ho, by omega, fun H1 p s1 hp hP => ?_⟩
    have hsl := subs_len c
    refine ⟨p, vn (offs 0 c), rfl, SqL.of hP, ?_⟩
    have hln : (vn (offs 0 c)).length = (subs c).length := by rw [vn_len, offs_len]
    refine for_it walk_rev (fun i σ H2 => Same H H2 ∧ H2 p = some (.lst (vn (offs 0 c))) ∧ ∃ (v3 v4 : Option V) (cs : List C), σ = [some (.ref a), some (.ref t), some (.ref g), v3, v4] ∧
        H2 g = some (.lst (stk at_ cs)) ∧ (subs c).drop ((subs c).length - i) = subsM cs) ⟨s0.trans s1, hP, none, none, [], rfl, s1 _ _ upd_same, by simp [subsM]⟩ (fun i σ H2 _ ⟨_, h, _⟩ => SqL.of h) ?_ ?_
    · rintro i y σ Hx H2 hi ⟨s2, hP2, v3, v4, cs, rfl, hG, hF⟩ ⟨rfl, hy⟩
      rw [hln] at hi hy
      obtain ⟨k, hk⟩ : ∃ k, (subs c).length - 1 - i = k := ⟨_, rfl⟩
      rw [hk] at hy
      have hkl : k < (subs c).length := by omega
      obtain ⟨x, hx⟩ : ∃ x, (subs c)[k]? = some x := ⟨_, List.getElem?_eq_getElem hkl⟩
      obtain ⟨o, hok⟩ : ∃ o, (offs 0 c)[k]? = some o := ⟨_, List.getElem?_eq_getElem (by rw [offs_len]; exact hkl)⟩
      have hyo : y = V.int (o : Nat) := by
        have := vn_get hok
        rw [hy] at this
        exact Option.some.inj this
      subst hyo
      rw [show (subs c).length - i = k + 1 by omega] at hF
      obtain ⟨ds, hcs, hF2⟩ := forest_turn hx hF
      subst hcs
      have hat : At (enc c) o x := at_offs (enc c) c 0 ⟨Nat.zero_le _, [], by simp⟩ k o x hok hx
      have hxm : x ∈ subs c := List.mem_of_getElem? hx
      have hxo : okc x := subs_ok ho x hxm
      have hn : (enc c)[o]? = some (hd x) := by
        obtain ⟨hol, r, hr0⟩ := hat
        have h0 : ((enc c).drop o)[0]? = (enc x ++ r)[0]? := by rw [hr0]
        rw [List.getElem?_drop, Nat.add_zero] at h0
        rw [h0]
        cases x <;> rfl
      have hpg : p ≠ g := by
        intro e; subst e
        rw [upd_same] at hp
        cases hp
      have ht2 := s2 _ _ ht
      refine ⟨Nat.zero_le _, fun n hn0 => ?_⟩
      have s3 : Same H2 (upd H2 n (.lst [])) := same_upd hn0
      have hgn : g ≠ n := ne_of_none hG hn0
      have hpn : p ≠ n := ne_of_none hP2 hn0
      have htn : t ≠ n := ne_of_none ht2 hn0
      have hHn : H n = none := s2.free hn0
      have hdl : ds.length ≤ (subs c).length := by
        have h1 : ((subs c).drop k).length = (subsM (x :: ds)).length := by rw [hF2]
        rw [List.length_drop, subsM_cons] at h1
        have h2 : ds.length ≤ (subsM ds).length := by
          clear h1 hF2 hF hG
          induction ds with
          | nil => simp
          | cons d ds ih => rw [subsM_cons]; simp; omega
        simp at h1
        omega
      have hkl2 : (kids x).length ≤ 2 := by cases x <;> simp [kids]
      refine while_by (fun σ H3 => Same H H3 ∧ H3 p = some (.lst (vn (offs 0 c))) ∧ ∃ j : Nat, σ = [some (.ref a), some (.ref t), some (.ref g), some (.int (o : Nat)), some (.ref n)] ∧ j ≤ (kids x).length ∧
          H3 g = some (.lst (stk at_ ((kids x).drop j ++ ds))) ∧ H3 n = some (.lst (((kids x).take j).map fun d => zn (grp at_ d))))
        (fun σ H3 => match H3 n with | some (.lst xs) => 3 - xs.length | _ => 0) ⟨s2.trans s3, s3 _ _ hP2, 0, rfl, Nat.zero_le _, s3 _ _ hG, upd_same⟩ ?_ ?_
      · rintro σ H3 ⟨s4, hP3, j, rfl, hj, hG3, hN3⟩
        have ht3 := s4 _ _ ht
        refine ⟨_, rfl, n, _, rfl, .inl (SqL.of hN3), _, rfl, _, rfl, t, _, _, _, rfl, rfl, SqT.of ht3, atI_nat (vn_get hn), ?_⟩
        refine ⟨pP, _, _, _, rfl, rfl, T.tP H3, atI_nat (vn_get (parts_lt (hd_lt x))), _, _, rfl, rfl, _, rfl, ?_⟩
        rw [hd_parts, List.length_map, List.length_take]
        by_cases hjk : j < (kids x).length
        · refine ifT (decide_eq_true (by omega)) ?_
          obtain ⟨d, hd0⟩ : ∃ d, (kids x)[j]? = some d := ⟨_, List.getElem?_eq_getElem hjk⟩
          have hdr : (kids x).drop j = d :: (kids x).drop (j + 1) := by
            obtain ⟨h2, e⟩ := List.getElem?_eq_some_iff.mp hd0
            rw [List.drop_eq_getElem_cons h2, e]
          rw [hdr, List.cons_append] at hG3
          refine ⟨_, rfl, .inl ⟨rfl, _, SqL.of hN3⟩, _, rfl, .inl ⟨rfl, _, SqL.of hG3⟩, g, _, _, rfl, rfl, hG3, stk_last _ _ _, ?_⟩
          have hN4 : (upd H3 g (.lst (stk at_ (d :: ((kids x).drop (j + 1) ++ ds))).dropLast)) n = some (.lst (((kids x).take j).map fun d => zn (grp at_ d))) := by
            rw [upd_ne hgn.symm]; exact hN3
          refine ⟨n, _, _, rfl, rfl, hN4, (by rw [List.length_map, List.length_take]; exact small1000 (by omega)), ?_⟩
          have kp : ∀ b o, b ≠ g → b ≠ n → H3 b = some o → (upd (upd H3 g (.lst (stk at_ (d :: ((kids x).drop (j + 1) ++ ds))).dropLast)) n (.lst (((kids x).take j).map (fun d => zn (grp at_ d)) ++ [zn (grp at_ d)]))) b = some o :=
            fun b o h1 h2 h3 => by rw [upd_ne h2, upd_ne h1]; exact h3
          refine ⟨⟨fun b o h => kp b o (ne_of_none h hg) (ne_of_none h hHn) (s4 _ _ h), kp _ _ hpg hpn hP3, j + 1, rfl, by omega, ?_, ?_⟩, ?_⟩
          · rw [upd_ne hgn, upd_same, stk_drop]
          · rw [upd_same, take_more hd0, List.map_append]; rfl
          · rw [upd_same, hN3]
            show 3 - (((kids x).take j).map (fun d => zn (grp at_ d)) ++ [zn (grp at_ d)]).length < 3 - (((kids x).take j).map fun d => zn (grp at_ d)).length
            rw [List.length_append, List.length_map, List.length_take]
            simp
            omega
        · have hje : j = (kids x).length := by omega
          subst hje
          refine ifF (decide_eq_false (by omega)) ?_
          rw [List.take_length] at hN3
          rw [List.drop_length, List.nil_append] at hG3
          refine ⟨_, rfl, .inl ⟨rfl, _, SqL.of hG3⟩, _, rfl, a, dx, _, rfl, s4 _ _ ha, kF_no hrest (by decide +kernel) (by decide +kernel) (by decide +kernel) (by decide +kernel) (by decide +kernel), ?_⟩
          refine ⟨_, rfl, _, rfl, t, c, x, o, rfl, ht3, hxo, hat, fun H4 p4 s5 hp4 => ?_⟩
          have s45 := s4.trans s5
          refine ⟨_, rfl, a, p4, n, at_, x, rfl, AO, hK'.same s45, hp4, cov_subs hc hxm, s5 _ _ hN3, ?_⟩
          refine ⟨g, _, _, rfl, rfl, s5 _ _ hG3, (by unfold stk; rw [List.length_reverse, List.length_map]; exact small1000 (by omega)), ?_⟩
          have kp : ∀ b o, b ≠ g → H4 b = some o → (upd H4 g (.lst (stk at_ ds ++ [zn (grp at_ x)]))) b = some o := fun b o h1 h2 => by rw [upd_ne h1]; exact h2
          refine ⟨fun b o h => kp b o (ne_of_none h hg) (s45 _ _ h), kp _ _ hpg (s5 _ _ hP3), _, _, x :: ds, rfl, ?_, ?_⟩
          · rw [upd_same, stk_push]
          · rw [show (subs c).length - (i + 1) = k by omega]; exact hF2
      · intro σ H3 Q Q' hq
        rintro ⟨x, h1, p, ys, h2, h3, x2, h4, x3, h5, p1, xs1, i1, v1, e1, e2, s1, a1, p2, xs2, i2, v2, e3, e4, s2, a2, i, j, h6, h7, k, h8, h9⟩
        exact ⟨x, h1, p, ys, h2, h3, x2, h4, x3, h5, p1, xs1, i1, v1, e1, e2, s1, a1, p2, xs2, i2, v2, e3, e4, s2, a2, i, j, h6, h7, k, h8, hq _ _ h9⟩
    · rintro σ H2 ⟨s2, hP2, v3, v4, cs, rfl, hG, hF⟩
      rw [hln, Nat.sub_self, List.drop_zero] at hF
      have e : cs = [c] := subsM_inj _ _ _ (Nat.le_refl _) (by rw [← hF]; simp [subsM])
      subst e
      refine ⟨_, rfl, .inl ⟨rfl, _, SqL.of hG⟩, g, _, _, rfl, rfl, hG, stk_last _ _ _, ?_⟩
      exact q _ fun b o h => by rw [upd_ne (ne_of_none h hg)]; exact s2 _ _ h
end
end Cx
/-! ## CxK4 -/
namespace Cx
open Oc (C)
open PySem PySem.Spec PyProof.Rows L2
theorem paired_get2 {α β : Type} {F : α → β → Prop} : ∀ {l : List α} {m : List β}, Paired F l m → ∀ {i : Nat} {y : β}, m[i]? = some y → ∃ x, l[i]? = some x ∧ F x y
  | _, _, .nil, i, x, h => by simp at h
  | _, _, .cons f t, 0, x, h => by simp at h; subst h; exact ⟨_, rfl, f⟩
  | _, _, .cons f t, i + 1, x, h => by simpa using paired_get2 t (i := i) (y := x) (by simpa using h)
/-- the i-th of addresses -/
theorem refs_get {ts : List Addr} {i : Nat} {y : V} (hi : (ts.map V.ref)[i]? = some y) : ∃ t, ts[i]? = some t ∧ y = V.ref t := by
  rw [List.getElem?_map] at hi
  cases e : ts[i]? with
  | none => rw [e] at hi; cases hi
  | some t => rw [e] at hi; exact ⟨t, rfl, (Option.some.inj hi).symm⟩
theorem gof_congr {p q : Nat → Bool} {n : Nat} (h : ∀ t, p t = q t) : gof p n = gof q n := gof_ext.mpr fun t _ => h t
/-- read_restrictions -/
def spReadR (CK CR : Addr) : Sp := fun vs H Q _ => ∃ (a : Addr) (at_ : List C), vs = [.ref a] ∧ AtOk at_ ∧ KB CK H a at_ ∧
  ∀ (H' : Hp) (q : Addr) (rs : List Addr), Same H H' → H q = none → H' q = some (.lst (rs.map V.ref)) → Ress CR at_ H' rs (restr at_) → Q (.ref q) H'
/-- permitted -/
def spPermit (CK CR : Addr) : Sp := fun vs H Q _ => ∃ (a : Addr) (at_ : List C) (t r : Nat), vs = [.ref a, zn t, zn r] ∧ AtOk at_ ∧ KR CK CR H a at_ ∧ Q (zn (gof (fun u => Oc.fits at_ r t u) (kn at_))) H
/-- needs_of -/
def spNeedsOf (CK CR : Addr) : Sp := fun vs H Q _ => ∃ (a : Addr) (at_ : List C) (t : Nat), vs = [.ref a, zn t] ∧ AtOk at_ ∧ KR CK CR H a at_ ∧
  ∀ (H' : Hp) (q : Addr), Same H H' → H q = none → NeedAt at_ H' q t → Q (.ref q) H'
section
variable {P : Program} {w : World} {K : PySem.W.Frag} {mg : Str → Option Value} {base : Heap} {CK CR pP pC CN : Addr}
theorem enc_some (r : Nat) (c : C) : enc (.some r c) = 6 :: r :: enc c := rfl
theorem enc_all (r : Nat) (c : C) : enc (.all r c) = 7 :: r :: enc c := rfl
theorem cut_tail (l : List Nat) (h : 2 ≤ l.length) : cutV (vn l) (some 2) none = vn (l.drop 2) := by
  unfold cutV
  have e : HT.sIx (vn l).length 0 (some ((2 : Nat) : Int)) = 2 := by rw [HT.sIx_nat, vn_len]; omega
  have e2 : HT.sIx (vn l).length (vn l).length none = (vn l).length := rfl
  rw [show (some (2 : Int)) = some ((2 : Nat) : Int) from rfl, e, e2, vn_drop]
  exact List.take_of_length_le (by rw [vn_len, vn_len, List.length_drop]; omega)
theorem cut_not (l : List Nat) (h : 2 ≤ l.length) : ¬ (HT.sIx (vn l).length 0 (some (2 : Int)) = 0 ∧ HT.sIx (vn l).length (vn l).length none = (vn l).length) := by
  have e : HT.sIx (vn l).length 0 (some ((2 : Nat) : Int)) = 2 := by rw [HT.sIx_nat, vn_len]; omega
  rintro ⟨h1, _⟩
  rw [show (some (2 : Int)) = some ((2 : Nat) : Int) from rfl, e] at h1
  omega
theorem scReadR : FnScope ["self", "restrictions", "place", "atom", "inner"] ["self"] (defScope sReadR) := ⟨rfl, rfl, rfl, by decide +kernel, rfl, by decide +kernel, by decide +kernel⟩
theorem ok_readr {f fH fI : Addr} {fd fdH fdI : FuncData} (F : Fun K "read_restrictions" "Kinds.read_restrictions" sReadR f fd) (T : TxA K mg pP pC CN) (TK : TxK K mg CK CR)
    (GH : FnOk P w K mg base CX0 4 fH fdH ["self", "concept"] (spHaving CK)) (bH : Binds K fdH ["self", "concept"] []) (mH : Meth K CK "having" fH)
    (MR : Mk K CR fI) (GI : FnOk P w K mg base CX0 1 fI fdI ["self", "role", "place", "demanding", "wanted"] (spRInit CR)) (bI : Binds K fdI ["self", "role", "place", "demanding", "wanted"] []) :
    FnOk P w K mg base CX0 5 f fd ["self"] (spReadR CK CR) := by
  refine F.ok scReadR (fun vs H Q E h => ?_) (fun cdv A outer s H vs Q E hr h => ?_)
  · obtain ⟨a, at_, rfl, _⟩ := h
    rfl
  · obtain ⟨a, at_, rfl, AO, hK, q⟩ := h
    obtain ⟨u6, g6, r6⟩ := T.iSome
    obtain ⟨u7, g7, r7⟩ := T.iOnly
    refine ⟨_, pss_cons (ps_set (i := 1) scReadR.nd rfl (Or.inl rfl) (pe_lst pa_nil))
      (pss_cons (ps_for PassesOwn.never rfl (pi_enum (by rfl) TK.enumerate (pa_cons (pe_fld (pv 0) rfl) pa_nil)) (pg_tup rfl (pgs_cons (pg_name (i := 2) scReadR.nd rfl (Or.inl rfl)) (pgs_cons (pg_name (i := 3) scReadR.nd rfl (Or.inl rfl)) pgs_nil)))
        (pss_cons (ps_if (pt_cmpR op_eq (pe_ix ix_tup (pv 3) pe_int (fun _ _ => rfl)) (pe_glob (by rfl) g6 r6) (nomark _))
          (pss_cons (ps_set (i := 4) scReadR.nd rfl (Or.inl rfl) (pe_meth (pv 0) TK.clK mH GH hr bH .nil pass0 (pa_cons (pe_slice sl_tupA (pv 3) (po_some pe_int) po_none) pa_nil)))
          (pss_one (ps_expr (pe_bm PySem.F.plainAttrs_list PySem.F.slot_list_append PySem.F.type_list_append mt_append (pv 1) (pa_cons
            (pe_make MR GI (hr.mono (by decide)) rfl TK.gCR bI .nil pass0 (pa_cons (pe_ix ix_tup (pv 3) pe_int (fun _ _ => rfl)) (pa_cons (pv 2) (pa_cons pe_int (pa_cons (pv 4) pa_nil))))) pa_nil))))) pss_nil)
        (pss_one (ps_if (pt_cmpR op_eq (pe_ix ix_tup (pv 3) pe_int (fun _ _ => rfl)) (pe_glob (by rfl) g7 r7) (nomark _))
          (pss_cons (ps_set (i := 4) scReadR.nd rfl (Or.inl rfl) (pe_meth (pv 0) TK.clK mH GH hr bH .nil pass0 (pa_cons (pe_slice sl_tupA (pv 3) (po_some pe_int) po_none) pa_nil)))
          (pss_one (ps_expr (pe_bm PySem.F.plainAttrs_list PySem.F.slot_list_append PySem.F.type_list_append mt_append (pv 1) (pa_cons
            (pe_make MR GI (hr.mono (by decide)) rfl TK.gCR bI .nil pass0 (pa_cons (pe_ix ix_tup (pv 3) pe_int (fun _ _ => rfl)) (pa_cons (pv 2) (pa_cons pe_int (pa_cons (pe_op op_xor (pe_fld (pv 0) rfl) (pv 4)) pa_nil))))) pa_nil))))) pss_nil))))
      (pss_one (ps_ret (pv 1)))), ?_⟩
    have hK' := hK
    obtain ⟨dx, aA, ts, rest, ha, hrest, hA, hC⟩ := hK
    refine ⟨Nat.zero_le _, fun g hg => ?_⟩
    have s0 : Same H (upd H g (.lst [])) := same_upd hg
    refine ⟨_, rfl, a, CK, dx, _, _, rfl, s0 _ _ ha, TK.clK, TK.nAtoms, kF_atoms, aA, _, rfl, SqL.of (s0 _ _ hA), ?_⟩
    have hlt : ts.length = at_.length := Paired.length hC
    refine for_it walk_enum (fun i σ H1 => Same H H1 ∧ ∃ (v2 v3 v4 : Option V) (rs : List Addr), σ = [some (.ref a), some (.ref g), v2, v3, v4] ∧ H1 g = some (.lst (rs.map V.ref)) ∧ Ress CR at_ H1 rs ((at_.take i).filter isR))
      ⟨s0, none, none, none, [], rfl, upd_same, .nil⟩ (fun i σ H1 _ ⟨s1, _⟩ => SqL.of (s1 _ _ hA)) ?_ ?_
    · rintro i y σ H0 H1 hi ⟨s1, v2, v3, v4, rs, rfl, hG, hR⟩ ⟨Tp, x1, x2, rfl, hTn, rfl, hx1, hx2⟩
      cases hx1
      obtain ⟨t, hti, rfl⟩ := refs_get hx2
      obtain ⟨x, hxi, htc⟩ := paired_get hC hti
      have sT : Same H0 (upd H0 Tp (.tup [.int (i : Nat), .ref t])) := same_upd hTn
      have hxm : x ∈ at_ := List.mem_of_getElem? hxi
      have htx := (s1.trans sT) _ _ htc
      have hG1 := sT _ _ hG
      have hR1 := hR.same sT
      have s2 := s1.trans sT
      have hil : i < at_.length := (List.getElem?_eq_some_iff.mp hxi).1
      have hsix := AO.six
      have hfl : rs.length ≤ i := by
        have h1 := Paired.length hR
        have h2 := List.length_filter_le isR (at_.take i)
        rw [List.length_take] at h2
        omega
      have hTup : (upd H0 Tp (.tup [.int (i : Nat), .ref t])) Tp = some (.tup [.int (i : Nat), .ref t]) := upd_same
      generalize upd H0 Tp (.tup [.int (i : Nat), .ref t]) = H2 at *
      refine ⟨Tp, _, rfl, SqT.of hTup, rfl, _, _, rfl, _, _, rfl, rfl, ?_⟩
      have h0 : (vn (enc x))[0]? = some (V.int (hd x : Nat)) := vn_get (enc_hd x)
      have test : ∀ {n : Nat} {A B : Prop}, (hd x = n → A) → (hd x ≠ n → B) → if decide (V.int ((hd x : Nat) : Int) = V.int (n : Int)) = true then A else B := by
        intro n A B hA hB
        by_cases h : hd x = n
        · exact ifT (by rw [eqNum]; exact decide_eq_true h) (hA h)
        · exact ifF (by rw [eqNum]; exact decide_eq_false h) (hB h)
      have hfil : (at_.take (i + 1)).filter isR = if isR x = true then (at_.take i).filter isR ++ [x] else (at_.take i).filter isR := by
        rw [take_more hxi, List.filter_append]
        by_cases h : isR x = true
        · rw [if_pos h, List.filter_cons_of_pos h]; rfl
        · rw [if_neg h, List.filter_cons_of_neg h]; simp
      have inn : ∀ {r : Nat} {c : C}, (x = .some r c ∨ x = .all r c) → okc c ∧ Cov at_ c ∧ (enc c).length ≤ 900 ∧ (vn (enc x))[1]? = some (V.int (r : Nat)) ∧ 2 ≤ (enc x).length ∧ (enc x).drop 2 = enc c := by
        intro r c h
        have h1 := AO.ok x hxm
        have h2 := AO.atl.cov x hxm
        have h3 := AO.short x hxm
        rcases h with rfl | rfl
        · rw [enc_some] at h3
          simp only [List.length_cons] at h3
          exact ⟨h1.2, fun y hy => h2 y (by simp [Oc.C.atoms, hy]), by omega, rfl, by simp [enc], rfl⟩
        · rw [enc_all] at h3
          simp only [List.length_cons] at h3
          exact ⟨h1.2, fun y hy => h2 y (by simp [Oc.C.atoms, hy]), by omega, rfl, by simp [enc], rfl⟩
      refine ⟨_, rfl, t, _, _, _, rfl, rfl, SqT.of htx, atI_nat (j := 0) h0, rfl, _, rfl, test (n := 6) (fun e => ?_) (fun n6 => ?_)⟩
      · obtain ⟨r, c, rfl⟩ : ∃ r c, x = .some r c := by cases x <;> simp [hd, enc] at e; exact ⟨_, _, rfl⟩
        obtain ⟨ho, hcov, hl, h1, h2, hdr⟩ := inn (.inl rfl)
        refine ⟨_, rfl, a, dx, _, rfl, s2 _ _ ha, kF_no hrest (by decide +kernel) (by decide +kernel) (by decide +kernel) (by decide +kernel) (by decide +kernel), ?_⟩
        refine ⟨_, rfl, _, rfl, t, _, rfl, SqT.of htx, fun hw => absurd hw (cut_not _ h2), fun _ p hp => ?_⟩
        have s3 : Same H2 (upd H2 p (.tup (cutV (vn (enc (.some r c))) (some 2) none))) := same_upd hp
        have hpt : (upd H2 p (.tup (cutV (vn (enc (.some r c))) (some 2) none))) p = some (.tup (vn (enc c))) := by rw [upd_same, cut_tail _ h2, hdr]
        generalize upd H2 p (.tup (cutV (vn (enc (.some r c))) (some 2) none)) = H3 at *
        refine ⟨a, p, at_, c, rfl, AO, hK'.same (s2.trans s3), hpt, ho, hcov, hl, fun H4 s4 => ?_⟩
        have s5 := s3.trans s4
        refine ⟨_, rfl, .inl ⟨rfl, _, SqL.of (s5 _ _ hG1)⟩, _, rfl, t, _, _, _, rfl, rfl, SqT.of (s5 _ _ htx), atI_nat (j := 1) h1, _, rfl, _, rfl, ?_⟩
        intro x dx1 nx ndx nex
        refine ⟨x, dx1, r, i, 1, grp at_ c, rfl, upd_same, fun H5 hx5 kp5 => ⟨rfl, ?_⟩⟩
        have s6 : Same H4 H5 := fun b o h => kp5 b o (by rw [upd_ne (ne_of_none h nx), upd_ne (ne_of_none h ndx)]; exact h) (ne_of_none h nx)
        have s7 := s5.trans s6
        refine ⟨g, _, _, rfl, rfl, s7 _ _ hG1, (by rw [List.length_map]; exact small1000 (by omega)), ?_⟩
        have kp : ∀ b o, b ≠ g → H5 b = some o → (upd H5 g (.lst (rs.map V.ref ++ [V.ref x]))) b = some o := fun b o h1 h2 => by rw [upd_ne h1]; exact h2
        have fin : Same H (upd H5 g (.lst (rs.map V.ref ++ [V.ref x]))) ∧ (upd H5 g (.lst (rs.map V.ref ++ [V.ref x]))) g = some (.lst ((rs ++ [x]).map V.ref)) ∧ Ress CR at_ (upd H5 g (.lst (rs.map V.ref ++ [V.ref x]))) (rs ++ [x]) ((at_.take (i + 1)).filter isR) := by
          refine ⟨fun b o h => kp b o (ne_of_none h hg) (s7 _ _ (s2 _ _ h)), by rw [upd_same, List.map_append]; rfl, ?_⟩
          rw [hfil, if_pos (show isR (.some r c) = true from rfl)]
          refine Paired.snoc (L2.Paired.mapP hR1 fun b y ⟨d1, k1, q1, q2⟩ => ⟨d1, k1, ?_, q2⟩) ⟨dx1, i, ?_, hxi, rfl⟩
          · exact kp _ _ (ne_of q1 hG1 (by intro z; cases z)) (s7 _ _ q1)
          · exact kp _ _ (ne_of hx5 (s7 _ _ hG1) (by intro z; cases z)) hx5
        refine ⟨_, rfl, t, _, _, _, rfl, rfl, SqT.of (kp _ _ (ne_of htx hG1 (by intro z; cases z)) (s7 _ _ htx)), atI_nat (j := 0) h0, rfl, _, rfl, test (n := 7) (fun e => ?_) (fun _ => ?_)⟩
        · simp [hd, enc] at e
        · exact ⟨fin.1, _, _, _, rs ++ [x], rfl, fin.2⟩
      refine ⟨_, rfl, t, _, _, _, rfl, rfl, SqT.of htx, atI_nat (j := 0) h0, rfl, _, rfl, test (n := 7) (fun e => ?_) (fun n7 => ?_)⟩
      · obtain ⟨r, c, rfl⟩ : ∃ r c, x = .all r c := by cases x <;> simp [hd, enc] at e; exact ⟨_, _, rfl⟩
        obtain ⟨ho, hcov, hl, h1, h2, hdr⟩ := inn (.inr rfl)
        refine ⟨_, rfl, a, dx, _, rfl, s2 _ _ ha, kF_no hrest (by decide +kernel) (by decide +kernel) (by decide +kernel) (by decide +kernel) (by decide +kernel), ?_⟩
        refine ⟨_, rfl, _, rfl, t, _, rfl, SqT.of htx, fun hw => absurd hw (cut_not _ h2), fun _ p hp => ?_⟩
        have s3 : Same H2 (upd H2 p (.tup (cutV (vn (enc (.all r c))) (some 2) none))) := same_upd hp
        have hpt : (upd H2 p (.tup (cutV (vn (enc (.all r c))) (some 2) none))) p = some (.tup (vn (enc c))) := by rw [upd_same, cut_tail _ h2, hdr]
        generalize upd H2 p (.tup (cutV (vn (enc (.all r c))) (some 2) none)) = H3 at *
        refine ⟨a, p, at_, c, rfl, AO, hK'.same (s2.trans s3), hpt, ho, hcov, hl, fun H4 s4 => ?_⟩
        have s5 := s3.trans s4
        refine ⟨_, rfl, .inl ⟨rfl, _, SqL.of (s5 _ _ hG1)⟩, _, rfl, t, _, _, _, rfl, rfl, SqT.of (s5 _ _ htx), atI_nat (j := 1) h1, _, rfl, _, rfl, a, CK, dx, _, _, rfl, s5 _ _ (s2 _ _ ha), TK.clK, TK.nEvery, kF_every, _, rfl, _, _, rfl, rfl, ?_⟩
        intro x dx1 nx ndx nex
        refine ⟨x, dx1, r, i, 0, (2 ^ kn at_ - 1) ^^^ grp at_ c, ?_, upd_same, fun H5 hx5 kp5 => ⟨rfl, ?_⟩⟩
        · show [_, _, _, _, V.int (Builtin.bitXor ((2 ^ kn at_ - 1 : Nat) : Int) _)] = _
          rw [z_xor]
          rfl
        have hw : (2 ^ kn at_ - 1) ^^^ grp at_ c = wg at_ (.all r c) := gof_not _ _
        rw [hw] at hx5
        have s6 : Same H4 H5 := fun b o h => kp5 b o (by rw [upd_ne (ne_of_none h nx), upd_ne (ne_of_none h ndx)]; exact h) (ne_of_none h nx)
        have s7 := s5.trans s6
        refine ⟨g, _, _, rfl, rfl, s7 _ _ hG1, (by rw [List.length_map]; exact small1000 (by omega)), ?_⟩
        have kp : ∀ b o, b ≠ g → H5 b = some o → (upd H5 g (.lst (rs.map V.ref ++ [V.ref x]))) b = some o := fun b o h1 h2 => by rw [upd_ne h1]; exact h2
        refine ⟨fun b o h => kp b o (ne_of_none h hg) (s7 _ _ (s2 _ _ h)), _, _, _, rs ++ [x], rfl, by rw [upd_same, List.map_append]; rfl, ?_⟩
        rw [hfil, if_pos (show isR (.all r c) = true from rfl)]
        refine Paired.snoc (L2.Paired.mapP hR1 fun b y ⟨d1, k1, q1, q2⟩ => ⟨d1, k1, ?_, q2⟩) ⟨dx1, i, ?_, hxi, rfl⟩
        · exact kp _ _ (ne_of q1 hG1 (by intro z; cases z)) (s7 _ _ q1)
        · exact kp _ _ (ne_of hx5 (s7 _ _ hG1) (by intro z; cases z)) hx5
      · refine ⟨s2, _, _, _, rs, rfl, hG1, ?_⟩
        have hx : isR x ≠ true := by cases x <;> simp [hd, enc] at n6 n7 <;> simp [isR]
        rw [hfil, if_neg hx]
        exact hR1
    · rintro σ H1 ⟨s1, v2, v3, v4, rs, rfl, hG, hR⟩
      rw [List.length_map, hlt, List.take_length] at hR
      exact ⟨_, rfl, q _ _ _ s1 hg hG hR⟩
end
end Cx
/-! ## CxK5 -/
namespace Cx
open Oc (C)
open PySem PySem.Spec PyProof.Rows L2
/-- permitted behind the restrictions l -/
def pmt (at_ : List C) (t r : Nat) (l : List C) (u : Nat) : Bool := l.all fun x => !(rl x == r && !dmd at_ t x && wnt at_ u x)
theorem fits_pmt (at_ : List C) (r t u : Nat) : Oc.fits at_ r t u = pmt at_ t r (restr at_) u := by
  rw [fits_eq, pmt, restr, List.all_filter]
  congr 1
  funext x
  cases isR x <;> simp
theorem pmt_more (at_ : List C) (t r u : Nat) (l : List C) (x : C) : pmt at_ t r (l ++ [x]) u = (pmt at_ t r l u && !(rl x == r && !dmd at_ t x && wnt at_ u x)) := by
  unfold pmt; rw [List.all_append]; simp
section
variable {P : Program} {w : World} {K : PySem.W.Frag} {mg : Str → Option Value} {base : Heap} {CK CR pP pC CN : Addr}
theorem scPermit : FnScope ["self", "kind", "role", "group", "restriction"] ["self", "kind", "role"] (defScope sPermit) := ⟨rfl, rfl, rfl, by decide +kernel, rfl, by decide +kernel, by decide +kernel⟩
theorem ok_permit {f fD : Addr} {fd fdD : FuncData} (F : Fun K "permitted" "Kinds.permitted" sPermit f fd) (TK : TxK K mg CK CR)
    (GD : FnOk P w K mg base CX0 1 fD fdD ["self", "kind"] (spDemands CR)) (bD : Binds K fdD ["self", "kind"] []) (mD : Meth K CR "demands" fD) :
    FnOk P w K mg base CX0 2 f fd ["self", "kind", "role"] (spPermit CK CR) := by
  refine F.ok scPermit (fun vs H Q E h => ?_) (fun cdv A outer s H vs Q E hr h => ?_)
  · obtain ⟨a, at_, t, r, rfl, _⟩ := h
    rfl
  · obtain ⟨a, at_, t, r, rfl, AO, ⟨dx, aA, aR, ts, rs, rest, ha, hrest, hA, hC, hR, hRs⟩, q⟩ := h
    refine ⟨_, pss_cons (ps_set (i := 3) scPermit.nd rfl (Or.inl rfl) (pe_fld (pv 0) rfl))
      (pss_cons (ps_for PassesOwn.never rfl (pi_list (pe_fld (pv 0) rfl)) (pg_name (i := 4) scPermit.nd rfl (Or.inl rfl))
        (pss_one (ps_if (PW.pt (pw_and (pt_cmpR op_eq (pe_fld (pv 4) rfl) (pv 2) (nomark _)) (pw_and1 (pt_not (pt_val (pe_meth (pv 4) TK.clR mD GD hr bD .nil pass0 (pa_cons (pv 1) pa_nil)))))))
          (pss_one (ps_aug (i := 3) scPermit.nd rfl (Or.inl rfl) (pe_op op_xor (pe_fld (pv 0) rfl) (pe_fld (pv 4) rfl)) ip_and)) pss_nil)))
      (pss_one (ps_ret (pv 3)))), ?_⟩
    refine ⟨_, rfl, a, CK, dx, _, _, rfl, ha, TK.clK, TK.nEvery, kF_every, ?_⟩
    refine ⟨_, rfl, a, CK, dx, _, _, rfl, ha, TK.clK, TK.nRestr, kF_restr, aR, rfl, ⟨_, SqL.of hR⟩, ?_⟩
    have hlr : rs.length = (restr at_).length := Paired.length hRs
    refine for_list (K := K) (a := aR) (xs := rs.map V.ref) (fun i σ H1 => H1 = H ∧ ∃ v, σ = [some (.ref a), some (zn t), some (zn r), some (zn (gof (pmt at_ t r ((restr at_).take i)) (kn at_))), v]) ⟨rfl, none, ?_⟩ (fun i σ H1 _ ⟨h, _⟩ => by subst h; exact SqL.of hR) ?_ ?_
    · have e : pmt at_ t r ((restr at_).take 0) = fun _ => true := rfl
      rw [e, gof_every]
      rfl
    · rintro i y σ H1 hi ⟨rfl, v, rfl⟩
      obtain ⟨p, hpi, rfl⟩ := refs_get hi
      obtain ⟨x, hxi, dp, k, hp, hk, hx⟩ := paired_get hRs hpi
      have e1 : gof (pmt at_ t r ((restr at_).take (i + 1))) (kn at_) = gof (fun u => pmt at_ t r ((restr at_).take i) u && !(rl x == r && !dmd at_ t x && wnt at_ u x)) (kn at_) := by
        rw [take_more hxi]
        exact gof_congr fun u => pmt_more at_ t r u _ x
      refine ⟨_, rfl, p, CR, dp, _, _, rfl, hp, TK.clR, TK.nRole, rF_role, _, rfl, rfl, _, rfl, ?_⟩
      by_cases hrl : rl x = r
      · refine ifT (by rw [eqNum]; exact decide_eq_true hrl) ?_
        refine ⟨_, rfl, p, dp, _, rfl, hp, rF_demands, _, rfl, p, at_, x, t, rfl, AO, ⟨dp, k, hp, hk, hx⟩, _, rfl, ?_⟩
        cases hd : dmd at_ t x with
        | true =>
          refine ifF rfl ?_
          refine ⟨rfl, some (.ref p), ?_⟩
          rw [e1, hd]
          have e2 : gof (fun u => pmt at_ t r ((restr at_).take i) u && !(rl x == r && !true && wnt at_ u x)) (kn at_) = gof (pmt at_ t r ((restr at_).take i)) (kn at_) := gof_congr fun u => by simp
          rw [e2]
          rfl
        | false =>
          refine ifT rfl ?_
          refine ⟨_, rfl, _, rfl, a, CK, dx, _, _, rfl, ha, TK.clK, TK.nEvery, kF_every, _, rfl, p, CR, dp, _, _, rfl, hp, TK.clR, TK.nWant, rF_want, _, _, rfl, rfl, _, _, rfl, rfl, ?_⟩
          refine ⟨rfl, some (.ref p), ?_⟩
          show [_, _, _, some (V.int (Builtin.bitAnd _ (Builtin.bitXor ((2 ^ kn at_ - 1 : Nat) : Int) ((wg at_ x : Nat) : Int)))), _] = _
          rw [z_xor, z_and, e1, hd]
          have e2 : gof (pmt at_ t r ((restr at_).take i)) (kn at_) &&& ((2 ^ kn at_ - 1) ^^^ wg at_ x) = gof (fun u => pmt at_ t r ((restr at_).take i) u && !(rl x == r && !false && wnt at_ u x)) (kn at_) := by
            unfold wg
            rw [gof_not, gof_and]
            exact gof_congr fun u => by simp [hrl]
          rw [e2]
      · refine ifF (by rw [eqNum]; exact decide_eq_false hrl) ?_
        refine ifF rfl ?_
        refine ⟨rfl, some (.ref p), ?_⟩
        rw [e1]
        have e2 : gof (fun u => pmt at_ t r ((restr at_).take i) u && !(rl x == r && !dmd at_ t x && wnt at_ u x)) (kn at_) = gof (pmt at_ t r ((restr at_).take i)) (kn at_) := gof_congr fun u => by simp [hrl]
        rw [e2]
        rfl
    · rintro σ H1 ⟨rfl, v, rfl⟩
      rw [List.length_map, hlr, List.take_length]
      refine ⟨_, rfl, ?_⟩
      have e2 : gof (pmt at_ t r (restr at_)) (kn at_) = gof (fun u => Oc.fits at_ r t u) (kn at_) := gof_congr fun u => (fits_pmt at_ r t u).symm
      rw [e2]
      exact q
theorem scNeedsOf : FnScope ["self", "kind", "needs", "restriction", "group"] ["self", "kind"] (defScope sNeedsOf) := ⟨rfl, rfl, rfl, by decide +kernel, rfl, by decide +kernel, by decide +kernel⟩
theorem ok_needsof {f fD fP : Addr} {fd fdD fdP : FuncData} (F : Fun K "needs_of" "Kinds.needs_of" sNeedsOf f fd) (TK : TxK K mg CK CR)
    (GD : FnOk P w K mg base CX0 1 fD fdD ["self", "kind"] (spDemands CR)) (bD : Binds K fdD ["self", "kind"] []) (mD : Meth K CR "demands" fD)
    (GP : FnOk P w K mg base CX0 2 fP fdP ["self", "kind", "role"] (spPermit CK CR)) (bP : Binds K fdP ["self", "kind", "role"] []) (mP : Meth K CK "permitted" fP) :
    FnOk P w K mg base CX0 3 f fd ["self", "kind"] (spNeedsOf CK CR) := by
  refine F.ok scNeedsOf (fun vs H Q E h => ?_) (fun cdv A outer s H vs Q E hr h => ?_)
  · obtain ⟨a, at_, t, rfl, _⟩ := h
    rfl
  · obtain ⟨a, at_, t, rfl, AO, hK, q⟩ := h
    refine ⟨_, pss_cons (ps_set (i := 2) scNeedsOf.nd rfl (Or.inl rfl) (pe_lst pa_nil))
      (pss_cons (ps_for PassesOwn.never rfl (pi_list (pe_fld (pv 0) rfl)) (pg_name (i := 3) scNeedsOf.nd rfl (Or.inl rfl))
        (pss_one (ps_if (pt_val (pe_meth (pv 3) TK.clR mD GD (hr.mono (by decide)) bD .nil pass0 (pa_cons (pv 1) pa_nil)))
          (pss_cons (ps_set (i := 4) scNeedsOf.nd rfl (Or.inl rfl) (pe_op op_and (pe_meth (pv 0) TK.clK mP GP hr bP .nil pass0 (pa_cons (pv 1) (pa_cons (pe_fld (pv 3) rfl) pa_nil))) (pe_fld (pv 3) rfl)))
          (pss_one (ps_expr (pe_bm PySem.F.plainAttrs_list PySem.F.slot_list_append PySem.F.type_list_append mt_append (pv 2) (pa_cons (pe_tup (pa_cons (pe_fld (pv 3) rfl) (pa_cons (pv 4) pa_nil))) pa_nil))))) pss_nil)))
      (pss_one (ps_ret (pv 2)))), ?_⟩
    have hK' := hK
    obtain ⟨dx, aA, aR, ts, rs, rest, ha, hrest, hA, hC, hR, hRs⟩ := hK
    refine ⟨Nat.zero_le _, fun g hg => ?_⟩
    have s0 : Same H (upd H g (.lst [])) := same_upd hg
    refine ⟨_, rfl, a, CK, dx, _, _, rfl, s0 _ _ ha, TK.clK, TK.nRestr, kF_restr, aR, rfl, ⟨_, SqL.of (s0 _ _ hR)⟩, ?_⟩
    have hlr : rs.length = (restr at_).length := Paired.length hRs
    have hrl : (restr at_).length ≤ 6 := Nat.le_trans (List.length_filter_le _ _) AO.six
    refine for_list (K := K) (a := aR) (xs := rs.map V.ref) (fun i σ H1 => Same H H1 ∧ ∃ (v3 v4 : Option V) (us : List Addr), σ = [some (.ref a), some (zn t), some (.ref g), v3, v4] ∧ H1 g = some (.lst (us.map V.ref)) ∧
        Pairs H1 us ((((restr at_).take i).filter (dmd at_ t)).map fun x => (rl x, supg at_ t x))) ⟨s0, none, none, [], rfl, upd_same, .nil⟩ (fun i σ H1 _ ⟨h, _⟩ => SqL.of (h _ _ hR)) ?_ ?_
    · rintro i y σ H1 hi ⟨s1, v3, v4, us, rfl, hG, hU⟩
      obtain ⟨p, hpi, rfl⟩ := refs_get hi
      obtain ⟨x, hxi, dp, k, hp, hk, hx⟩ := paired_get hRs hpi
      have hp1 := s1 _ _ hp
      have hil : i < (restr at_).length := (List.getElem?_eq_some_iff.mp hxi).1
      have hul : us.length ≤ i := by
        have h1 := Paired.length hU
        rw [List.length_map] at h1
        have h2 := List.length_filter_le (dmd at_ t) ((restr at_).take i)
        rw [List.length_take] at h2
        omega
      refine ⟨_, rfl, p, dp, _, rfl, hp1, rF_demands, _, rfl, p, at_, x, t, rfl, AO, ⟨dp, k, hp1, hk, hx⟩, _, rfl, ?_⟩
      cases hd : dmd at_ t x with
      | false =>
        refine ifF rfl ?_
        refine ⟨s1, _, _, us, rfl, hG, ?_⟩
        rw [take_more hxi, List.filter_append, List.filter_cons_of_neg (by rw [hd]; decide), List.filter_nil, List.append_nil]
        exact hU
      | true =>
        refine ifT rfl ?_
        refine ⟨_, rfl, a, dx, _, rfl, s1 _ _ ha, kF_no hrest (by decide +kernel) (by decide +kernel) (by decide +kernel) (by decide +kernel) (by decide +kernel), ?_⟩
        refine ⟨_, rfl, _, rfl, p, CR, dp, _, _, rfl, hp1, TK.clR, TK.nRole, rF_role, a, at_, t, rl x, rfl, AO, hK'.same s1, ?_⟩
        refine ⟨_, rfl, p, CR, dp, _, _, rfl, hp1, TK.clR, TK.nWant, rF_want, _, _, rfl, rfl, ?_⟩
        refine ⟨_, rfl, .inl ⟨rfl, _, SqL.of hG⟩, _, rfl, p, CR, dp, _, _, rfl, hp1, TK.clR, TK.nRole, rF_role, _, rfl, (by show 2 ≤ sizeLine; decide), fun u hu => ?_⟩
        have e1 : V.int (Builtin.bitAnd ((gof (fun u => Oc.fits at_ (rl x) t u) (kn at_) : Nat) : Int) ((wg at_ x : Nat) : Int)) = zn (supg at_ t x) := by
          rw [z_and, wg, gof_and]; rfl
        have hut : (upd H1 u (.tup [zn (rl x), V.int (Builtin.bitAnd ((gof (fun u => Oc.fits at_ (rl x) t u) (kn at_) : Nat) : Int) ((wg at_ x : Nat) : Int))])) u = some (.tup [zn (rl x), zn (supg at_ t x)]) := by rw [upd_same, e1]
        have s2 : Same H1 (upd H1 u (.tup [zn (rl x), V.int (Builtin.bitAnd ((gof (fun u => Oc.fits at_ (rl x) t u) (kn at_) : Nat) : Int) ((wg at_ x : Nat) : Int))])) := same_upd hu
        refine ⟨g, _, _, rfl, rfl, s2 _ _ hG, (by rw [List.length_map]; exact small1000 (by omega)), ?_⟩
        have hG2 := s2 _ _ hG
        have hU2 := hU.same s2
        have s12 := s1.trans s2
        generalize upd H1 u (.tup [zn (rl x), V.int (Builtin.bitAnd ((gof (fun u => Oc.fits at_ (rl x) t u) (kn at_) : Nat) : Int) ((wg at_ x : Nat) : Int))]) = H2 at *
        have kp : ∀ b o, b ≠ g → H2 b = some o → (upd H2 g (.lst (us.map V.ref ++ [V.ref u]))) b = some o := fun b o h1 h2 => by rw [upd_ne h1]; exact h2
        refine ⟨fun b o h => kp b o (ne_of_none h hg) (s12 _ _ h), some (.ref p), some (V.int (Builtin.bitAnd ((gof (fun u => Oc.fits at_ (rl x) t u) (kn at_) : Nat) : Int) ((wg at_ x : Nat) : Int))), us ++ [u], rfl, by rw [upd_same, List.map_append]; rfl, ?_⟩
        rw [take_more hxi, List.filter_append, List.filter_cons_of_pos hd, List.filter_nil, List.map_append]
        refine Paired.snoc (L2.Paired.mapP hU2 fun b y h => ?_) ?_
        · exact kp _ _ (ne_of h hG2 (by intro z; cases z)) h
        · exact kp _ _ (ne_of hut hG2 (by intro z; cases z)) hut
    · rintro σ H1 ⟨s1, v3, v4, us, rfl, hG, hU⟩
      rw [List.length_map, hlr, List.take_length] at hU
      exact ⟨_, rfl, q _ _ s1 hg ⟨us, hG, hU⟩⟩
end
end Cx
/-! ## CxK6 -/
namespace Cx
open Oc (C)
open PySem PySem.Spec PyProof.Rows L2
/-- Kinds.__init__ -/
def spKInit (K : PySem.W.Frag) (CK CR : Addr) : Sp := fun vs H Q _ => ∃ (p l dx : Addr) (ts : List Addr) (cs : List C), vs = [.ref p, .ref l] ∧ H p = some (.ins CK dx []) ∧
  SqL K H l (ts.map V.ref) ∧ Cons H ts cs ∧ (∀ c ∈ cs, okc c) ∧ (encs cs).length ≤ 900 ∧ AtOk (Oc.atomsOf cs) ∧
  ∀ H' : Hp, KN CK CR H' p (Oc.atomsOf cs) → (∀ b o, H b = some o → b ≠ p → H' b = some o) → Q .non H'
theorem putK1 (q : V) : putF "atoms" q [] = ([("atoms", q)] : List (Str × V)) := rfl
theorem putK2 (q r : V) : putF "total" r ([("atoms", q)] : List (Str × V)) = ([("atoms", q), ("total", r)] : List (Str × V)) := (put_past (by decide +kernel)).trans rfl
theorem putK3 (q r s : V) : putF "every" s ([("atoms", q), ("total", r)] : List (Str × V)) = ([("atoms", q), ("total", r), ("every", s)] : List (Str × V)) := (put_past (by decide +kernel)).trans (congrArg _ ((put_past (by decide +kernel)).trans rfl))
theorem putK4 (aA : Addr) (n : Nat) (r : V) : putF "restrictions" r (kF aA n []) = kF aA n [("restrictions", r)] :=
  (put_past (by decide +kernel)).trans (congrArg _ ((put_past (by decide +kernel)).trans (congrArg _ ((put_past (by decide +kernel)).trans rfl))))
theorem putK5 (aA : Addr) (n : Nat) (r s : V) : putF "needs" s (kF aA n [("restrictions", r)]) = kF aA n [("restrictions", r), ("needs", s)] :=
  (put_past (by decide +kernel)).trans (congrArg _ ((put_past (by decide +kernel)).trans (congrArg _ ((put_past (by decide +kernel)).trans (congrArg _ ((put_past (by decide +kernel)).trans rfl))))))
theorem range_more (n : Nat) : List.range (n + 1) = List.range n ++ [n] := List.range_succ
section
variable {P : Program} {w : World} {K : PySem.W.Frag} {mg : Str → Option Value} {base : Heap} {CK CR pP pC CN : Addr}
theorem scKInit : FnScope ["self", "concepts", "kind"] ["self", "concepts"] (defScope sKInit) := ⟨rfl, rfl, rfl, by decide +kernel, rfl, by decide +kernel, by decide +kernel⟩
theorem ok_kinit {f fA fR fN : Addr} {fd fdA fdR fdN : FuncData} (F : Fun K "__init__" "Kinds.__init__" sKInit f fd) (T : TxA K mg pP pC CN) (TK : TxK K mg CK CR)
    (GA : FnOk P w K mg base CX0 4 fA fdA ["concepts"] (spAtoms K)) (bA : Binds K fdA ["concepts"] []) (mA : mg "atoms_of" = some (.ref fA)) (kA : PySem.W.keepIn K (.ref fA) = true)
    (GR : FnOk P w K mg base CX0 5 fR fdR ["self"] (spReadR CK CR)) (bR : Binds K fdR ["self"] []) (mR : Meth K CK "read_restrictions" fR)
    (GN : FnOk P w K mg base CX0 3 fN fdN ["self", "kind"] (spNeedsOf CK CR)) (bN : Binds K fdN ["self", "kind"] []) (mN : Meth K CK "needs_of" fN) :
    FnOk P w K mg base CX0 6 f fd ["self", "concepts"] (spKInit K CK CR) := by
  refine F.ok scKInit (fun vs H Q E h => ?_) (fun cdv A outer s H vs Q E hr h => ?_)
  · obtain ⟨p, l, dx, ts, cs, rfl, _⟩ := h
    rfl
  · obtain ⟨p, l, dx, ts, cs, rfl, hp, hL, hC, ho, hb, AO, q⟩ := h
    refine ⟨_, pss_cons (ps_fld (pv 0) (pe_call GA (hr.mono (by decide)) (by rfl) mA kA bA .nil pass0 (pa_cons (pv 1) pa_nil)) rfl)
      (pss_cons (ps_fld (pv 0) (pe_op op_shl pe_int (pe_callB call_len_seq (by rfl) T.len PySem.boot_len (pa_cons (pe_fld (pv 0) rfl) pa_nil))) rfl)
      (pss_cons (ps_fld (pv 0) (pe_op op_sub (pe_op op_shl pe_int (pe_fld (pv 0) rfl)) pe_int) rfl)
      (pss_cons (ps_fld (pv 0) (pe_meth0 (pv 0) TK.clK mR GR hr bR .nil pass0) rfl)
      (pss_one (ps_fld (pv 0) (pe_lc (own := [("kind", 2)]) (g := gName 2) (tt := tYes) rfl scKInit.nd (pi_range1 rfl TK.range (pa_cons (pe_fld (pv 0) rfl) pa_nil))
          (blkOk_by (own := [("kind", 2)]) (N := ["self", "concepts", "kind"]) (sc := defScope sKInit) (by decide +kernel))
          (fun _ _ _ _ _ => pg_name (i := 2) scKInit.nd rfl (Or.inl rfl)) (fun _ _ _ _ _ => pts_nil)
          (fun _ _ _ _ _ => pe_meth (pv 0) TK.clK mN GN (hr.mono (by decide)) bN .nil pass0 (pa_cons (pv 2) pa_nil))) rfl))))), ?_⟩
    refine ⟨_, rfl, l, ts, cs, rfl, hL, hC, ho, hb, fun H1 aA us s1 hA0 hA1 hU => ?_⟩
    have hn : us.length = (Oc.atomsOf cs).length := Paired.length hU
    have hsix := AO.six
    have hkn := AO.kn
    have hp1 := s1 _ _ hp
    have npA : aA ≠ p := ne_of hA1 hp1 (by intro z; cases z)
    refine ⟨_, rfl, p, CK, dx, _, rfl, hp1, TK.clK, TK.nAtoms, (by decide), ?_⟩
    have k2 : ∀ b o, b ≠ p → H1 b = some o → (upd H1 p (.ins CK dx (putF "atoms" (.ref aA) []))) b = some o := fun b o h1 h2 => by rw [upd_ne h1]; exact h2
    have e2 : (upd H1 p (.ins CK dx (putF "atoms" (.ref aA) []))) p = some (.ins CK dx [("atoms", .ref aA)]) := upd_same
    generalize upd H1 p (.ins CK dx (putF "atoms" (.ref aA) [])) = H2 at *
    refine ⟨_, rfl, p, CK, dx, _, _, rfl, e2, TK.clK, TK.nAtoms, lk_here, aA, _, rfl, .inl (SqL.of (k2 _ _ npA hA1)), _, _, rfl, rfl, ⟨by omega, ?_, by decide⟩, ?_⟩
    · rw [List.length_map, hn]; omega
    refine ⟨_, rfl, p, CK, dx, _, rfl, e2, TK.clK, TK.nTotal, (by show 1 < 1000; decide), ?_⟩
    have v3 : V.int (1 * 2 ^ (((us.map V.ref).length : Int).toNat)) = zn (kn (Oc.atomsOf cs)) := by rw [z_shl, List.length_map, hn]
    have k3 : ∀ b o, b ≠ p → H2 b = some o → (upd H2 p (.ins CK dx (putF "total" (V.int (1 * 2 ^ (((us.map V.ref).length : Int).toNat))) [("atoms", .ref aA)]))) b = some o := fun b o h1 h2 => by rw [upd_ne h1]; exact h2
    have e3 : (upd H2 p (.ins CK dx (putF "total" (V.int (1 * 2 ^ (((us.map V.ref).length : Int).toNat))) [("atoms", .ref aA)]))) p = some (.ins CK dx [("atoms", .ref aA), ("total", zn (kn (Oc.atomsOf cs)))]) := by
      rw [upd_same, v3, putK2]
    generalize upd H2 p (.ins CK dx (putF "total" (V.int (1 * 2 ^ (((us.map V.ref).length : Int).toNat))) [("atoms", .ref aA)])) = H3 at *
    refine ⟨_, rfl, p, CK, dx, _, _, rfl, e3, TK.clK, TK.nTotal, (lk_past (by decide +kernel)).trans lk_here, _, _, rfl, rfl, ⟨by omega, by omega, by decide⟩, _, _, rfl, rfl, ?_⟩
    refine ⟨_, rfl, p, CK, dx, _, rfl, e3, TK.clK, TK.nEvery, (by show 2 < 1000; decide), ?_⟩
    have v4 : V.int (1 * 2 ^ (((kn (Oc.atomsOf cs) : Nat) : Int).toNat) - 1) = zn (2 ^ kn (Oc.atomsOf cs) - 1) := by
      rw [z_shl]
      have : 0 < 2 ^ kn (Oc.atomsOf cs) := Nat.pow_pos (by decide)
      congr 1
      omega
    have k4 : ∀ b o, b ≠ p → H3 b = some o → (upd H3 p (.ins CK dx (putF "every" (V.int (1 * 2 ^ (((kn (Oc.atomsOf cs) : Nat) : Int).toNat) - 1)) [("atoms", .ref aA), ("total", zn (kn (Oc.atomsOf cs)))]))) b = some o := fun b o h1 h2 => by rw [upd_ne h1]; exact h2
    have e4 : (upd H3 p (.ins CK dx (putF "every" (V.int (1 * 2 ^ (((kn (Oc.atomsOf cs) : Nat) : Int).toNat) - 1)) [("atoms", .ref aA), ("total", zn (kn (Oc.atomsOf cs)))]))) p = some (.ins CK dx (kF aA (Oc.atomsOf cs).length [])) := by
      rw [upd_same, v4, putK3]; rfl
    generalize upd H3 p (.ins CK dx (putF "every" (V.int (1 * 2 ^ (((kn (Oc.atomsOf cs) : Nat) : Int).toNat) - 1)) [("atoms", .ref aA), ("total", zn (kn (Oc.atomsOf cs)))])) = H4 at *
    have k24 : ∀ b o, b ≠ p → H1 b = some o → H4 b = some o := fun b o h1 h2 => k4 _ _ h1 (k3 _ _ h1 (k2 _ _ h1 h2))
    have hA4 := k24 _ _ npA hA1
    have hU4 : Cons H4 us (Oc.atomsOf cs) := L2.Paired.mapP hU fun t c h => k24 _ _ (ne_of h hp1 (by intro z; cases z)) h
    refine ⟨_, rfl, p, dx, _, rfl, e4, kF_no (.inl rfl) (by decide +kernel) (by decide +kernel) (by decide +kernel) (by decide +kernel) (by decide +kernel), ?_⟩
    refine ⟨p, Oc.atomsOf cs, rfl, AO, ⟨dx, aA, us, [], e4, .inl rfl, hA4, hU4⟩, fun H5 aR rs s5 hR0 hR5 hRs => ?_⟩
    refine ⟨_, rfl, p, CK, dx, _, rfl, s5 _ _ e4, TK.clK, TK.nRestr, (by show 3 < 1000; decide), ?_⟩
    have k6 : ∀ b o, b ≠ p → H5 b = some o → (upd H5 p (.ins CK dx (putF "restrictions" (.ref aR) (kF aA (Oc.atomsOf cs).length [])))) b = some o := fun b o h1 h2 => by rw [upd_ne h1]; exact h2
    have e6 : (upd H5 p (.ins CK dx (putF "restrictions" (.ref aR) (kF aA (Oc.atomsOf cs).length [])))) p = some (.ins CK dx (kF aA (Oc.atomsOf cs).length [("restrictions", .ref aR)])) := by rw [upd_same, putK4]
    have npR : aR ≠ p := fun z => by subst z; rw [e4] at hR0; cases hR0
    have hA6 := k6 _ _ npA (s5 _ _ hA4)
    have hU6 : Cons (upd H5 p (.ins CK dx (putF "restrictions" (.ref aR) (kF aA (Oc.atomsOf cs).length [])))) us (Oc.atomsOf cs) := L2.Paired.mapP hU4 fun t c h => k6 _ _ (ne_of h e4 (by intro z; cases z)) (s5 _ _ h)
    have hR6 := k6 _ _ npR hR5
    have nk : ∀ {b d k x}, H5 b = some (.ins CR d (rF (Oc.atomsOf cs) x k)) → b ≠ p := by
      intro b d k x h z
      subst z
      rw [s5 _ _ e4] at h
      have h2 := Option.some.inj h
      injection h2 with _ _ h3
      have h4 := congrArg (List.lookup ("demanding" : Str)) h3
      rw [kF_no (.inl rfl) (by decide +kernel) (by decide +kernel) (by decide +kernel) (by decide +kernel) (by decide +kernel), rF_dem] at h4
      cases h4
    have hRs6 : Ress CR (Oc.atomsOf cs) (upd H5 p (.ins CK dx (putF "restrictions" (.ref aR) (kF aA (Oc.atomsOf cs).length [])))) rs (restr (Oc.atomsOf cs)) := L2.Paired.mapP hRs fun b x ⟨d, k, q1, q2⟩ => ⟨d, k, k6 _ _ (nk q1) q1, q2⟩
    generalize upd H5 p (.ins CK dx (putF "restrictions" (.ref aR) (kF aA (Oc.atomsOf cs).length []))) = H6 at *
    have hKR6 : KR CK CR H6 p (Oc.atomsOf cs) := ⟨dx, aA, aR, us, rs, [], e6, .inr (.inl ⟨_, rfl⟩), hA6, hU6, hR6, hRs6⟩
    refine ⟨_, rfl, p, CK, dx, _, _, rfl, e6, TK.clK, TK.nTotal, kF_total, kn (Oc.atomsOf cs), rfl, (by omega), (by omega), fun D hD => ?_⟩
    refine lc_range (lo := 0) (n := kn (Oc.atomsOf cs)) (fun i H' => Same H6 H' ∧ ∃ ns : List Addr, H' D = some (.lst (ns.map V.ref)) ∧ Paired (fun b t => b ≠ D ∧ NeedAt (Oc.atomsOf cs) H' b t) ns (List.range i)) ⟨same_upd hD, [], upd_same, .nil⟩ ?_ ?_
    · rintro i H7 hi ⟨s7, ns, hD7, hN7⟩
      refine ⟨rfl, ?_⟩
      refine ⟨_, rfl, p, dx, _, rfl, s7 _ _ e6, kF_no (.inr (.inl ⟨_, rfl⟩)) (by decide +kernel) (by decide +kernel) (by decide +kernel) (by decide +kernel) (by decide +kernel), _, rfl, p, Oc.atomsOf cs, i, ?_, AO, hKR6.same s7, fun H8 q8 s8 hq8 hN8 => ?_⟩
      · rw [Int.zero_add]; rfl
      refine ⟨_, s8 _ _ hD7, ?_, ?_⟩
      · have := Paired.length hN7
        rw [List.length_range] at this
        rw [List.length_map]
        exact small1000 (by omega)
      have k9 : ∀ b o, b ≠ D → H8 b = some o → (upd H8 D (.lst (ns.map V.ref ++ [V.ref q8]))) b = some o := fun b o h1 h2 => by rw [upd_ne h1]; exact h2
      have nd : ∀ {b t}, NeedAt (Oc.atomsOf cs) H8 b t → b ≠ D → NeedAt (Oc.atomsOf cs) (upd H8 D (.lst (ns.map V.ref ++ [V.ref q8]))) b t := by
        rintro b t ⟨us2, h1, h2⟩ hbD
        exact ⟨us2, k9 _ _ hbD h1, L2.Paired.mapP h2 fun u x h => k9 _ _ (ne_of h (s8 _ _ hD7) (by intro z; cases z)) h⟩
      have hq8D : q8 ≠ D := fun z => by subst z; rw [hD7] at hq8; cases hq8
      refine ⟨fun b o h => k9 _ _ (ne_of_none h hD) (s8 _ _ (s7 _ _ h)), ns ++ [q8], by rw [upd_same, List.map_append]; rfl, ?_⟩
      rw [range_more]
      refine Paired.snoc (L2.Paired.mapP hN7 fun b t ⟨h1, us2, h2, h3⟩ => ⟨h1, nd ⟨us2, s8 _ _ h2, h3.same s8⟩ h1⟩) ⟨hq8D, nd hN8 hq8D⟩
    · rintro H7 ⟨s7, ns, hD7, hN7⟩
      refine ⟨_, rfl, p, CK, dx, _, rfl, s7 _ _ e6, TK.clK, TK.nNeeds, (by show 4 < 1000; decide), ?_⟩
      have npD : D ≠ p := ne_of hD7 (s7 _ _ e6) (by intro z; cases z)
      have kz : ∀ b o, b ≠ p → H7 b = some o → (upd H7 p (.ins CK dx (putF "needs" (.ref D) (kF aA (Oc.atomsOf cs).length [("restrictions", .ref aR)])))) b = some o := fun b o h1 h2 => by rw [upd_ne h1]; exact h2
      refine q _ ?_ fun b o h hb => kz _ _ hb (s7 _ _ (k6 _ _ hb (s5 _ _ (k24 _ _ hb (s1 _ _ h)))))
      refine ⟨dx, aA, aR, D, us, rs, ns, by rw [upd_same, putK5], kz _ _ npA (s7 _ _ hA6), L2.Paired.mapP hU6 fun t c h => kz _ _ (ne_of h e6 (by intro z; cases z)) (s7 _ _ h), kz _ _ npR (s7 _ _ hR6), ?_, kz _ _ npD hD7, ?_⟩
      · refine L2.Paired.mapP hRs6 fun b x ⟨d, k, q1, q2⟩ => ⟨d, k, kz _ _ ?_ (s7 _ _ q1), q2⟩
        intro z
        subst z
        rw [e6] at q1
        have h2 := Option.some.inj q1
        injection h2 with _ _ h3
        have h4 := congrArg (List.lookup ("demanding" : Str)) h3
        rw [kF_no (.inr (.inl ⟨_, rfl⟩)) (by decide +kernel) (by decide +kernel) (by decide +kernel) (by decide +kernel) (by decide +kernel), rF_dem] at h4
        cases h4
      · refine L2.Paired.mapP hN7 fun b t ⟨h1, us2, h2, h3⟩ => ⟨us2, kz _ _ (ne_of h2 (s7 _ _ e6) (by intro z; cases z)) h2, L2.Paired.mapP h3 fun u x h => kz _ _ (ne_of h (s7 _ _ e6) (by intro z; cases z)) h⟩
end
end Cx
/-! ## CxK7 -/
namespace Cx
open Oc (C)
open PySem PySem.Spec PyProof.Rows L2
/-! ### Axioms as they stand -/
def AxT (H : Hp) (p : Addr) (x : Oc.Axiom) : Prop := ∃ c d : Addr, H p = some (.tup [.ref c, .ref d]) ∧ H c = some (.tup (vn (enc x.1))) ∧ H d = some (.tup (vn (enc x.2)))
abbrev AxsAt (H : Hp) (ps : List Addr) (ax : List Oc.Axiom) : Prop := Paired (fun p x => AxT H p x) ps ax
theorem AxsAt.same {H H' : Hp} {ps : List Addr} {ax : List Oc.Axiom} (e : Same H H') (h : AxsAt H ps ax) : AxsAt H' ps ax := L2.Paired.mapP h fun _ _ ⟨c, d, h1, h2, h3⟩ => ⟨c, d, e _ _ h1, e _ _ h2, e _ _ h3⟩
structure AxOk (at_ : List C) (x : Oc.Axiom) : Prop where
  o1 : okc x.1
  o2 : okc x.2
  c1 : Cov at_ x.1
  c2 : Cov at_ x.2
  l1 : (enc x.1).length ≤ 900
  l2 : (enc x.2).length ≤ 900
theorem keeps_more (at_ : List C) (l : List Oc.Axiom) (x : Oc.Axiom) (t : Nat) : Oc.keeps at_ (l ++ [x]) t = (Oc.keeps at_ l t && (!Oc.holds at_ t x.1 || Oc.holds at_ t x.2)) := by
  unfold Oc.keeps; rw [List.all_append]; simp
theorem supg_and (at_ : List C) (t : Nat) (x : C) (p : Nat → Bool) : (!decide (V.int ((supg at_ t x &&& gof p (kn at_) : Nat) : Int) = V.int 0)) = (lst p (kn at_)).any fun u => Oc.fits at_ (rl x) t u && wnt at_ u x := by
  unfold supg
  rw [gof_and]
  have e : ∀ n : Nat, decide (V.int (n : Int) = V.int 0) = decide (n = 0) := fun n => eqNum n 0
  rw [e]
  by_cases h : gof (fun t_1 => (Oc.fits at_ (rl x) t t_1 && wnt at_ t_1 x) && p t_1) (2 ^ at_.length) = 0
  · rw [decide_eq_true h]
    rw [gof_zero] at h
    symm
    rw [Bool.not_true, List.any_eq_false]
    intro u hu
    obtain ⟨h1, h2⟩ := mem_lst.mp hu
    have := h u h1
    rw [h2] at this
    simpa using this
  · rw [decide_eq_false h]
    symm
    rw [Bool.not_false, List.any_eq_true]
    refine Classical.byContradiction fun hn => h (gof_zero.mpr fun u hu => ?_)
    cases hp : p u with
    | false => simp
    | true =>
      cases hf : (Oc.fits at_ (rl x) t u && wnt at_ u x) with
      | false => rfl
      | true => exact absurd ⟨u, mem_lst.mpr ⟨hu, hp⟩, hf⟩ hn
theorem borne_need (at_ : List C) (p : Nat → Bool) (t : Nat) : ((needG at_ t).map fun x => !decide (V.int ((x.2 &&& gof p (kn at_) : Nat) : Int) = V.int 0)).all id = Oc.borne at_ (lst p (kn at_)) t := by
  rw [borne_eq, List.all_map, needG, List.all_map, restr_dmd, List.all_filter]
  congr 1
  funext x
  show (!_ || (!decide (V.int ((supg at_ t x &&& gof p (kn at_) : Nat) : Int) = V.int 0))) = _
  rw [supg_and]
/-- obeying -/
def spObeying (K : PySem.W.Frag) (CK : Addr) : Sp := fun vs H Q _ => ∃ (a l : Addr) (ps : List Addr) (at_ : List C) (ax : List Oc.Axiom), vs = [.ref a, .ref l] ∧ AtOk at_ ∧ KB CK H a at_ ∧ SqL K H l (ps.map V.ref) ∧ AxsAt H ps ax ∧ (∀ x ∈ ax, AxOk at_ x) ∧
  ∀ H', Same H H' → Q (zn (gof (Oc.keeps at_ ax) (kn at_))) H'
/-- supported -/
def spSupp (CK CR : Addr) : Sp := fun vs H Q _ => ∃ (a : Addr) (at_ : List C) (p : Nat → Bool), vs = [.ref a, zn (gof p (kn at_))] ∧ AtOk at_ ∧ KN CK CR H a at_ ∧
  ∀ H', Same H H' → Q (zn (gof (sup at_ (kn at_) p) (kn at_))) H'
/-- possible -/
def spPossible (K : PySem.W.Frag) (CK CR : Addr) : Sp := fun vs H Q _ => ∃ (a l : Addr) (ps : List Addr) (at_ : List C) (ax : List Oc.Axiom), vs = [.ref a, .ref l] ∧ AtOk at_ ∧ KN CK CR H a at_ ∧ SqL K H l (ps.map V.ref) ∧ AxsAt H ps ax ∧ (∀ x ∈ ax, AxOk at_ x) ∧
  ∀ H', Same H H' → Q (zn (tg at_ ax)) H'
/-- names_of -/
def spNamesOf (CK : Addr) : Sp := fun vs H Q _ => ∃ (a : Addr) (at_ : List C) (t : Nat), vs = [.ref a, zn t] ∧ AtOk at_ ∧ KB CK H a at_ ∧ ∀ H', Same H H' → Q (zn (Oc01.namesOf at_ t)) H'
section
variable {P : Program} {w : World} {K : PySem.W.Frag} {mg : Str → Option Value} {base : Heap} {CK CR pP pC CN : Addr}
theorem scObeying : FnScope ["self", "axioms", "group", "axiom"] ["self", "axioms"] (defScope sObeying) := ⟨rfl, rfl, rfl, by decide +kernel, rfl, by decide +kernel, by decide +kernel⟩
theorem ok_obeying {f fH : Addr} {fd fdH : FuncData} (F : Fun K "obeying" "Kinds.obeying" sObeying f fd) (TK : TxK K mg CK CR)
    (GH : FnOk P w K mg base CX0 4 fH fdH ["self", "concept"] (spHaving CK)) (bH : Binds K fdH ["self", "concept"] []) (mH : Meth K CK "having" fH) :
    FnOk P w K mg base CX0 5 f fd ["self", "axioms"] (spObeying K CK) := by
  refine F.ok scObeying (fun vs H Q E h => ?_) (fun cdv A outer s H vs Q E hr h => ?_)
  · obtain ⟨a, l, ps, at_, ax, rfl, _⟩ := h
    rfl
  · obtain ⟨a, l, ps, at_, ax, rfl, AO, hK, hL, hX, hO, q⟩ := h
    refine ⟨_, pss_cons (ps_set (i := 2) scObeying.nd rfl (Or.inl rfl) (pe_fld (pv 0) rfl))
      (pss_cons (ps_for PassesOwn.never rfl (pi_list (pv 1)) (pg_name (i := 3) scObeying.nd rfl (Or.inl rfl))
        (pss_one (ps_aug (i := 2) scObeying.nd rfl (Or.inl rfl) (pe_op op_or (pe_op op_xor (pe_fld (pv 0) rfl) (pe_meth (pv 0) TK.clK mH GH hr bH .nil pass0 (pa_cons (pe_ix ix_tup (pv 3) pe_int (fun _ _ => rfl)) pa_nil)))
            (pe_meth (pv 0) TK.clK mH GH hr bH .nil pass0 (pa_cons (pe_ix ix_tup (pv 3) pe_int (fun _ _ => rfl)) pa_nil))) ip_and)))
      (pss_one (ps_ret (pv 2)))), ?_⟩
    have hK' := hK
    obtain ⟨dx, aA, ts, rest, ha, hrest, hA, hC⟩ := hK
    refine ⟨_, rfl, a, CK, dx, _, _, rfl, ha, TK.clK, TK.nEvery, kF_every, ?_⟩
    have hlp : ps.length = ax.length := Paired.length hX
    refine ⟨_, rfl, l, rfl, ⟨_, hL⟩, for_list (K := K) (a := l) (xs := ps.map V.ref) (fun i σ H1 => Same H H1 ∧ ∃ v, σ = [some (.ref a), some (.ref l), some (zn (gof (Oc.keeps at_ (ax.take i)) (kn at_))), v]) ⟨Same.refl H, none, ?_⟩ (fun i σ H1 _ ⟨h, _⟩ => h.seq hL) ?_ ?_⟩
    · have e : Oc.keeps at_ (ax.take 0) = fun _ => true := rfl
      rw [e, gof_every]
      rfl
    · rintro i y σ H1 hi ⟨s1, v, rfl⟩
      obtain ⟨p, hpi, rfl⟩ := refs_get hi
      obtain ⟨x, hxi, c, d, hp, hc, hd⟩ := paired_get hX hpi
      have O := hO x (List.mem_of_getElem? hxi)
      refine ⟨_, rfl, _, rfl, a, CK, dx, _, _, rfl, s1 _ _ ha, TK.clK, TK.nEvery, kF_every, _, rfl, a, dx, _, rfl, s1 _ _ ha, kF_no hrest (by decide +kernel) (by decide +kernel) (by decide +kernel) (by decide +kernel) (by decide +kernel), ?_⟩
      refine ⟨_, rfl, p, _, _, _, rfl, rfl, SqT.of (s1 _ _ hp), atI_nat (j := 0) rfl, a, c, at_, x.1, rfl, AO, hK'.same s1, s1 _ _ hc, O.o1, O.c1, O.l1, fun H2 s2 => ?_⟩
      have s12 := s1.trans s2
      refine ⟨_, _, rfl, rfl, _, rfl, a, dx, _, rfl, s12 _ _ ha, kF_no hrest (by decide +kernel) (by decide +kernel) (by decide +kernel) (by decide +kernel) (by decide +kernel), ?_⟩
      refine ⟨_, rfl, p, _, _, _, rfl, rfl, SqT.of (s12 _ _ hp), atI_nat (j := 1) rfl, a, d, at_, x.2, rfl, AO, hK'.same s12, s12 _ _ hd, O.o2, O.c2, O.l2, fun H3 s3 => ?_⟩
      refine ⟨_, _, rfl, rfl, _, _, rfl, rfl, ?_⟩
      refine ⟨s12.trans s3, some (.ref p), ?_⟩
      show [_, _, some (V.int (Builtin.bitAnd _ (Builtin.bitOr (Builtin.bitXor ((2 ^ kn at_ - 1 : Nat) : Int) ((grp at_ x.1 : Nat) : Int)) ((grp at_ x.2 : Nat) : Int)))), _] = _
      have e2 : gof (Oc.keeps at_ (ax.take i)) (kn at_) &&& (((2 ^ kn at_ - 1) ^^^ grp at_ x.1) ||| grp at_ x.2) = gof (Oc.keeps at_ (ax.take (i + 1))) (kn at_) := by
        rw [grp, grp, gof_not, gof_or, gof_and, take_more hxi]
        exact gof_congr fun t => (keeps_more at_ _ x t).symm
      rw [z_xor, z_or, z_and, e2]
    · rintro σ H1 ⟨s1, v, rfl⟩
      rw [List.length_map, hlp, List.take_length]
      exact ⟨_, rfl, q _ s1⟩
theorem scSupp : FnScope ["self", "group", "kept", "kind", "met", "role", "need"] ["self", "group"] (defScope sSupp) := ⟨rfl, rfl, rfl, by decide +kernel, rfl, by decide +kernel, by decide +kernel⟩
theorem sup_lt {at_ : List C} {n : Nat} {p : Nat → Bool} (h : gof (sup at_ n p) n ≠ gof p n) : gof (sup at_ n p) n < gof p n := by
  have e : gof (sup at_ n p) n = gof (sup at_ n p) n &&& gof p n := by
    rw [gof_and]
    refine gof_congr fun t => ?_
    unfold sup
    cases p t <;> simp
  have : gof (sup at_ n p) n ≤ gof p n := by rw [e]; exact Nat.and_le_right
  omega
theorem ok_supp {f : Addr} {fd : FuncData} (F : Fun K "supported" "Kinds.supported" sSupp f fd) (TK : TxK K mg CK CR) : FnOk P w K mg base CX0 1 f fd ["self", "group"] (spSupp CK CR) := by
  refine F.ok scSupp (fun vs H Q E h => ?_) (fun cdv A outer s H vs Q E hr h => ?_)
  · obtain ⟨a, at_, p, rfl, _⟩ := h
    rfl
  · obtain ⟨a, at_, p, rfl, AO, ⟨dx, aA, aR, aN, ts, rs, ns, ha, hA, hC, hR, hRs, hN, hNs⟩, q⟩ := h
    refine ⟨_, pss_cons (ps_set (i := 2) scSupp.nd rfl (Or.inl rfl) pe_int)
      (pss_cons (ps_for PassesOwn.never rfl (pi_range1 rfl TK.range (pa_cons (pe_fld (pv 0) rfl) pa_nil)) (pg_name (i := 3) scSupp.nd rfl (Or.inl rfl))
        (pss_cons (ps_set (i := 4) scSupp.nd rfl (Or.inl rfl) (pe_callB (cr_all rfl) (by rfl) TK.all (by decide +kernel) (pa_cons
            (pe_lc (own := [("role", 5), ("need", 6)]) (g := gTup K 2 (gCons (gName 5) (gCons (gName 6) gNil))) (tt := tYes) rfl scSupp.nd (pi_list (pe_ix ix_list (pe_fld (pv 0) rfl) (pv 3) (fun _ _ => rfl)))
              (blkOk_by (own := [("role", 5), ("need", 6)]) (N := ["self", "group", "kept", "kind", "met", "role", "need"]) (sc := defScope sSupp) (by decide +kernel))
              (fun _ _ _ _ _ => pg_tup rfl (pgs_cons (pg_name (i := 5) scSupp.nd rfl (Or.inl rfl)) (pgs_cons (pg_name (i := 6) scSupp.nd rfl (Or.inl rfl)) pgs_nil))) (fun _ _ _ _ _ => pts_nil)
              (fun _ _ _ _ _ => pe_cmpR op_ne (pe_op op_and (pv 6) (pv 1)) pe_int (nomark _))) pa_nil)))
        (pss_one (ps_if (PW.pt (pw_and (pt_cmpR op_eq (pe_op op_and (pe_op op_shr (pv 1) (pv 3)) pe_int) pe_int (nomark _)) (pw_and1 (pt_val (pv 4)))))
          (pss_one (ps_aug (i := 2) scSupp.nd rfl (Or.inl rfl) (pe_op op_shl pe_int (pv 3)) ip_or)) pss_nil))))
      (pss_one (ps_ret (pv 2)))), ?_⟩
    have hkn := AO.kn
    have hnl : ns.length = kn at_ := by have := Paired.length hNs; rw [List.length_range] at this; exact this
    refine ⟨_, rfl, a, CK, dx, _, _, rfl, ha, TK.clK, TK.nTotal, kF_total, (kn at_), rfl, (by omega), (by omega), ?_⟩
    refine for_range (n := kn at_) (fun i σ H1 => Same H H1 ∧ ∃ v3 v4 v5 v6, σ = [some (.ref a), some (zn (gof p (kn at_))), some (zn (gof (sup at_ (kn at_) p) i)), v3, v4, v5, v6]) ⟨Same.refl H, none, none, none, none, rfl⟩ ?_ ?_
    · rintro i σ H1 hi ⟨s1, v3, v4, v5, v6, rfl⟩
      rw [Int.zero_add]
      obtain ⟨b, hbi, us, hb, hU⟩ : ∃ b, ns[i]? = some b ∧ NeedAt at_ H b i := paired_get2 hNs (by rw [List.getElem?_range hi])
      refine ⟨_, rfl, a, CK, dx, _, _, rfl, s1 _ _ ha, TK.clK, TK.nNeeds, kF_needs, _, rfl, aN, _, _, _, rfl, rfl, SqL.of (s1 _ _ hN), atI_nat (v := .ref b) (by rw [List.getElem?_map, hbi]; rfl), ?_⟩
      refine ⟨b, rfl, ⟨_, SqL.of (s1 _ _ hb)⟩, fun D hD => ?_⟩
      have hul : us.length = (needG at_ i).length := Paired.length hU
      have hgl := needG_len at_ i
      have hsix := AO.six
      refine lc_it (walk_list (xs := us.map V.ref)) (fun j H2 => Same H1 H2 ∧ H2 D = some (.lst ((((needG at_ i).take j).map fun x => !decide (V.int ((x.2 &&& gof p (kn at_) : Nat) : Int) = V.int 0)).map V.bl)))
        ⟨same_upd hD, upd_same⟩ (fun j H2 _ ⟨s2, _⟩ => SqL.of (s2 _ _ (s1 _ _ hb))) ?_ ?_
      · rintro j y Hx H2 hj ⟨s2, hD2⟩ ⟨rfl, hy⟩
        obtain ⟨u, huj, rfl⟩ := refs_get hy
        obtain ⟨x, hxj, hux⟩ := paired_get hU huj
        have hjl : j < (needG at_ i).length := (List.getElem?_eq_some_iff.mp hxj).1
        refine ⟨u, _, rfl, SqT.of (s2 _ _ (s1 _ _ hux)), rfl, _, _, rfl, _, _, rfl, rfl, rfl, ?_⟩
        refine ⟨_, rfl, _, rfl, _, _, rfl, rfl, rfl, _, hD2, ?_, ?_⟩
        · rw [List.length_map, List.length_map, List.length_take]; exact small1000 (by omega)
        refine ⟨fun b o h => by rw [upd_ne (ne_of_none h hD)]; exact s2 _ _ h, ?_⟩
        have e2 : (V.bl (!decide (V.int (Builtin.bitAnd ((x.2 : Nat) : Int) ((gof p (kn at_) : Nat) : Int)) = V.int 0))) = V.bl (!decide (V.int ((x.2 &&& gof p (kn at_) : Nat) : Int) = V.int 0)) := by rw [z_and]
        rw [upd_same, take_more hxj, List.map_append, List.map_append]
        exact congrArg (fun v => some (HO.lst (_ ++ [v]))) e2
      · rintro H2 ⟨s2, hD2⟩
        rw [List.length_map, hul, List.take_length] at hD2
        refine ⟨D, _, rfl, SqL.of hD2, ?_⟩
        rw [borne_need]
        have s12 := s1.trans s2
        refine ⟨_, rfl, _, rfl, _, _, rfl, rfl, (by omega), _, _, rfl, rfl, rfl, _, rfl, ?_⟩
        have e1 : (gof p (kn at_)).testBit i = p i := by rw [gof_bit]; simp [hi]
        cases hp : p i with
        | false =>
          refine ifF ((bit1 _ i).trans (by rw [e1, hp])) ?_
          refine ifF rfl ?_
          refine ⟨s12, some (zn i), some (.bl (Oc.borne at_ (lst p (kn at_)) i)), v5, v6, ?_⟩
          have e2 : gof (sup at_ (kn at_) p) (i + 1) = gof (sup at_ (kn at_) p) i := by
            show (if sup at_ (kn at_) p i = true then _ else _) = _
            rw [if_neg (by unfold sup; rw [hp]; simp)]
          rw [e2]
          rfl
        | true =>
          refine ifT ((bit1 _ i).trans (by rw [e1, hp])) ?_
          refine ⟨_, rfl, _, rfl, ?_⟩
          cases hb2 : Oc.borne at_ (lst p (kn at_)) i with
          | false =>
            refine ifF rfl ?_
            refine ⟨s12, some (zn i), some (.bl false), v5, v6, ?_⟩
            have e2 : gof (sup at_ (kn at_) p) (i + 1) = gof (sup at_ (kn at_) p) i := by
              show (if sup at_ (kn at_) p i = true then _ else _) = _
              rw [if_neg (by unfold sup; rw [hp, hb2]; simp)]
            rw [e2]
            rfl
          | true =>
            refine ifT rfl ?_
            refine ⟨_, rfl, _, rfl, _, _, rfl, rfl, ⟨by omega, by omega, by decide⟩, _, _, rfl, rfl, ?_⟩
            refine ⟨s12, some (zn i), some (.bl true), v5, v6, ?_⟩
            have e2 : gof (sup at_ (kn at_) p) (i + 1) = gof (sup at_ (kn at_) p) i ||| 2 ^ i := by
              show (if sup at_ (kn at_) p i = true then _ else _) = _
              rw [if_pos (by unfold sup; rw [hp, hb2]; rfl)]
            show [_, _, some (V.int (Builtin.bitOr ((gof (sup at_ (kn at_) p) i : Nat) : Int) (1 * 2 ^ ((i : Int).toNat)))), _, _, _, _] = _
            rw [z_shl, z_or, e2]
    · rintro σ H1 ⟨s1, v3, v4, v5, v6, rfl⟩
      exact ⟨_, rfl, q _ s1⟩
theorem scPossible : FnScope ["self", "axioms", "group", "kept"] ["self", "axioms"] (defScope sPossible) := ⟨rfl, rfl, rfl, by decide +kernel, rfl, by decide +kernel, by decide +kernel⟩
theorem ok_possible {f fO fS : Addr} {fd fdO fdS : FuncData} (F : Fun K "possible" "Kinds.possible" sPossible f fd) (TK : TxK K mg CK CR)
    (GO : FnOk P w K mg base CX0 5 fO fdO ["self", "axioms"] (spObeying K CK)) (bO : Binds K fdO ["self", "axioms"] []) (mO : Meth K CK "obeying" fO)
    (GS : FnOk P w K mg base CX0 1 fS fdS ["self", "group"] (spSupp CK CR)) (bS : Binds K fdS ["self", "group"] []) (mS : Meth K CK "supported" fS) :
    FnOk P w K mg base CX0 6 f fd ["self", "axioms"] (spPossible K CK CR) := by
  refine F.ok scPossible (fun vs H Q E h => ?_) (fun cdv A outer s H vs Q E hr h => ?_)
  · obtain ⟨a, l, ps, at_, ax, rfl, _⟩ := h
    rfl
  · obtain ⟨a, l, ps, at_, ax, rfl, AO, hK, hL, hX, hO, q⟩ := h
    refine ⟨_, pss_cons (ps_set (i := 2) scPossible.nd rfl (Or.inl rfl) (pe_meth (pv 0) TK.clK mO GO hr bO .nil pass0 (pa_cons (pv 1) pa_nil)))
      (pss_cons (ps_set (i := 3) scPossible.nd rfl (Or.inl rfl) (pe_meth (pv 0) TK.clK mS GS (hr.mono (by decide)) bS .nil pass0 (pa_cons (pv 2) pa_nil)))
      (pss_cons (ps_while PassesOwn.never (pt_cmpR op_ne (pv 3) (pv 2) (nomark _))
        (pss_cons (ps_set (i := 2) scPossible.nd rfl (Or.inl rfl) (pv 3))
        (pss_one (ps_set (i := 3) scPossible.nd rfl (Or.inl rfl) (pe_meth (pv 0) TK.clK mS GS (hr.mono (by decide)) bS .nil pass0 (pa_cons (pv 2) pa_nil))))))
      (pss_one (ps_ret (pv 2))))), ?_⟩
    have hK' := hK
    obtain ⟨dx, aA, aR, aN, ts, rs, ns, ha, _⟩ := hK
    have no : ∀ {m : Str}, (m == ("atoms" : Str)) = false → (m == ("total" : Str)) = false → (m == ("every" : Str)) = false → (m == ("restrictions" : Str)) = false → (m == ("needs" : Str)) = false →
      (kF aA at_.length [(("restrictions" : Str), V.ref aR), (("needs" : Str), V.ref aN)]).lookup m = none := fun h1 h2 h3 h4 h5 => kF_no (.inr (.inr ⟨_, _, rfl⟩)) h1 h2 h3 h4 h5
    refine ⟨_, rfl, a, dx, _, rfl, ha, no (by decide +kernel) (by decide +kernel) (by decide +kernel) (by decide +kernel) (by decide +kernel), _, rfl, a, l, ps, at_, ax, rfl, AO, hK'.kr.kb, hL, hX, hO, fun H1 s1 => ?_⟩
    refine ⟨_, rfl, a, dx, _, rfl, s1 _ _ ha, no (by decide +kernel) (by decide +kernel) (by decide +kernel) (by decide +kernel) (by decide +kernel), _, rfl, a, at_, Oc.keeps at_ ax, rfl, AO, hK'.same s1, fun H2 s2 => ?_⟩
    refine while_by (fun σ H1 => Same H H1 ∧ ∃ p : Nat → Bool, σ = [some (.ref a), some (.ref l), some (zn (gof p (kn at_))), some (zn (gof (sup at_ (kn at_) p) (kn at_)))] ∧ Settles at_ (kn at_) p (Oc.types at_ ax))
      (fun σ _ => match σ with | [_, _, some (.int g), _] => g.toNat | _ => 0) ⟨s1.trans s2, Oc.keeps at_ ax, rfl, settles_types at_ ax⟩ ?_ ?_
    · rintro σ H3 ⟨s3, p, rfl, hS⟩
      refine ⟨_, rfl, _, rfl, rfl, _, rfl, ?_⟩
      by_cases e : gof (sup at_ (kn at_) p) (kn at_) = gof p (kn at_)
      · refine ifF (by rw [eqNum, decide_eq_true e]; rfl) ?_
        refine ⟨_, rfl, ?_⟩
        have hT := settles_same hS (gof_ext.mp e)
        have e2 : gof p (kn at_) = tg at_ ax := by
          unfold tg
          rw [gof_ext]
          intro t ht
          rw [Bool.eq_iff_iff, List.contains_iff_mem, hT, mem_lst]
          exact ⟨fun h => ⟨ht, h⟩, fun h => h.2⟩
        rw [e2]
        exact q _ s3
      · refine ifT (by rw [eqNum, decide_eq_false e]; rfl) ?_
        refine ⟨_, rfl, ?_⟩
        refine ⟨_, rfl, a, dx, _, rfl, s3 _ _ ha, no (by decide +kernel) (by decide +kernel) (by decide +kernel) (by decide +kernel) (by decide +kernel), _, rfl, a, at_, sup at_ (kn at_) p, rfl, AO, hK'.same s3, fun H4 s4 => ?_⟩
        refine ⟨⟨s3.trans s4, _, rfl, (settles_next hS fun h => e (gof_ext.mpr h)).1⟩, ?_⟩
        show ((gof (sup at_ (kn at_) p) (kn at_) : Nat) : Int).toNat < ((gof p (kn at_) : Nat) : Int).toNat
        rw [Int.toNat_natCast, Int.toNat_natCast]
        exact sup_lt e
    · intro σ H3 Q Q' hq
      rintro ⟨x, h1, y, h2, h3, k, h4, h5⟩
      exact ⟨x, h1, y, h2, h3, k, h4, hq _ _ h5⟩
theorem scNamesOf : FnScope ["self", "kind", "told", "place", "atom"] ["self", "kind"] (defScope sNamesOf) := ⟨rfl, rfl, rfl, by decide +kernel, rfl, by decide +kernel, by decide +kernel⟩
theorem ok_namesof {f : Addr} {fd : FuncData} (F : Fun K "names_of" "Kinds.names_of" sNamesOf f fd) (T : TxA K mg pP pC CN) (TK : TxK K mg CK CR) : FnOk P w K mg base CX0 1 f fd ["self", "kind"] (spNamesOf CK) := by
  refine F.ok scNamesOf (fun vs H Q E h => ?_) (fun cdv A outer s H vs Q E hr h => ?_)
  · obtain ⟨a, at_, t, rfl, _⟩ := h
    rfl
  · obtain ⟨a, at_, t, rfl, AO, ⟨dx, aA, ts, rest, ha, hrest, hA, hC⟩, q⟩ := h
    obtain ⟨u2, g2, r2⟩ := T.iName
    refine ⟨_, pss_cons (ps_set (i := 2) scNamesOf.nd rfl (Or.inl rfl) pe_int)
      (pss_cons (ps_for PassesOwn.never rfl (pi_enum (by rfl) TK.enumerate (pa_cons (pe_fld (pv 0) rfl) pa_nil)) (pg_tup rfl (pgs_cons (pg_name (i := 3) scNamesOf.nd rfl (Or.inl rfl)) (pgs_cons (pg_name (i := 4) scNamesOf.nd rfl (Or.inl rfl)) pgs_nil)))
        (pss_one (ps_if (PW.pt (pw_and (pt_cmpR op_eq (pe_ix ix_tup (pv 4) pe_int (fun _ _ => rfl)) (pe_glob (by rfl) g2 r2) (nomark _)) (pw_and1 (pt_cmpR op_eq (pe_op op_and (pe_op op_shr (pv 1) (pv 3)) pe_int) pe_int (nomark _)))))
          (pss_one (ps_aug (i := 2) scNamesOf.nd rfl (Or.inl rfl) (pe_op op_shl pe_int (pe_ix ix_tup (pv 4) pe_int (fun _ _ => rfl))) ip_add)) pss_nil)))
      (pss_one (ps_ret (pv 2)))), ?_⟩
    have hlt : ts.length = at_.length := Paired.length hC
    refine ⟨_, rfl, a, CK, dx, _, _, rfl, ha, TK.clK, TK.nAtoms, kF_atoms, aA, _, rfl, SqL.of hA, ?_⟩
    refine for_it walk_enum (fun i σ H1 => Same H H1 ∧ ∃ (v3 v4 : Option V), σ = [some (.ref a), some (zn t), some (zn (nmSum (Oc.holds at_ t) (at_.take i))), v3, v4])
      ⟨Same.refl H, none, none, rfl⟩ (fun i σ H1 _ ⟨s1, _⟩ => SqL.of (s1 _ _ hA)) ?_ ?_
    · rintro i y σ H0 H1 hi ⟨s1, v3, v4, rfl⟩ ⟨Tp, x1, x2, rfl, hTn, rfl, hx1, hx2⟩
      cases hx1
      obtain ⟨p, hpi, rfl⟩ := refs_get hx2
      obtain ⟨x, hxi, hpx⟩ := paired_get hC hpi
      have sT : Same H0 (upd H0 Tp (.tup [.int (i : Nat), .ref p])) := same_upd hTn
      have hTup : (upd H0 Tp (.tup [.int (i : Nat), .ref p])) Tp = some (.tup [.int (i : Nat), .ref p]) := upd_same
      generalize upd H0 Tp (.tup [.int (i : Nat), .ref p]) = H2 at *
      have s2 := s1.trans sT
      have hp2 := s2 _ _ hpx
      refine ⟨Tp, _, rfl, SqT.of hTup, rfl, _, _, rfl, _, _, rfl, rfl, ?_⟩
      have h0 : (vn (enc x))[0]? = some (V.int (hd x : Nat)) := vn_get (enc_hd x)
      have hxm : x ∈ at_ := List.mem_of_getElem? hxi
      have hh := holds_atom AO.atl.nd hxi (AO.atl.ia x hxm) t
      refine ⟨_, rfl, p, _, _, _, rfl, rfl, SqT.of hp2, atI_nat (j := 0) h0, rfl, _, rfl, ?_⟩
      rw [take_more hxi, nmSum_more]
      by_cases e : hd x = 2
      · refine ifT ((eqNum _ 2).trans (decide_eq_true e)) ?_
        obtain ⟨n, rfl⟩ : ∃ n, x = .name n := by cases x <;> simp [hd, enc] at e; exact ⟨_, rfl⟩
        have hn4 : n < 4 := AO.ok _ hxm
        refine ⟨_, rfl, _, rfl, _, _, rfl, rfl, (by omega), _, _, rfl, rfl, rfl, _, rfl, ?_⟩
        by_cases hb : t.testBit i = true
        · refine ifT ((bit1 t i).trans hb) ?_
          refine ⟨_, rfl, _, rfl, p, _, _, _, rfl, rfl, SqT.of hp2, atI_nat (j := 1) (v := V.int (n : Nat)) rfl, _, _, rfl, rfl, ⟨by omega, by omega, by decide⟩, _, _, rfl, rfl, ?_⟩
          refine ⟨s2, some (zn i), some (.ref p), ?_⟩
          show [_, _, some (V.int (((nmSum (Oc.holds at_ t) (at_.take i) : Nat) : Int) + 1 * 2 ^ ((n : Int).toNat))), _, _] = _
          rw [z_shl]
          have e3 : nmv (Oc.holds at_ t) (.name n) = 2 ^ n := if_pos (by rw [hh]; exact hb)
          rw [e3, ← Int.natCast_add]
        · have hb' : t.testBit i = false := by simpa using hb
          refine ifF ((bit1 t i).trans hb') ?_
          refine ⟨s2, some (zn i), some (.ref p), ?_⟩
          have e3 : nmv (Oc.holds at_ t) (.name n) = 0 := if_neg (by rw [hh, hb']; decide)
          rw [e3]
          rfl
      · refine ifF ((eqNum _ 2).trans (decide_eq_false e)) ?_
        refine ifF rfl ?_
        refine ⟨s2, some (zn i), some (.ref p), ?_⟩
        have e3 : nmv (Oc.holds at_ t) x = 0 := by cases x <;> simp [hd, enc] at e <;> rfl
        rw [e3]
        rfl
    · rintro σ H1 ⟨s1, v3, v4, rfl⟩
      rw [List.length_map, hlt, List.take_length, namesOf_eq AO.atl.nd AO.ok]
      exact ⟨_, rfl, q _ s1⟩
end
end Cx
/-! ## CxR1 -/
namespace Cx
open Oc (C)
open PySem PySem.Spec PyProof.Rows L2
abbrev sRels : Stmt := top 23
abbrev sMembers : Stmt := top 24
abbrev sReported : Stmt := top 25
/-! ### Pairs of numbers as data, numbers in a list -/
def dP (x : Nat × Nat) : PyData := .tuple ([x.1, x.2].map fun (n : Nat) => .int (n : Int))
theorem dP_lay (x : Nat × Nat) : (dP x).canLay0 = true := by rw [dP, PyData.canLay0]; exact lay_ints _
theorem dP_depth (x : Nat × Nat) : (dP x).depth = 1 := by rw [dP, PyData.depth, depth_ints]
theorem dP_shaped (x : Nat × Nat) : SeqAt.shaped (dP x) = true := by
  show ((dP x).canLay0 && decide ((dP x).depth ≤ 64)) = true
  rw [dP_lay, dP_depth]; rfl
theorem dPs_lay : ∀ l : List (Nat × Nat), PyData.canLayAll0 (l.map dP) = true
  | [] => by simp [PyData.canLayAll0]
  | c :: l => by rw [List.map_cons, PyData.canLayAll0, dP_lay, dPs_lay l]; rfl
theorem dPs_depth : ∀ l : List (Nat × Nat), PyData.depthAll (l.map dP) ≤ 1
  | [] => by simp [PyData.depthAll]
  | c :: l => by have := dPs_depth l; rw [List.map_cons, PyData.depthAll, dP_depth]; omega
theorem dPs_shaped (l : List (Nat × Nat)) : SeqAt.shaped (.list (l.map dP)) = true := by
  have h1 := dPs_depth l
  have h2 : PyData.depth (.list (l.map dP)) ≤ 64 := by rw [PyData.depth]; omega
  show (PyData.canLay0 (.list (l.map dP)) && decide (PyData.depth (.list (l.map dP)) ≤ 64)) = true
  rw [Bool.and_eq_true]
  exact ⟨by rw [PyData.canLay0]; exact dPs_lay l, decide_eq_true h2⟩
theorem dP_eqv (x y : Nat × Nat) : PyData.eqv (dP x) (dP y) = decide (x = y) := by
  rw [dP, dP, PyData.eqv, eqv_ints]
  obtain ⟨a, b⟩ := x
  obtain ⟨c, d⟩ := y
  simp
theorem dp_p {K : PySem.W.Frag} {H : Hp} {t : Addr} {x : Nat × Nat} (h : H t = some (.tup [zn x.1, zn x.2])) : Dp K H (.ref t) (dP x) := .tup (SqT.of h) (dp_ints [x.1, x.2])
theorem dp_ps {K : PySem.W.Frag} {H : Hp} : ∀ {us : List Addr} {l : List (Nat × Nat)}, Pairs H us l → DpAll K H (us.map V.ref) (l.map dP)
  | _, _, .nil => .nil
  | _, _, .cons h t => .cons (dp_p h) (dp_ps t)
theorem any_dP (l : List (Nat × Nat)) (x : Nat × Nat) : ((l.map dP).any fun z => PyData.eqv z (dP x)) = l.contains x := by
  induction l with
  | nil => rfl
  | cons a l ih =>
    rw [List.map_cons, List.any_cons, ih, dP_eqv, List.contains_cons]
    congr 1
    by_cases h : a = x
    · subst h; simp
    · have h' : ¬ x = a := fun e => h e.symm
      simp [h, h']
theorem vn_flat (l : List Nat) : (vn l).all flatV = true := by unfold vn; rw [List.all_map, List.all_eq_true]; intro x _; rfl
theorem eqV_n (a b : Nat) : eqV (V.int (a : Int)) (V.int (b : Int)) = decide (a = b) := by
  show ((a : Int) == (b : Int)) = _
  by_cases h : a = b
  · subst h; simp
  · rw [decide_eq_false h]; exact beq_eq_false_iff_ne.mpr (by omega)
theorem inV_vn (n : Nat) (l : List Nat) : inV (V.int (n : Int)) (vn l) = l.contains n := by
  unfold inV vn
  rw [List.any_map]
  induction l with
  | nil => rfl
  | cons a l ih =>
    rw [List.any_cons, List.contains_cons, ih]
    congr 1
    show eqV (V.int (a : Int)) (V.int (n : Int)) = _
    rw [eqV_n]
    by_cases h : a = n
    · subst h; simp
    · have h' : ¬ n = a := fun e => h e.symm
      simp [h, h']
/-! ### Promises -/
/-- relations_of -/
def spRels (CK CR : Addr) : Sp := fun vs H Q _ => ∃ (a : Addr) (at_ : List C) (ax : List Oc.Axiom) (t : Nat), vs = [.ref a, zn (tg at_ ax), zn t] ∧ AtOk at_ ∧ KN CK CR H a at_ ∧ t ∈ Oc.types at_ ax ∧
  ∀ (H' : Hp) (q : Addr) (us : List Addr), Same H H' → H q = none → H' q = some (.lst (us.map V.ref)) → Pairs H' us (rels at_ ax t) → Q (.ref q) H'
/-- members_from -/
def spMembers (CK CR : Addr) : Sp := fun vs H Q _ => ∃ (a : Addr) (at_ : List C) (ax : List Oc.Axiom) (t : Nat), vs = [.ref a, zn (tg at_ ax), zn t] ∧ AtOk at_ ∧ KN CK CR H a at_ ∧ t ∈ Oc.types at_ ax ∧
  ∀ (H' : Hp) (q : Addr), Same H H' → H q = none → H' q = some (.lst (vn (els at_ ax t))) → Q (.ref q) H'
/-- reported_model -/
def spReported (CK CR : Addr) : Sp := fun vs H Q _ => ∃ (a : Addr) (at_ : List C) (ax : List Oc.Axiom) (t : Nat), vs = [.ref a, zn (tg at_ ax), zn t] ∧ AtOk at_ ∧ KN CK CR H a at_ ∧ t ∈ Oc.types at_ ax ∧
  ∀ (H' : Hp) (q : Addr), Same H H' → H q = none → H' q = some (.lst (vn (tellM at_ ax t))) → Q (.ref q) H'
theorem els_len {at_ : List C} {ax : List Oc.Axiom} {w : List Nat} (A : AtOk at_) (h : Els at_ ax w) : w.length ≤ 64 := by
  have h1 := h.len
  have h2 := types_len at_ ax
  have h3 := A.kn
  have h4 : kn at_ = 2 ^ at_.length := rfl
  omega
section
variable {P : Program} {w : World} {K : PySem.W.Frag} {mg : Str → Option Value} {base : Heap} {CK CR pP pC CN : Addr}
theorem scRels : FnScope ["kinds", "possible", "kind", "relations", "role", "need", "relation"] ["kinds", "possible", "kind"] (defScope sRels) := ⟨rfl, rfl, rfl, by decide +kernel, rfl, by decide +kernel, by decide +kernel⟩
theorem ok_rels {f fF : Addr} {fd fdF : FuncData} (F : Fun K "relations_of" "relations_of" sRels f fd) (TK : TxK K mg CK CR)
    (GF : FnOk P w K mg base CX0 1 fF fdF ["group"] spFirst) (bF : Binds K fdF ["group"] []) (mF : mg "first_kind" = some (.ref fF)) (kF' : PySem.W.keepIn K (.ref fF) = true) :
    FnOk P w K mg base CX0 2 f fd ["kinds", "possible", "kind"] (spRels CK CR) := by
  refine F.ok scRels (fun vs H Q E h => ?_) (fun cdv A outer s H vs Q E hr h => ?_)
  · obtain ⟨a, at_, ax, t, rfl, _⟩ := h
    rfl
  · obtain ⟨a, at_, ax, t, rfl, AO, ⟨dx, aA, aR, aN, ts, rs, ns, ha, hA, hC, hR, hRs, hN, hNs⟩, htm, q⟩ := h
    refine ⟨_, pss_cons (ps_set (i := 3) scRels.nd rfl (Or.inl rfl) (pe_lst pa_nil))
      (pss_cons (ps_for PassesOwn.never rfl (pi_list (pe_ix ix_list (pe_fld (pv 0) rfl) (pv 2) (fun _ _ => rfl))) (pg_tup rfl (pgs_cons (pg_name (i := 4) scRels.nd rfl (Or.inl rfl)) (pgs_cons (pg_name (i := 5) scRels.nd rfl (Or.inl rfl)) pgs_nil)))
        (pss_cons (ps_set (i := 6) scRels.nd rfl (Or.inl rfl) (pe_tup (pa_cons (pv 4) (pa_cons (pe_call GF hr (by rfl) mF kF' bF .nil pass0 (pa_cons (pe_op op_and (pv 5) (pv 1)) pa_nil)) pa_nil))))
        (pss_one (ps_if (pt_cmpR (op_notInD (room65 hr)) (pv 6) (pv 3) (by rfl))
          (pss_one (ps_expr (pe_bm PySem.F.plainAttrs_list PySem.F.slot_list_append PySem.F.type_list_append mt_append (pv 3) (pa_cons (pv 6) pa_nil)))) pss_nil))))
      (pss_one (ps_ret (pv 3)))), ?_⟩
    have htl : t < kn at_ := (types_good at_ ax t htm).1
    obtain ⟨b, hbi, vs, hb, hV⟩ : ∃ b, ns[t]? = some b ∧ NeedAt at_ H b t := paired_get2 hNs (by rw [List.getElem?_range htl])
    have hgl := needG_len at_ t
    have hsix := AO.six
    have hvl : vs.length = (needG at_ t).length := Paired.length hV
    refine ⟨Nat.zero_le _, fun g hg => ?_⟩
    have s0 : Same H (upd H g (.lst [])) := same_upd hg
    refine ⟨_, rfl, a, CK, dx, _, _, rfl, s0 _ _ ha, TK.clK, TK.nNeeds, kF_needs, _, rfl, aN, _, _, _, rfl, rfl, SqL.of (s0 _ _ hN), atI_nat (v := .ref b) (by rw [List.getElem?_map, hbi]; rfl), ?_⟩
    refine ⟨b, rfl, ⟨_, SqL.of (s0 _ _ hb)⟩, for_list (K := K) (a := b) (xs := vs.map V.ref) (fun i σ H1 => Same H H1 ∧ ∃ (v4 v5 v6 : Option V) (us : List Addr), σ = [some (.ref a), some (zn (tg at_ ax)), some (zn t), some (.ref g), v4, v5, v6] ∧
        H1 g = some (.lst (us.map V.ref)) ∧ Pairs H1 us (Oc01.once ((Oc01.needs at_ (Oc.types at_ ax) t).take i))) ⟨s0, none, none, none, [], rfl, upd_same, .nil⟩ (fun i σ H1 _ ⟨s1, _⟩ => SqL.of (s1 _ _ hb)) ?_ ?_⟩
    · rintro i y σ H1 hi ⟨s1, v4, v5, v6, us, rfl, hG, hU⟩
      obtain ⟨u, hui, rfl⟩ := refs_get hi
      obtain ⟨x, hxi, hux⟩ := paired_get hV hui
      have hil : i < (needG at_ t).length := (List.getElem?_eq_some_iff.mp hxi).1
      obtain ⟨k, hk, hF, hkm, hkl⟩ := needs_at htm (i := i) (r := x.1) (g := x.2) hxi
      have hul : us.length ≤ i := by
        have h1 := Paired.length hU
        have h2 := once_len ((Oc01.needs at_ (Oc.types at_ ax) t).take i)
        rw [List.length_take] at h2
        omega
      refine ⟨u, _, rfl, SqT.of (s1 _ _ hux), rfl, _, _, rfl, _, _, rfl, rfl, ?_⟩
      refine ⟨_, rfl, _, rfl, _, rfl, _, _, rfl, rfl, x.2 &&& tg at_ ax, k, ?_, hF, (by show 2 ≤ sizeLine; decide), fun n hn => ?_⟩
      · show [V.int (Builtin.bitAnd ((x.2 : Nat) : Int) ((tg at_ ax : Nat) : Int))] = _
        rw [z_and]
      have s2 : Same H1 (upd H1 n (.tup [zn x.1, zn k])) := same_upd hn
      have hnt : (upd H1 n (.tup [zn x.1, zn k])) n = some (.tup [zn x.1, zn k]) := upd_same
      have hG2 := s2 _ _ hG
      have hU2 := hU.same s2
      have s12 := s1.trans s2
      generalize upd H1 n (.tup [zn x.1, zn k]) = H2 at *
      refine ⟨_, rfl, _, rfl, dP (x.1, k), _, dp_p (x := (x.1, k)) hnt, .lst (SqL.of hG2) (dp_ps hU2), dP_shaped _, dPs_shaped _, _, rfl, ?_⟩
      rw [any_dP, take_more hk, once_more]
      unfold add1
      by_cases hc : (Oc01.once ((Oc01.needs at_ (Oc.types at_ ax) t).take i)).contains (x.1, k) = true
      · rw [if_pos hc]
        refine ifF (by rw [hc]; rfl) ?_
        exact ⟨s12, _, _, _, us, rfl, hG2, hU2⟩
      · have hc' : (Oc01.once ((Oc01.needs at_ (Oc.types at_ ax) t).take i)).contains (x.1, k) = false := by simpa using hc
        rw [if_neg hc]
        refine ifT (by rw [hc']; rfl) ?_
        refine ⟨_, rfl, .inl ⟨rfl, _, SqL.of hG2⟩, _, rfl, g, _, _, rfl, rfl, hG2, (by rw [List.length_map]; exact small1000 (by omega)), ?_⟩
        have kp : ∀ b o, b ≠ g → H2 b = some o → (upd H2 g (.lst (us.map V.ref ++ [V.ref n]))) b = some o := fun b o h1 h2 => by rw [upd_ne h1]; exact h2
        refine ⟨fun b o h => kp b o (ne_of_none h hg) (s12 _ _ h), _, _, _, us ++ [n], rfl, by rw [upd_same, List.map_append]; rfl, ?_⟩
        refine Paired.snoc (L2.Paired.mapP hU2 fun b y h => ?_) ?_
        · exact kp _ _ (ne_of h hG2 (by intro z; cases z)) h
        · exact kp _ _ (ne_of hnt hG2 (by intro z; cases z)) hnt
    · rintro σ H1 ⟨s1, v4, v5, v6, us, rfl, hG, hU⟩
      rw [List.length_map, hvl, ← needs_len htm, List.take_length] at hU
      exact ⟨_, rfl, q _ _ us s1 hg hG hU⟩
theorem scMembers : FnScope ["kinds", "possible", "first", "members", "place", "role", "kind"] ["kinds", "possible", "first"] (defScope sMembers) := ⟨rfl, rfl, rfl, by decide +kernel, rfl, by decide +kernel, by decide +kernel⟩
theorem ok_members {f fR : Addr} {fd fdR : FuncData} (F : Fun K "members_from" "members_from" sMembers f fd) (T : TxA K mg pP pC CN) (TK : TxK K mg CK CR)
    (GR : FnOk P w K mg base CX0 2 fR fdR ["kinds", "possible", "kind"] (spRels CK CR)) (bR : Binds K fdR ["kinds", "possible", "kind"] []) (mR : mg "relations_of" = some (.ref fR)) (kR : PySem.W.keepIn K (.ref fR) = true) :
    FnOk P w K mg base CX0 3 f fd ["kinds", "possible", "first"] (spMembers CK CR) := by
  refine F.ok scMembers (fun vs H Q E h => ?_) (fun cdv A outer s H vs Q E hr h => ?_)
  · obtain ⟨a, at_, ax, t, rfl, _⟩ := h
    rfl
  · obtain ⟨a, at_, ax, t, rfl, AO, hK, htm, q⟩ := h
    refine ⟨_, pss_cons (ps_set (i := 3) scMembers.nd rfl (Or.inl rfl) (pe_lst (pa_cons (pv 2) pa_nil)))
      (pss_cons (ps_set (i := 4) scMembers.nd rfl (Or.inl rfl) pe_int)
      (pss_cons (ps_while PassesOwn.never (pt_cmpR op_lt (pv 4) (pe_callB call_len_seq (by rfl) T.len PySem.boot_len (pa_cons (pv 3) pa_nil)) (nomark _))
        (pss_cons (ps_for PassesOwn.never rfl (pi_list (pe_call GR hr (by rfl) mR kR bR .nil pass0 (pa_cons (pv 0) (pa_cons (pv 1) (pa_cons (pe_ix ix_list (pv 3) (pv 4) (fun _ _ => rfl)) pa_nil))))) (pg_tup rfl (pgs_cons (pg_name (i := 5) scMembers.nd rfl (Or.inl rfl)) (pgs_cons (pg_name (i := 6) scMembers.nd rfl (Or.inl rfl)) pgs_nil)))
          (pss_one (ps_if (pt_cmpR op_notIn_seq (pv 6) (pv 3) (by rfl)) (pss_one (ps_expr (pe_bm PySem.F.plainAttrs_list PySem.F.slot_list_append PySem.F.type_list_append mt_append (pv 3) (pa_cons (pv 6) pa_nil)))) pss_nil)))
        (pss_one (ps_aug (i := 4) scMembers.nd rfl (Or.inl rfl) pe_int ip_add))))
      (pss_one (ps_ret (pv 3))))), ?_⟩
    refine ⟨_, rfl, (by show 1 ≤ sizeLine; decide), fun g hg => ?_⟩
    have s0 : Same H (upd H g (.lst [zn t])) := same_upd hg
    refine while_by (fun σ H1 => Same H H1 ∧ ∃ (i : Nat) (v5 v6 : Option V) (m : List Nat), σ = [some (.ref a), some (zn (tg at_ ax)), some (zn t), some (.ref g), some (zn i), v5, v6] ∧ H1 g = some (.lst (vn m)) ∧
        Els at_ ax m ∧ Gathers at_ ax i m (els at_ ax t) ∧ i ≤ m.length) (fun σ _ => match σ with | [_, _, _, _, some (.int i), _, _] => 65 - i.toNat | _ => 0)
      ⟨s0, 0, none, none, [t], rfl, upd_same, els_one htm, gathers_init (els_one htm), Nat.zero_le _⟩ ?_ ?_
    · rintro σ H1 ⟨s1, i, v5, v6, m, rfl, hG, hE, hGa, him⟩
      refine ⟨_, rfl, _, rfl, g, _, rfl, .inl (SqL.of hG), _, _, rfl, rfl, _, rfl, ?_⟩
      rw [vn_len]
      have hm64 := els_len AO hE
      by_cases hlt : i < m.length
      · refine ifT (decide_eq_true (by omega)) ?_
        obtain ⟨u, hu⟩ : ∃ u, m[i]? = some u := ⟨_, List.getElem?_eq_getElem hlt⟩
        have hut := hE.sub u (List.mem_of_getElem? hu)
        refine ⟨_, rfl, _, rfl, _, rfl, _, rfl, g, _, _, _, rfl, rfl, SqL.of hG, atI_nat (vn_get hu), ?_⟩
        refine ⟨a, at_, ax, u, rfl, AO, hK.same s1, hut, fun H2 r us s2 hr0 hr2 hU => ?_⟩
        have hrl := rels_len hut
        have hsix := AO.six
        have hul : us.length = (rels at_ ax u).length := Paired.length hU
        have hrg : r ≠ g := fun z => by subst z; rw [hG] at hr0; cases hr0
        have hHr : H r = none := s1.free hr0
        refine ⟨r, rfl, ⟨_, SqL.of hr2⟩, for_list (K := K) (a := r) (xs := us.map V.ref) (fun j σ H3 => Same H H3 ∧ H3 r = some (.lst (us.map V.ref)) ∧ Pairs H3 us (rels at_ ax u) ∧ ∃ (v5 v6 : Option V), σ = [some (.ref a), some (zn (tg at_ ax)), some (zn t), some (.ref g), some (zn i), v5, v6] ∧
            H3 g = some (.lst (vn (((rels at_ ax u).take j).foldl addK m)))) ⟨s1.trans s2, hr2, hU, v5, v6, rfl, s2 _ _ hG⟩ (fun j σ H3 _ ⟨_, h, _⟩ => SqL.of h) ?_ ?_⟩
        · rintro j y σ H3 hj ⟨s3, hr3, hU3, w5, w6, rfl, hG3⟩
          obtain ⟨b, hbj, rfl⟩ := refs_get hj
          obtain ⟨x, hxj, hbx⟩ := paired_get hU3 hbj
          have hE2 := hE.add hut (j := j)
          have hE64 := els_len AO hE2
          refine ⟨b, _, rfl, SqT.of hbx, rfl, _, _, rfl, _, _, rfl, rfl, ?_⟩
          refine ⟨_, rfl, _, rfl, g, _, rfl, .inl (SqL.of hG3), rfl, vn_flat _, _, rfl, ?_⟩
          have e3 : ((rels at_ ax u).take (j + 1)).foldl addK m = addK (((rels at_ ax u).take j).foldl addK m) x := by rw [take_more hxj, List.foldl_append]; rfl
          have ein : (if true = true then !inV (.int (x.2 : Nat)) (vn (((rels at_ ax u).take j).foldl addK m)) else inV (.int (x.2 : Nat)) (vn (((rels at_ ax u).take j).foldl addK m))) = !(((rels at_ ax u).take j).foldl addK m).contains x.2 := by
            rw [if_pos rfl, inV_vn]
          rw [e3]
          by_cases hc : (((rels at_ ax u).take j).foldl addK m).contains x.2 = true
          · rw [show addK (((rels at_ ax u).take j).foldl addK m) x = ((rels at_ ax u).take j).foldl addK m from if_pos hc]
            refine ifF (ein.trans (by rw [hc]; rfl)) ?_
            exact ⟨s3, hr3, hU3, _, _, rfl, hG3⟩
          · have hc' : (((rels at_ ax u).take j).foldl addK m).contains x.2 = false := by simpa using hc
            rw [show addK (((rels at_ ax u).take j).foldl addK m) x = ((rels at_ ax u).take j).foldl addK m ++ [x.2] from if_neg hc]
            refine ifT (ein.trans (by rw [hc']; rfl)) ?_
            refine ⟨_, rfl, .inl ⟨rfl, _, SqL.of hG3⟩, _, rfl, g, _, _, rfl, rfl, hG3, (by rw [vn_len]; exact small1000 (by omega)), ?_⟩
            have kp : ∀ b o, b ≠ g → H3 b = some o → (upd H3 g (.lst (vn (((rels at_ ax u).take j).foldl addK m) ++ [zn x.2]))) b = some o := fun b o h1 h2 => by rw [upd_ne h1]; exact h2
            refine ⟨fun b o h => kp b o (ne_of_none h hg) (s3 _ _ h), kp _ _ hrg hr3, L2.Paired.mapP hU3 fun b y h => kp _ _ (ne_of h hG3 (by intro z; cases z)) h, _, _, rfl, ?_⟩
            rw [upd_same]
            unfold vn
            rw [List.map_append]
            rfl
        · rintro σ H3 ⟨s3, hr3, hU3, w5, w6, rfl, hG3⟩
          rw [List.length_map, hul, List.take_length] at hG3
          have hE2 := hE.add hut (j := (rels at_ ax u).length)
          rw [List.take_length] at hE2
          refine ⟨_, rfl, _, _, rfl, rfl, ?_⟩
          have hml : m.length ≤ ((rels at_ ax u).foldl addK m).length := by
            obtain ⟨r, e⟩ := foldK_pre (rels at_ ax u) m
            rw [e, List.length_append]; omega
          have e1 : (i : Int) + 1 = ((i + 1 : Nat) : Int) := by omega
          refine ⟨⟨s3, i + 1, w5, w6, _, ?_, hG3, hE2, gathers_next hGa hu, by omega⟩, ?_⟩
          · show [_, _, _, _, some (V.int ((i : Int) + 1)), _, _] = _
            rw [e1]
          · show 65 - ((i : Int) + 1).toNat < 65 - ((i : Int)).toNat
            omega
      · refine ifF (decide_eq_false (by omega)) ?_
        have e := gathers_end hGa (by omega)
        rw [← e] at hG
        exact ⟨_, rfl, q _ _ s1 hg hG⟩
    · intro σ H1 Q Q' hq
      rintro ⟨x, h1, x2, h2, p, ys, h3, h4, i, j, h5, h6, k, h7, h8⟩
      exact ⟨x, h1, x2, h2, p, ys, h3, h4, i, j, h5, h6, k, h7, hq _ _ h8⟩
theorem scReported : FnScope ["kinds", "possible", "first", "members", "told", "member", "relations", "role", "kind"] ["kinds", "possible", "first"] (defScope sReported) := ⟨rfl, rfl, rfl, by decide +kernel, rfl, by decide +kernel, by decide +kernel⟩
theorem vn_app (l m : List Nat) : vn l ++ vn m = vn (l ++ m) := by unfold vn; rw [List.map_append]
theorem flat_len {α : Type} (f : α → List Nat) (n : Nat) : ∀ l : List α, (∀ x ∈ l, (f x).length ≤ n) → (l.flatMap f).length ≤ n * l.length
  | [], _ => by simp
  | x :: l, h => by
    have h1 := h x List.mem_cons_self
    have h2 := flat_len f n l fun y hy => h y (List.mem_cons_of_mem _ hy)
    rw [List.flatMap_cons, List.length_append, List.length_cons, Nat.mul_succ]
    omega
theorem tellE_len {at_ : List C} {ax : List Oc.Axiom} (A : AtOk at_) {w : List Nat} {u : Nat} (h : u ∈ Oc.types at_ ax) : (tellE at_ ax w u).length ≤ 14 := by
  have h1 := rels_len h
  have h2 := A.six
  have h3 := flat_len (fun x : Nat × Nat => [x.1, w.idxOf x.2]) 2 (rels at_ ax u) (fun x _ => Nat.le_refl 2)
  unfold tellE
  simp only [List.length_cons]
  omega
theorem flat_more {α : Type} (f : α → List Nat) {l : List α} {i : Nat} {x : α} (h : l[i]? = some x) : (l.take (i + 1)).flatMap f = (l.take i).flatMap f ++ f x := by
  rw [take_more h, List.flatMap_append]; simp
theorem ok_reported {f fM fR fN : Addr} {fd fdM fdR fdN : FuncData} (F : Fun K "reported_model" "reported_model" sReported f fd) (T : TxA K mg pP pC CN) (TK : TxK K mg CK CR)
    (GM : FnOk P w K mg base CX0 3 fM fdM ["kinds", "possible", "first"] (spMembers CK CR)) (bM : Binds K fdM ["kinds", "possible", "first"] []) (mM : mg "members_from" = some (.ref fM)) (kM : PySem.W.keepIn K (.ref fM) = true)
    (GR : FnOk P w K mg base CX0 2 fR fdR ["kinds", "possible", "kind"] (spRels CK CR)) (bR : Binds K fdR ["kinds", "possible", "kind"] []) (mR : mg "relations_of" = some (.ref fR)) (kR : PySem.W.keepIn K (.ref fR) = true)
    (GN : FnOk P w K mg base CX0 1 fN fdN ["self", "kind"] (spNamesOf CK)) (bN : Binds K fdN ["self", "kind"] []) (mN : Meth K CK "names_of" fN) :
    FnOk P w K mg base CX0 4 f fd ["kinds", "possible", "first"] (spReported CK CR) := by
  refine F.ok scReported (fun vs H Q E h => ?_) (fun cdv A outer s H vs Q E hr h => ?_)
  · obtain ⟨a, at_, ax, t, rfl, _⟩ := h
    rfl
  · obtain ⟨a, at_, ax, t, rfl, AO, hK, htm, q⟩ := h
    refine ⟨_, pss_cons (ps_set (i := 3) scReported.nd rfl (Or.inl rfl) (pe_call GM hr (by rfl) mM kM bM .nil pass0 (pa_cons (pv 0) (pa_cons (pv 1) (pa_cons (pv 2) pa_nil)))))
      (pss_cons (ps_set (i := 4) scReported.nd rfl (Or.inl rfl) (pe_lst (pa_cons (pe_callB call_len_seq (by rfl) T.len PySem.boot_len (pa_cons (pv 3) pa_nil)) pa_nil)))
      (pss_cons (ps_for PassesOwn.never rfl (pi_list (pv 3)) (pg_name (i := 5) scReported.nd rfl (Or.inl rfl))
        (pss_cons (ps_set (i := 6) scReported.nd rfl (Or.inl rfl) (pe_call GR (hr.mono (by decide)) (by rfl) mR kR bR .nil pass0 (pa_cons (pv 0) (pa_cons (pv 1) (pa_cons (pv 5) pa_nil)))))
        (pss_cons (ps_expr (pe_bm PySem.F.plainAttrs_list PySem.F.slot_list_append PySem.F.type_list_append mt_append (pv 4) (pa_cons (pe_meth (pv 0) TK.clK mN GN (hr.mono (by decide)) bN .nil pass0 (pa_cons (pv 5) pa_nil)) pa_nil)))
        (pss_cons (ps_expr (pe_bm PySem.F.plainAttrs_list PySem.F.slot_list_append PySem.F.type_list_append mt_append (pv 4) (pa_cons (pe_callB call_len_seq (by rfl) T.len PySem.boot_len (pa_cons (pv 6) pa_nil)) pa_nil)))
        (pss_one (ps_for PassesOwn.never rfl (pi_list (pv 6)) (pg_tup rfl (pgs_cons (pg_name (i := 7) scReported.nd rfl (Or.inl rfl)) (pgs_cons (pg_name (i := 8) scReported.nd rfl (Or.inl rfl)) pgs_nil)))
          (pss_cons (ps_expr (pe_bm PySem.F.plainAttrs_list PySem.F.slot_list_append PySem.F.type_list_append mt_append (pv 4) (pa_cons (pv 7) pa_nil)))
          (pss_one (ps_expr (pe_bm PySem.F.plainAttrs_list PySem.F.slot_list_append PySem.F.type_list_append mt_append (pv 4) (pa_cons
            (pe_bm PySem.F.plainAttrs_list PySem.F.slot_list_index PySem.F.type_list_index mt_index (pv 3) (pa_cons (pv 8) pa_nil)) pa_nil)))))))))))
      (pss_one (ps_ret (pv 4))))), ?_⟩
    obtain ⟨hE, hClo⟩ := els_good htm
    have hw64 := els_len AO hE
    refine ⟨_, rfl, _, rfl, _, rfl, a, at_, ax, t, rfl, AO, hK, htm, fun H1 m s1 hm0 hm1 => ?_⟩
    refine ⟨_, rfl, m, _, rfl, .inl (SqL.of hm1), (by show 1 ≤ sizeLine; decide), fun g hg => ?_⟩
    rw [vn_len]
    have hHg : H g = none := s1.free hg
    have hmg : m ≠ g := ne_of_none hm1 hg
    have s2 : Same H1 (upd H1 g (.lst [V.int (((els at_ ax t).length : Nat) : Int)])) := same_upd hg
    have hdx : ∃ dx aA rest, H a = some (.ins CK dx (kF aA at_.length rest)) ∧ KRest rest := by
      obtain ⟨dx, aA, aR, aN, ts, rs, ns, ha, _⟩ := hK
      exact ⟨dx, aA, _, ha, .inr (.inr ⟨_, _, rfl⟩)⟩
    obtain ⟨dx, aA, rest, ha, hrest⟩ := hdx
    refine ⟨_, rfl, m, rfl, ⟨_, SqL.of (s2 _ _ hm1)⟩, for_list (K := K) (a := m) (xs := vn (els at_ ax t)) (fun i σ H3 => Same H H3 ∧ H3 m = some (.lst (vn (els at_ ax t))) ∧ ∃ (v5 v6 v7 v8 : Option V), σ = [some (.ref a), some (zn (tg at_ ax)), some (zn t), some (.ref m), some (.ref g), v5, v6, v7, v8] ∧
        H3 g = some (.lst (vn ((els at_ ax t).length :: ((els at_ ax t).take i).flatMap (tellE at_ ax (els at_ ax t)))))) ⟨s1.trans s2, s2 _ _ hm1, none, none, none, none, rfl, upd_same⟩ (fun i σ H3 _ ⟨_, h, _⟩ => SqL.of h) ?_ ?_⟩
    · rintro i y σ H3 hi ⟨s3, hm3, v5, v6, v7, v8, rfl, hG⟩
      unfold vn at hi
      rw [List.getElem?_map] at hi
      obtain ⟨u, hui, rfl⟩ : ∃ u, (els at_ ax t)[i]? = some u ∧ y = V.int (u : Nat) := by
        cases e : (els at_ ax t)[i]? with
        | none => rw [e] at hi; cases hi
        | some o => rw [e] at hi; exact ⟨o, rfl, (Option.some.inj hi).symm⟩
      have hum := List.mem_of_getElem? hui
      have hut := hE.sub u hum
      have hil : i < (els at_ ax t).length := (List.getElem?_eq_some_iff.mp hui).1
      have hpre : (((els at_ ax t).take i).flatMap (tellE at_ ax (els at_ ax t))).length ≤ 14 * 64 := by
        have h1 := flat_len (tellE at_ ax (els at_ ax t)) 14 ((els at_ ax t).take i) fun x hx => tellE_len AO (hE.sub x (List.mem_of_mem_take hx))
        rw [List.length_take] at h1
        omega
      have hrl := rels_len hut
      have hsix := AO.six
      generalize hpr : ((els at_ ax t).take i).flatMap (tellE at_ ax (els at_ ax t)) = pre at *
      refine ⟨_, rfl, _, rfl, _, rfl, a, at_, ax, u, rfl, AO, hK.same s3, hut, fun H4 r us s4 hr0 hr4 hU => ?_⟩
      have hul : us.length = (rels at_ ax u).length := Paired.length hU
      have s34 := s3.trans s4
      have hHr : H r = none := s3.free hr0
      have hrg : r ≠ g := fun z => by subst z; rw [hG] at hr0; cases hr0
      have hmr : m ≠ r := fun z => by subst z; rw [hm3] at hr0; cases hr0
      refine ⟨_, rfl, .inl ⟨rfl, _, SqL.of (s4 _ _ hG)⟩, _, rfl, a, dx, _, rfl, s34 _ _ ha, kF_no hrest (by decide +kernel) (by decide +kernel) (by decide +kernel) (by decide +kernel) (by decide +kernel), ?_⟩
      refine ⟨_, rfl, a, at_, u, rfl, AO, (hK.same s34).kr.kb, fun H5 s5 => ?_⟩
      have s45 := s4.trans s5
      have s35 := s3.trans s45
      refine ⟨g, _, _, rfl, rfl, s45 _ _ hG, (by rw [vn_len, List.length_cons]; exact small1000 (by omega)), ?_⟩
      have k6 : ∀ b o, b ≠ g → H5 b = some o → (upd H5 g (.lst (vn ((els at_ ax t).length :: pre) ++ [zn (Oc01.namesOf at_ u)]))) b = some o := fun b o h1 h2 => by rw [upd_ne h1]; exact h2
      have hG6 : (upd H5 g (.lst (vn ((els at_ ax t).length :: pre) ++ [zn (Oc01.namesOf at_ u)]))) g = some (.lst (vn ((els at_ ax t).length :: pre) ++ vn [Oc01.namesOf at_ u])) := upd_same
      have hr6 := k6 _ _ hrg (s5 _ _ hr4)
      have hm6 := k6 _ _ hmg (s45 _ _ hm3)
      have hU6 : Pairs (upd H5 g (.lst (vn ((els at_ ax t).length :: pre) ++ [zn (Oc01.namesOf at_ u)]))) us (rels at_ ax u) := L2.Paired.mapP hU fun b y h => k6 _ _ (ne_of h (s4 _ _ hG) (by intro z; cases z)) (s5 _ _ h)
      have s6 : Same H (upd H5 g (.lst (vn ((els at_ ax t).length :: pre) ++ [zn (Oc01.namesOf at_ u)]))) := fun b o h => k6 _ _ (ne_of_none h hHg) (s35 _ _ h)
      generalize upd H5 g (.lst (vn ((els at_ ax t).length :: pre) ++ [zn (Oc01.namesOf at_ u)])) = H6 at *
      refine ⟨_, rfl, .inl ⟨rfl, _, SqL.of hG6⟩, _, rfl, r, _, rfl, .inl (SqL.of hr6), ?_⟩
      rw [List.length_map, hul]
      refine ⟨g, _, _, rfl, rfl, hG6, (by rw [vn_app, vn_len, List.length_append, List.length_cons]; exact small1000 (by simp; omega)), ?_⟩
      have k7 : ∀ b o, b ≠ g → H6 b = some o → (upd H6 g (.lst (vn ((els at_ ax t).length :: pre) ++ vn [Oc01.namesOf at_ u] ++ [zn (rels at_ ax u).length]))) b = some o := fun b o h1 h2 => by rw [upd_ne h1]; exact h2
      have hG7 : (upd H6 g (.lst (vn ((els at_ ax t).length :: pre) ++ vn [Oc01.namesOf at_ u] ++ [zn (rels at_ ax u).length]))) g = some (.lst (vn ((els at_ ax t).length :: (pre ++ [Oc01.namesOf at_ u, (rels at_ ax u).length])))) := by
        rw [upd_same]
        show some (HO.lst (vn ((els at_ ax t).length :: pre) ++ vn [Oc01.namesOf at_ u] ++ vn [(rels at_ ax u).length])) = _
        rw [vn_app, vn_app]
        simp
      have hr7 := k7 _ _ hrg hr6
      have hm7 := k7 _ _ hmg hm6
      have hU7 : Pairs (upd H6 g (.lst (vn ((els at_ ax t).length :: pre) ++ vn [Oc01.namesOf at_ u] ++ [zn (rels at_ ax u).length]))) us (rels at_ ax u) := L2.Paired.mapP hU6 fun b y h => k7 _ _ (ne_of h hG6 (by intro z; cases z)) h
      have s7 : Same H (upd H6 g (.lst (vn ((els at_ ax t).length :: pre) ++ vn [Oc01.namesOf at_ u] ++ [zn (rels at_ ax u).length]))) := fun b o h => k7 _ _ (ne_of_none h hHg) (s6 _ _ h)
      generalize upd H6 g (.lst (vn ((els at_ ax t).length :: pre) ++ vn [Oc01.namesOf at_ u] ++ [zn (rels at_ ax u).length])) = H7 at *
      refine ⟨_, rfl, r, rfl, ⟨_, SqL.of hr7⟩, for_list (K := K) (a := r) (xs := us.map V.ref) (fun j σ H8 => Same H H8 ∧ H8 r = some (.lst (us.map V.ref)) ∧ Pairs H8 us (rels at_ ax u) ∧ H8 m = some (.lst (vn (els at_ ax t))) ∧ ∃ (v7 v8 : Option V), σ = [some (.ref a), some (zn (tg at_ ax)), some (zn t), some (.ref m), some (.ref g), some (zn u), some (.ref r), v7, v8] ∧
          H8 g = some (.lst (vn ((els at_ ax t).length :: (pre ++ [Oc01.namesOf at_ u, (rels at_ ax u).length] ++ ((rels at_ ax u).take j).flatMap fun x => [x.1, (els at_ ax t).idxOf x.2])))))
        ⟨s7, hr7, hU7, hm7, v7, v8, rfl, by rw [hG7]; simp⟩ (fun j σ H8 _ ⟨_, h, _⟩ => SqL.of h) ?_ ?_⟩
      · rintro j y σ H8 hj ⟨s8, hr8, hU8, hm8, w7, w8, rfl, hG8⟩
        obtain ⟨b, hbj, rfl⟩ := refs_get hj
        obtain ⟨x, hxj, hbx⟩ := paired_get hU8 hbj
        have hxw := hClo u hum x (List.mem_of_getElem? hxj)
        have hjl : j < (rels at_ ax u).length := (List.getElem?_eq_some_iff.mp hxj).1
        have hfl : (((rels at_ ax u).take j).flatMap fun x => [x.1, (els at_ ax t).idxOf x.2]).length ≤ 12 := by
          have h1 := flat_len (fun x : Nat × Nat => [x.1, (els at_ ax t).idxOf x.2]) 2 ((rels at_ ax u).take j) (fun x _ => Nat.le_refl 2)
          rw [List.length_take] at h1
          omega
        generalize hin : (((rels at_ ax u).take j).flatMap fun x => [x.1, (els at_ ax t).idxOf x.2]) = inn at *
        refine ⟨b, _, rfl, SqT.of hbx, rfl, _, _, rfl, _, _, rfl, rfl, ?_⟩
        refine ⟨_, rfl, .inl ⟨rfl, _, SqL.of hG8⟩, _, rfl, g, _, _, rfl, rfl, hG8, (by rw [vn_len]; exact small1000 (by simp; omega)), ?_⟩
        have k9 : ∀ b o, b ≠ g → H8 b = some o → (upd H8 g (.lst (vn ((els at_ ax t).length :: (pre ++ [Oc01.namesOf at_ u, (rels at_ ax u).length] ++ inn)) ++ [zn x.1]))) b = some o := fun b o h1 h2 => by rw [upd_ne h1]; exact h2
        have hG9 : (upd H8 g (.lst (vn ((els at_ ax t).length :: (pre ++ [Oc01.namesOf at_ u, (rels at_ ax u).length] ++ inn)) ++ [zn x.1]))) g = some (.lst (vn ((els at_ ax t).length :: (pre ++ [Oc01.namesOf at_ u, (rels at_ ax u).length] ++ inn ++ [x.1])))) := by
          rw [upd_same]
          show some (HO.lst (_ ++ vn [x.1])) = _
          rw [vn_app]
          simp
        have hr9 := k9 _ _ hrg hr8
        have hm9 := k9 _ _ hmg hm8
        have hU9 : Pairs (upd H8 g (.lst (vn ((els at_ ax t).length :: (pre ++ [Oc01.namesOf at_ u, (rels at_ ax u).length] ++ inn)) ++ [zn x.1]))) us (rels at_ ax u) := L2.Paired.mapP hU8 fun b y h => k9 _ _ (ne_of h hG8 (by intro z; cases z)) h
        have s9 : Same H (upd H8 g (.lst (vn ((els at_ ax t).length :: (pre ++ [Oc01.namesOf at_ u, (rels at_ ax u).length] ++ inn)) ++ [zn x.1]))) := fun b o h => k9 _ _ (ne_of_none h hHg) (s8 _ _ h)
        generalize upd H8 g (.lst (vn ((els at_ ax t).length :: (pre ++ [Oc01.namesOf at_ u, (rels at_ ax u).length] ++ inn)) ++ [zn x.1])) = H9 at *
        refine ⟨_, rfl, .inl ⟨rfl, _, SqL.of hG9⟩, _, rfl, .inl ⟨rfl, _, SqL.of hm9⟩, _, rfl, m, vn (els at_ ax t), zn x.2, (els at_ ax t).idxOf x.2, zn x.2, rfl, rfl, SqL.of hm9, rfl, vn_flat _, vn_get (idx_at hxw), ?_, ?_, ?_⟩
        · rw [eqV_n]; simp
        · intro n z hn hz
          unfold vn at hz
          rw [List.getElem?_map] at hz
          cases e : (els at_ ax t)[n]? with
          | none => rw [e] at hz; cases hz
          | some v =>
            rw [e] at hz
            have hz' := Option.some.inj hz
            subst hz'
            rw [eqV_n]
            refine decide_eq_false fun h => ?_
            subst h
            have := nd_ix hE.nd e (idx_at hxw)
            omega
        refine ⟨g, _, _, rfl, rfl, hG9, (by rw [vn_len]; exact small1000 (by simp; omega)), ?_⟩
        have kz : ∀ b o, b ≠ g → H9 b = some o → (upd H9 g (.lst (vn ((els at_ ax t).length :: (pre ++ [Oc01.namesOf at_ u, (rels at_ ax u).length] ++ inn ++ [x.1])) ++ [zn ((els at_ ax t).idxOf x.2)]))) b = some o := fun b o h1 h2 => by rw [upd_ne h1]; exact h2
        refine ⟨fun b o h => kz _ _ (ne_of_none h hHg) (s9 _ _ h), kz _ _ hrg hr9, L2.Paired.mapP hU9 fun b y h => kz _ _ (ne_of h hG9 (by intro z; cases z)) h, kz _ _ hmg hm9, _, _, rfl, ?_⟩
        rw [upd_same, flat_more _ hxj, hin]
        show some (HO.lst (_ ++ vn [(els at_ ax t).idxOf x.2])) = _
        rw [vn_app]
        simp
      · rintro σ H8 ⟨s8, hr8, hU8, hm8, w7, w8, rfl, hG8⟩
        rw [List.length_map, hul, List.take_length] at hG8
        refine ⟨s8, hm8, _, _, _, _, rfl, ?_⟩
        rw [hG8, flat_more _ hui, hpr]
        unfold tellE
        simp
    · rintro σ H3 ⟨s3, hm3, v5, v6, v7, v8, rfl, hG⟩
      rw [vn_len, List.take_length] at hG
      exact ⟨_, rfl, q _ _ s3 hHg hG⟩
end
end Cx
/-! ## CxS1 -/
namespace Cx
open Oc (C)
open PySem PySem.Spec PyProof.Rows L2
abbrev sSInit : Stmt := inClass (top 32) 0
abbrev sBegins : Stmt := inClass (top 32) 1
abbrev sLine : Stmt := inClass (top 32) 2
abbrev sDrop : Stmt := inClass (top 32) 3
abbrev sCan : Stmt := inClass (top 32) 4
abbrev sUnder : Stmt := inClass (top 32) 5
abbrev sModel : Stmt := inClass (top 32) 6
abbrev sAgainst : Stmt := inClass (top 32) 7
abbrev sNames : Stmt := inClass (top 32) 8
abbrev sSpare : Stmt := inClass (top 32) 9
abbrev sReadS : Stmt := inClass (top 32) 10
abbrev sModelOf : Stmt := inClass (top 32) 11
abbrev sKindsW : Stmt := inClass (top 32) 12
abbrev sWith : Stmt := inClass (top 32) 13
abbrev sCheck : Stmt := inClass (top 32) 14
abbrev sIsSub : Stmt := top 33
abbrev sMayH : Stmt := top 34
abbrev sMayL : Stmt := top 35
/-- an own error's class -/
structure ExcC (K : PySem.W.Frag) (mg : Str → Option Value) (x : Str) (X : Addr) : Prop where
  g : mg x = some (.ref X)
  x : PySem.W.excIn K X [.type "ValueError", .type "Exception", .type "BaseException", .type "object"] "ValueError.__new__" = true
  k : PySem.W.keepIn K (.ref X) = true
  b : PySem.W.subIn K (.ref X) (.type "BaseException") = some true
  t : PySem.W.typeIn K (.ref X) = some (.type "type")
/-! ### What the top has written of session.py -/
structure TxS (K : PySem.W.Frag) (mg : Str → Option Value) (CS CA CT CM : Addr) : Prop where
  cl : Cls K CS
  g : mg "Session" = some (.ref CS)
  nAx : NoAttr K CS "axioms"
  eA : ExcC K mg "NoSuchAxiom" CA
  eT : ExcC K mg "TooMany" CT
  eM : ExcC K mg "NoModel" CM
  iAxioms : ∃ u, mg "MOST_AXIOMS" = some u ∧ RelV (.int 6) u
  iAtoms : ∃ u, mg "MOST_ATOMS" = some u ∧ RelV (.int 6) u
/-! ### The object -/
def sF (l : Addr) : List (Str × V) := [("axioms", .ref l)]
def SesAt (CS : Addr) (H : Hp) (s l : Addr) (ax : List Oc.Axiom) : Prop := ∃ (dx : Addr) (ps : List Addr), H s = some (.ins CS dx (sF l)) ∧ H l = some (.lst (ps.map V.ref)) ∧ AxsAt H ps ax
theorem SesAt.same {CS : Addr} {H H' : Hp} {s l : Addr} {ax : List Oc.Axiom} (e : Same H H') (h : SesAt CS H s l ax) : SesAt CS H' s l ax := by
  obtain ⟨dx, ps, h1, h2, h3⟩ := h
  exact ⟨dx, ps, e _ _ h1, e _ _ h2, h3.same e⟩
theorem sF_ax {l : Addr} : (sF l).lookup ("axioms" : Str) = some (.ref l) := lk_here
theorem sF_no {l : Addr} {m : Str} (h : (m == ("axioms" : Str)) = false) : (sF l).lookup m = none := (lk_past h).trans rfl
theorem cons_append {H : Hp} {ts us : List Addr} {cs ds : List C} (h : Cons H ts cs) (k : Cons H us ds) : Cons H (ts ++ us) (cs ++ ds) := paired_append h k
theorem atOk_of {ax : List Oc.Axiom} (h : HouseOk ax) {cs : List C} (hc : ∀ c ∈ cs, okc c ∧ (enc c).length ≤ 40) (hm : (Oc.atomsFor ax cs).length ≤ 6) : AtOk (Oc.atomsFor ax cs) := by
  have hok : ∀ c ∈ axc ax ++ cs, okc c ∧ (enc c).length ≤ 40 := by
    intro c hm
    rcases List.mem_append.mp hm with hm | hm
    · obtain ⟨h1, h2⟩ := axc_ok h c hm
      exact ⟨h1, by omega⟩
    · exact hc c hm
  refine ⟨atl_of _, hm, atoms_ok fun c hm => (hok c hm).1, fun x hx => ?_⟩
  obtain ⟨c, hc2, hx⟩ := List.mem_flatMap.mp (mem_distinct.mp hx)
  rw [atoms_eq] at hx
  have h1 := subs_enc (List.mem_filter.mp hx).1
  have h2 := (hok c hc2).2
  omega
theorem axOk_of {ax : List Oc.Axiom} (h : HouseOk ax) {cs : List C} {x : Oc.Axiom} (hx : x ∈ ax) : AxOk (Oc.atomsFor ax cs) x := by
  obtain ⟨h1, h2, h3, h4⟩ := h.ok x hx
  exact ⟨h1, h2, cov_of (List.mem_append_left _ (List.mem_flatMap.mpr ⟨x, hx, by simp⟩)), cov_of (List.mem_append_left _ (List.mem_flatMap.mpr ⟨x, hx, by simp⟩)), by omega, by omega⟩
/-! ### Promises -/
/-- with_axioms -/
def spWith (CS : Addr) : Sp := fun vs H Q _ => ∃ (s l c : Addr) (ts : List Addr) (ax : List Oc.Axiom) (cs : List C), vs = [.ref s, .ref c] ∧ SesAt CS H s l ax ∧ ax.length ≤ 6 ∧ H c = some (.lst (ts.map V.ref)) ∧ Cons H ts cs ∧ cs.length ≤ 2 ∧
  ∀ (H' : Hp) (q : Addr) (us : List Addr), Same H H' → H q = none → H' q = some (.lst (us.map V.ref)) → Cons H' us (axc ax ++ cs) → Q (.ref q) H'
/-- kinds_with -/
def spKindsW (CS CK CR : Addr) : Sp := fun vs H Q _ => ∃ (s l c : Addr) (ts : List Addr) (ax : List Oc.Axiom) (cs : List C), vs = [.ref s, .ref c] ∧ SesAt CS H s l ax ∧ HouseOk ax ∧ H c = some (.lst (ts.map V.ref)) ∧ Cons H ts cs ∧ cs.length ≤ 2 ∧
  (∀ c ∈ cs, okc c ∧ (enc c).length ≤ 40) ∧ (Oc.atomsFor ax cs).length ≤ 6 ∧ ∀ (H' : Hp) (k : Addr), Same H H' → KN CK CR H' k (Oc.atomsFor ax cs) → Q (.ref k) H'
/-- check_atoms -/
def spCheck (CS CT : Addr) : Sp := fun vs H Q E => ∃ (s l c : Addr) (ts : List Addr) (ax : List Oc.Axiom) (cs : List C), vs = [.ref s, .ref c] ∧ SesAt CS H s l ax ∧ HouseOk ax ∧ H c = some (.lst (ts.map V.ref)) ∧ Cons H ts cs ∧ cs.length ≤ 2 ∧
  (∀ c ∈ cs, okc c ∧ (enc c).length ≤ 40) ∧ ((Oc.atomsFor ax cs).length ≤ 6 → ∀ H', Same H H' → Q .non H') ∧ (6 < (Oc.atomsFor ax cs).length → ∀ H', Same H H' → E (.ref CT) none H')
/-- read -/
def spReadS (K : PySem.W.Frag) (CS CN CT : Addr) : Sp := fun vs H Q E => ∃ (s l a : Addr) (ax : List Oc.Axiom) (ns : List Nat) (n : Nat), vs = [.ref s, .ref a, zn n] ∧ SesAt CS H s l ax ∧ HouseOk ax ∧ SqL K H a (vn ns) ∧ ns.length ≤ 30 ∧ n ≤ 2 ∧
  (∀ cs : List C, cs.length = n → (∀ c ∈ cs, okc c ∧ (enc c).length ≤ 30) → ns = encs cs → (Oc.atomsFor ax cs).length ≤ 6 → ∀ (H' : Hp) (p : Addr) (ts : List Addr), Same H H' → H' p = some (.lst (ts.map V.ref)) → Cons H' ts cs → Q (.ref p) H') ∧
  (∀ cs : List C, cs.length = n → (∀ c ∈ cs, okc c) → ns = encs cs → 6 < (Oc.atomsFor ax cs).length → ∀ H', Same H H' → E (.ref CT) none H') ∧
  ((∀ cs : List C, cs.length = n → (∀ c ∈ cs, okc c) → ns = encs cs → False) → ∀ H' : Hp, Same H H' → E (.ref CN) none H')
theorem encs_mem {cs : List C} {c : C} (h : c ∈ cs) : (enc c).length ≤ (encs cs).length := by
  induction cs with
  | nil => cases h
  | cons d cs ih =>
    rw [encs_cons, List.length_append]
    rcases List.mem_cons.mp h with rfl | h
    · omega
    · have := ih h; omega
section
variable {P : Program} {w : World} {K : PySem.W.Frag} {mg : Str → Option Value} {base : Heap} {CK CR pP pC CN CS CA CT CM : Addr}
theorem scWith : FnScope ["self", "concepts", "together", "axiom"] ["self", "concepts"] (defScope sWith) := ⟨rfl, rfl, rfl, by decide +kernel, rfl, by decide +kernel, by decide +kernel⟩
theorem ok_with {f : Addr} {fd : FuncData} (F : Fun K "with_axioms" "Session.with_axioms" sWith f fd) (TS : TxS K mg CS CA CT CM) : FnOk P w K mg base CX0 1 f fd ["self", "concepts"] (spWith CS) := by
  refine F.ok scWith (fun vs H Q E h => ?_) (fun cdv A outer s H vs Q E hr h => ?_)
  · obtain ⟨s, l, c, ts, ax, cs, rfl, _⟩ := h
    rfl
  · obtain ⟨s, l, c, ts, ax, cs, rfl, ⟨dx, ps, hs, hl, hX⟩, h6, hc, hC, hcl, q⟩ := h
    refine ⟨_, pss_cons (ps_set (i := 2) scWith.nd rfl (Or.inl rfl) (pe_lst pa_nil))
      (pss_cons (ps_for PassesOwn.never rfl (pi_list (pe_fld (pv 0) rfl)) (pg_name (i := 3) scWith.nd rfl (Or.inl rfl))
        (pss_one (ps_expr (pe_bm PySem.F.plainAttrs_list PySem.F.slot_list_extend PySem.F.type_list_extend mt_extendT (pv 2) (pa_cons (pv 3) pa_nil)))))
      (pss_cons (ps_expr (pe_bm PySem.F.plainAttrs_list PySem.F.slot_list_extend PySem.F.type_list_extend mt_extend (pv 2) (pa_cons (pv 1) pa_nil)))
      (pss_one (ps_ret (pv 2))))), ?_⟩
    have hlp : ps.length = ax.length := Paired.length hX
    have hlt : ts.length = cs.length := Paired.length hC
    refine ⟨Nat.zero_le _, fun g hg => ?_⟩
    have s0 : Same H (upd H g (.lst [])) := same_upd hg
    refine ⟨_, rfl, s, CS, dx, _, _, rfl, s0 _ _ hs, TS.cl, TS.nAx, sF_ax, l, rfl, ⟨_, SqL.of (s0 _ _ hl)⟩, ?_⟩
    refine for_list (K := K) (a := l) (xs := ps.map V.ref) (fun i σ H1 => Same H H1 ∧ ∃ (v : Option V) (us : List Addr), σ = [some (.ref s), some (.ref c), some (.ref g), v] ∧ H1 g = some (.lst (us.map V.ref)) ∧ Cons H1 us (axc (ax.take i)))
      ⟨s0, none, [], rfl, upd_same, .nil⟩ (fun i σ H1 _ ⟨s1, _⟩ => SqL.of (s1 _ _ hl)) ?_ ?_
    · rintro i y σ H1 hi ⟨s1, v, us, rfl, hG, hU⟩
      obtain ⟨p, hpi, rfl⟩ := refs_get hi
      obtain ⟨x, hxi, c1, c2, hp, h1, h2⟩ := paired_get hX hpi
      have hil : i < ax.length := (List.getElem?_eq_some_iff.mp hxi).1
      have hul : us.length ≤ 2 * i := by
        have e1 := Paired.length hU
        rw [axc_len, List.length_take] at e1
        omega
      refine ⟨_, rfl, .inl ⟨rfl, _, SqL.of hG⟩, _, rfl, g, p, _, _, rfl, rfl, hG, s1 _ _ hp, ?_, ?_⟩
      · exact Nat.le_of_lt (small1000 (by rw [List.length_map]; simp; omega))
      have kp : ∀ b o, b ≠ g → H1 b = some o → (upd H1 g (.lst (us.map V.ref ++ [V.ref c1, V.ref c2]))) b = some o := fun b o h1 h2 => by rw [upd_ne h1]; exact h2
      refine ⟨fun b o h => kp _ _ (ne_of_none h hg) (s1 _ _ h), _, us ++ [c1, c2], rfl, by rw [upd_same, List.map_append]; rfl, ?_⟩
      rw [take_more hxi, axc, List.flatMap_append]
      refine cons_append (L2.Paired.mapP hU fun t c' h => kp _ _ (ne_of h hG (by intro z; cases z)) h) (.cons ?_ (.cons ?_ .nil))
      · exact kp _ _ (ne_of (s1 _ _ h1) hG (by intro z; cases z)) (s1 _ _ h1)
      · exact kp _ _ (ne_of (s1 _ _ h2) hG (by intro z; cases z)) (s1 _ _ h2)
    · rintro σ H1 ⟨s1, v, us, rfl, hG, hU⟩
      rw [List.length_map, hlp, List.take_length] at hU
      have hul : us.length = 2 * ax.length := by rw [Paired.length hU, axc_len]
      refine ⟨_, rfl, .inl ⟨rfl, _, SqL.of hG⟩, _, rfl, g, c, _, _, rfl, rfl, hG, s1 _ _ hc, ?_, ?_⟩
      · exact Nat.le_of_lt (small1000 (by rw [List.length_map, List.length_map]; omega))
      have kp : ∀ b o, b ≠ g → H1 b = some o → (upd H1 g (.lst (us.map V.ref ++ ts.map V.ref))) b = some o := fun b o h1 h2 => by rw [upd_ne h1]; exact h2
      refine ⟨_, rfl, q _ _ (us ++ ts) (fun b o h => kp _ _ (ne_of_none h hg) (s1 _ _ h)) hg (by rw [upd_same, List.map_append]) ?_⟩
      exact cons_append (L2.Paired.mapP hU fun t c' h => kp _ _ (ne_of h hG (by intro z; cases z)) h) (L2.Paired.mapP hC fun t c' h => kp _ _ (ne_of (s1 _ _ h) hG (by intro z; cases z)) (s1 _ _ h))
theorem scKindsW : FnScope ["self", "concepts"] ["self", "concepts"] (defScope sKindsW) := ⟨rfl, rfl, rfl, by decide +kernel, rfl, by decide +kernel, by decide +kernel⟩
theorem ok_kindsw {f fW fI : Addr} {fd fdW fdI : FuncData} (F : Fun K "kinds_with" "Session.kinds_with" sKindsW f fd) (TS : TxS K mg CS CA CT CM) (TK : TxK K mg CK CR)
    (GW : FnOk P w K mg base CX0 1 fW fdW ["self", "concepts"] (spWith CS)) (bW : Binds K fdW ["self", "concepts"] []) (mW : Meth K CS "with_axioms" fW)
    (MK : Mk K CK fI) (GI : FnOk P w K mg base CX0 6 fI fdI ["self", "concepts"] (spKInit K CK CR)) (bI : Binds K fdI ["self", "concepts"] []) :
    FnOk P w K mg base CX0 8 f fd ["self", "concepts"] (spKindsW CS CK CR) := by
  refine F.ok scKindsW (fun vs H Q E h => ?_) (fun cdv A outer s H vs Q E hr h => ?_)
  · obtain ⟨s, l, c, ts, ax, cs, rfl, _⟩ := h
    rfl
  · obtain ⟨s, l, c, ts, ax, cs, rfl, hS, hO, hc, hC, hcl, hco, hm, q⟩ := h
    refine ⟨_, pss_one (ps_ret (pe_make MK GI hr rfl TK.gCK bI .nil pass0 (pa_cons (pe_meth (pv 0) TS.cl mW GW (hr.mono (by decide)) bW .nil pass0 (pa_cons (pv 1) pa_nil)) pa_nil))), ?_⟩
    have hS' := hS
    obtain ⟨dx, ps, hs, hl, hX⟩ := hS
    refine ⟨_, rfl, s, dx, _, rfl, hs, sF_no (by decide +kernel), _, rfl, s, l, c, ts, ax, cs, rfl, hS', hO.six, hc, hC, hcl, fun H1 p us s1 hp0 hp hU => ?_⟩
    intro x dx1 nx ndx nex
    have sx : Same H1 (upd (upd H1 dx1 (.own x)) x (.ins CK dx1 [])) := fun b o h => by rw [upd_ne (ne_of_none h nx), upd_ne (ne_of_none h ndx)]; exact h
    refine ⟨x, p, dx1, us, axc ax ++ cs, rfl, upd_same, SqL.of (sx _ _ hp), hU.same sx, fun c hcm => ?_, encs_short hO hcl (fun c hcm => (hco c hcm).2), atOk_of hO hco hm, fun H2 hKN kp => ⟨rfl, ?_⟩⟩
    · rcases List.mem_append.mp hcm with h | h
      · exact (axc_ok hO c h).1
      · exact (hco c h).1
    · exact q _ _ (fun b o h => kp _ _ (sx _ _ (s1 _ _ h)) (ne_of_none (s1 _ _ h) nx)) hKN
theorem scCheck : FnScope ["self", "concepts"] ["self", "concepts"] (defScope sCheck) := ⟨rfl, rfl, rfl, by decide +kernel, rfl, by decide +kernel, by decide +kernel⟩
theorem ok_check {f fW fA : Addr} {fd fdW fdA : FuncData} (F : Fun K "check_atoms" "Session.check_atoms" sCheck f fd) (T : TxA K mg pP pC CN) (TS : TxS K mg CS CA CT CM)
    (GW : FnOk P w K mg base CX0 1 fW fdW ["self", "concepts"] (spWith CS)) (bW : Binds K fdW ["self", "concepts"] []) (mW : Meth K CS "with_axioms" fW)
    (GA : FnOk P w K mg base CX0 4 fA fdA ["concepts"] (spAtoms K)) (bA : Binds K fdA ["concepts"] []) (mA : mg "atoms_of" = some (.ref fA)) (kA : PySem.W.keepIn K (.ref fA) = true) :
    FnOk P w K mg base (L2.CX P w) 5 f fd ["self", "concepts"] (spCheck CS CT) := by
  refine F.okX scCheck (fun vs H Q E h => ?_) (fun cdv A outer s H vs Q E hr h => ?_)
  · obtain ⟨s, l, c, ts, ax, cs, rfl, _⟩ := h
    rfl
  · obtain ⟨s, l, c, ts, ax, cs, rfl, hS, hO, hc, hC, hcl, hco, kS, kN⟩ := h
    obtain ⟨u6, g6, r6⟩ := TS.iAtoms
    refine ⟨_, pss_one (ps_if (pt_cmpR op_gt (pe_callB call_len_seq (by rfl) T.len PySem.boot_len (pa_cons
          (pe_call GA hr (by rfl) mA kA bA .nil pass0 (pa_cons (pe_meth (pv 0) TS.cl mW GW (hr.mono (by decide)) bW .nil pass0 (pa_cons (pv 1) pa_nil)) pa_nil)) pa_nil)) (pe_glob (by rfl) g6 r6) (nomark _))
        (pss_one (ps_raise rfl (takes_of rfl rfl rfl rfl) (pmk_own PySem.F.excBase_ValueError TS.eT.x TS.eT.g TS.eT.k (raises_own TS.eT.b TS.eT.t) (by exact rfl)))) pss_nil), ?_⟩
    have hS' := hS
    obtain ⟨dx, ps, hs, hl, hX⟩ := hS
    refine ⟨_, rfl, s, dx, _, rfl, hs, sF_no (by decide +kernel), _, rfl, s, l, c, ts, ax, cs, rfl, hS', hO.six, hc, hC, hcl, fun H1 p us s1 hp0 hp hU => ?_⟩
    refine ⟨p, us, axc ax ++ cs, rfl, SqL.of hp, hU, fun c hcm => ?_, encs_short hO hcl (fun c hcm => (hco c hcm).2), fun H2 q vs s2 hq0 hq hV => ?_⟩
    · rcases List.mem_append.mp hcm with h | h
      · exact (axc_ok hO c h).1
      · exact (hco c h).1
    have hvl : vs.length = (Oc.atomsFor ax cs).length := Paired.length hV
    refine ⟨q, _, rfl, .inl (SqL.of hq), _, _, rfl, rfl, _, rfl, ?_⟩
    rw [List.length_map, hvl]
    by_cases h : 6 < (Oc.atomsFor ax cs).length
    · exact ifT (decide_eq_true (by omega)) (kN h _ (s1.trans s2))
    · exact ifF (decide_eq_false (by omega)) (kS (by omega) _ (s1.trans s2))
theorem scReadS : FnScope ["self", "numbers", "wanted", "concepts"] ["self", "numbers", "wanted"] (defScope sReadS) := ⟨rfl, rfl, rfl, by decide +kernel, rfl, by decide +kernel, by decide +kernel⟩
theorem ok_reads {f fR fC : Addr} {fd fdR fdC : FuncData} (F : Fun K "read" "Session.read" sReadS f fd) (TS : TxS K mg CS CA CT CM)
    (GR : FnOk P w K mg base (L2.CX P w) 3 fR fdR ["numbers", "wanted"] (spRead K CN)) (bR : Binds K fdR ["numbers", "wanted"] []) (mR : mg "read_concepts" = some (.ref fR)) (kR : PySem.W.keepIn K (.ref fR) = true)
    (GC : FnOk P w K mg base (L2.CX P w) 5 fC fdC ["self", "concepts"] (spCheck CS CT)) (bC : Binds K fdC ["self", "concepts"] []) (mC : Meth K CS "check_atoms" fC) :
    FnOk P w K mg base (L2.CX P w) 6 f fd ["self", "numbers", "wanted"] (spReadS K CS CN CT) := by
  refine F.okX scReadS (fun vs H Q E h => ?_) (fun cdv A outer s H vs Q E hr h => ?_)
  · obtain ⟨s, l, a, ax, ns, n, rfl, _⟩ := h
    rfl
  · obtain ⟨s, l, a, ax, ns, n, rfl, hS, hO, hN, hnl, hn2, kS, kT, kN⟩ := h
    refine ⟨_, pss_cons (ps_set (i := 3) scReadS.nd rfl (Or.inl rfl) (pe_call GR (hr.mono (by decide)) (by rfl) mR kR bR .nil (passes_call (takes_of rfl rfl rfl rfl) fun _ _ _ _ h => h) (pa_cons (pv 1) (pa_cons (pv 2) pa_nil))))
      (pss_cons (ps_expr (pe_meth (pv 0) TS.cl mC GC hr bC .nil (passes_call (takes_of rfl rfl rfl rfl) fun _ _ _ _ h => h) (pa_cons (pv 3) pa_nil)))
      (pss_one (ps_ret (pv 3)))), ?_⟩
    have hS' := hS
    obtain ⟨dx, ps, hs, hl, hX⟩ := hS
    refine ⟨_, rfl, _, rfl, a, ns, n, rfl, hN, by omega, fun cs hcl hok he H1 p ts s1 hp0 hp hC => ?_, fun hno H1 s1 => kN hno _ s1⟩
    have hsh : ∀ c ∈ cs, (enc c).length ≤ 30 := by
      intro c hc
      have := encs_mem hc
      rw [← he] at this
      omega
    refine ⟨_, rfl, s, dx, _, rfl, s1 _ _ hs, sF_no (by decide +kernel), _, rfl, s, l, p, ts, ax, cs, rfl, hS'.same s1, hO, hp, hC, by omega, fun c hc => ⟨hok c hc, by have := hsh c hc; omega⟩, fun h6 H2 s2 => ?_, fun h6 H2 s2 => ?_⟩
    · exact ⟨_, rfl, kS cs hcl (fun c hc => ⟨hok c hc, hsh c hc⟩) he h6 _ _ ts (s1.trans s2) (s2 _ _ hp) (hC.same s2)⟩
    · exact kT cs hcl hok he h6 _ (s1.trans s2)
end
end Cx
/-! ## CxS2 -/
namespace Cx
open Oc (C)
open PySem PySem.Spec PyProof.Rows L2
theorem KN.at {CK CR : Addr} {H : Hp} {a : Addr} {at_ : List C} (h : KN CK CR H a at_) : ∃ (dx aA aR aN : Addr) (ts : List Addr), H a = some (.ins CK dx (kF aA at_.length [("restrictions", .ref aR), ("needs", .ref aN)])) ∧ H aA = some (.lst (ts.map V.ref)) ∧ Cons H ts at_ := by
  obtain ⟨dx, aA, aR, aN, ts, rs, ns, h1, h3, h4, h5, h6, h7, h8⟩ := h
  exact ⟨dx, aA, aR, aN, ts, h1, h3, h4⟩
theorem kF_no2 {aA : Addr} {n : Nat} {r q : V} {m : Str} (h1 : (m == ("atoms" : Str)) = false := by decide +kernel) (h2 : (m == ("total" : Str)) = false := by decide +kernel) (h3 : (m == ("every" : Str)) = false := by decide +kernel)
    (h4 : (m == ("restrictions" : Str)) = false := by decide +kernel) (h5 : (m == ("needs" : Str)) = false := by decide +kernel) : (kF aA n [("restrictions", r), ("needs", q)]).lookup m = none := kF_no (.inr (.inr ⟨_, _, rfl⟩)) h1 h2 h3 h4 h5
/-! ### What an operation promises -/
def OpQ (CS : Addr) (H : Hp) (s l : Addr) (r : Oc01.House × Oc01.Ans) (Q : VK) : Prop :=
  ∀ (H' : Hp) (p l' : Addr), SesAt CS H' s l' r.1.axioms → (l' = l ∨ H l' = none) → (∀ b o, H b = some o → b ≠ s → b ≠ l → H' b = some o) → H p = none → H' p = some (.lst ((Oc01Neutral.out r.2).map V.int)) → Q (.ref p) H'
def OpE (CN CA CM CT : Addr) (H : Hp) (ax : List Oc.Axiom) (r : Oc01.House × Oc01.Ans) (E : XK) : Prop :=
  ∀ (c : Addr) (H' : Hp), Same H H' → r.1.axioms = ax → ((c = CN ∧ r.2 = Oc01.ok (-1)) ∨ (c = CA ∧ r.2 = Oc01.ok (-2)) ∨ (c = CM ∧ r.2 = Oc01.ok (-6)) ∨ (c = CT ∧ r.2 = Oc01.ok (-7))) → E (.ref c) none H'
/-- an operation with a row -/
def spRow (K : PySem.W.Frag) (CS CN CA CM CT : Addr) (call : List Nat → Oc01.Call) : Sp := fun vs H Q E => ∃ (s l a : Addr) (ax : List Oc.Axiom) (ns : List Nat), vs = [.ref s, .ref a] ∧ SesAt CS H s l ax ∧ HouseOk ax ∧ SqL K H a (vn ns) ∧ ns.length ≤ 30 ∧
  OpQ CS H s l (Oc01.step ⟨ax⟩ (call ns)) Q ∧ OpE CN CA CM CT H ax (Oc01.step ⟨ax⟩ (call ns)) E
/-- an operation without arguments -/
def spNone (CS : Addr) (call : Oc01.Call) : Sp := fun vs H Q _ => ∃ (s l : Addr) (ax : List Oc.Axiom), vs = [.ref s] ∧ SesAt CS H s l ax ∧ HouseOk ax ∧ OpQ CS H s l (Oc01.step ⟨ax⟩ call) Q
/-- drop -/
def spDrop (CS CN CA CM CT : Addr) : Sp := fun vs H Q E => ∃ (s l : Addr) (ax : List Oc.Axiom) (i : Nat), vs = [.ref s, zn i] ∧ SesAt CS H s l ax ∧ HouseOk ax ∧
  OpQ CS H s l (Oc01.step ⟨ax⟩ (.drop i)) Q ∧ OpE CN CA CM CT H ax (Oc01.step ⟨ax⟩ (.drop i)) E
/-- an answer where nothing has changed -/
theorem OpQ.same {CS : Addr} {H : Hp} {s l : Addr} {r : Oc01.House × Oc01.Ans} {Q : VK} {ax : List Oc.Axiom} (h : OpQ CS H s l r Q) (hS : SesAt CS H s l ax) (ha : r.1.axioms = ax) {H' : Hp} {p : Addr} (e : Same H H') (hp : H p = none) (hp' : H' p = some (.lst ((Oc01Neutral.out r.2).map V.int))) : Q (.ref p) H' :=
  h H' p l (by rw [ha]; exact hS.same e) (.inl rfl) (fun b o hb _ _ => e _ _ hb) hp hp'
theorem much_not {ax : List Oc.Axiom} {cs : List C} (h : (Oc.atomsFor ax cs).length ≤ 6) : Oc01.much ⟨ax⟩ cs = false := decide_eq_false (by show ¬ 6 < _; exact Nat.not_lt.mpr h)
theorem much_yes {ax : List Oc.Axiom} {cs : List C} (h : 6 < (Oc.atomsFor ax cs).length) : Oc01.much ⟨ax⟩ cs = true := decide_eq_true h
theorem concept_none {ns : List Nat} (h : ∀ cs : List C, cs.length = 1 → (∀ c ∈ cs, okc c) → ns = encs cs → False) : Oc.concept ns = none := by
  cases e : Oc.concept ns with
  | none => rfl
  | some c =>
    obtain ⟨e1, e2⟩ := concept_iff.mp e
    exact (h [c] rfl (by simp; exact e2) (by rw [e1]; simp [encs])).elim
theorem two_none {ns : List Nat} (h : ∀ cs : List C, cs.length = 2 → (∀ c ∈ cs, okc c) → ns = encs cs → False) : Oc.two ns = none := by
  cases e : Oc.two ns with
  | none => rfl
  | some x =>
    obtain ⟨c, d⟩ := x
    obtain ⟨e1, e2, e3⟩ := two_iff.mp e
    exact (h [c, d] rfl (by simp; exact ⟨e2, e3⟩) (by rw [e1]; simp [encs])).elim
theorem concept_some {ns : List Nat} {cs : List C} (hl : cs.length = 1) (ho : ∀ c ∈ cs, okc c) (he : ns = encs cs) : ∃ c, cs = [c] ∧ Oc.concept ns = some c := by
  match cs, hl with
  | [c], _ => exact ⟨c, rfl, concept_iff.mpr ⟨by rw [he]; simp [encs], ho c (by simp)⟩⟩
theorem two_some {ns : List Nat} {cs : List C} (hl : cs.length = 2) (ho : ∀ c ∈ cs, okc c) (he : ns = encs cs) : ∃ c d, cs = [c, d] ∧ Oc.two ns = some (c, d) := by
  match cs, hl with
  | [c, d], _ => exact ⟨c, d, rfl, two_iff.mpr ⟨by rw [he]; simp [encs], ho c (by simp), ho d (by simp)⟩⟩
section
variable {ax : List Oc.Axiom} {ns : List Nat} {c d : C}
theorem can_none (h : Oc.concept ns = none) : Oc01.step ⟨ax⟩ (.can ns) = (⟨ax⟩, Oc01.ok (-1)) := by
  show (match Oc.concept ns with | none => _ | some c => _) = _
  rw [h]
theorem can_much (h : Oc.concept ns = some c) (m : 6 < (Oc.atomsFor ax [c]).length) : Oc01.step ⟨ax⟩ (.can ns) = (⟨ax⟩, Oc01.ok (-7)) := by
  show (match Oc.concept ns with | none => _ | some c => _) = _
  rw [h]
  exact if_pos (much_yes m)
theorem can_some (h : Oc.concept ns = some c) (m : (Oc.atomsFor ax [c]).length ≤ 6) : Oc01.step ⟨ax⟩ (.can ns) = (⟨ax⟩, Oc01.ok ((Oc01.flag (Oc.can ax c) : Nat) : Int)) := by
  show (match Oc.concept ns with | none => _ | some c => _) = _
  rw [h]
  exact if_neg (by rw [much_not m]; decide)
theorem under_none (h : Oc.two ns = none) : Oc01.step ⟨ax⟩ (.under ns) = (⟨ax⟩, Oc01.ok (-1)) := by
  show (match Oc.two ns with | none => _ | some c => _) = _
  rw [h]
theorem under_much (h : Oc.two ns = some (c, d)) (m : 6 < (Oc.atomsFor ax [c, d]).length) : Oc01.step ⟨ax⟩ (.under ns) = (⟨ax⟩, Oc01.ok (-7)) := by
  show (match Oc.two ns with | none => _ | some c => _) = _
  rw [h]
  exact if_pos (much_yes m)
theorem under_some (h : Oc.two ns = some (c, d)) (m : (Oc.atomsFor ax [c, d]).length ≤ 6) : Oc01.step ⟨ax⟩ (.under ns) = (⟨ax⟩, Oc01.ok ((Oc01.flag (Oc.under ax c d) : Nat) : Int)) := by
  show (match Oc.two ns with | none => _ | some c => _) = _
  rw [h]
  exact if_neg (by rw [much_not m]; decide)
theorem model_none (h : Oc.concept ns = none) : Oc01.step ⟨ax⟩ (.model ns) = (⟨ax⟩, Oc01.ok (-1)) := by
  show (match Oc.concept ns with | none => _ | some c => _) = _
  rw [h]
theorem model_much (h : Oc.concept ns = some c) (m : 6 < (Oc.atomsFor ax [c]).length) : Oc01.step ⟨ax⟩ (.model ns) = (⟨ax⟩, Oc01.ok (-7)) := by
  show (match Oc.concept ns with | none => _ | some c => _) = _
  rw [h]
  exact if_pos (much_yes m)
theorem model_some (h : Oc.concept ns = some c) (m : (Oc.atomsFor ax [c]).length ≤ 6) : Oc01.step ⟨ax⟩ (.model ns) = (⟨ax⟩, Oc01.told (Oc01.model ax c)) := by
  show (match Oc.concept ns with | none => _ | some c => _) = _
  rw [h]
  exact if_neg (by rw [much_not m]; decide)
theorem against_none (h : Oc.two ns = none) : Oc01.step ⟨ax⟩ (.against ns) = (⟨ax⟩, Oc01.ok (-1)) := by
  show (match Oc.two ns with | none => _ | some c => _) = _
  rw [h]
theorem against_much (h : Oc.two ns = some (c, d)) (m : 6 < (Oc.atomsFor ax [c, d]).length) : Oc01.step ⟨ax⟩ (.against ns) = (⟨ax⟩, Oc01.ok (-7)) := by
  show (match Oc.two ns with | none => _ | some c => _) = _
  rw [h]
  exact if_pos (much_yes m)
theorem against_some (h : Oc.two ns = some (c, d)) (m : (Oc.atomsFor ax [c, d]).length ≤ 6) : Oc01.step ⟨ax⟩ (.against ns) = (⟨ax⟩, Oc01.told (Oc01.model ax (.and c (.not d)))) := by
  show (match Oc.two ns with | none => _ | some c => _) = _
  rw [h]
  exact if_neg (by rw [much_not m]; decide)
theorem line_none (h : Oc.two ns = none) : Oc01.step ⟨ax⟩ (.line ns) = (⟨ax⟩, Oc01.ok (-1)) := by
  show (match Oc.two ns with | none => _ | some c => _) = _
  rw [h]
theorem line_much (h : Oc.two ns = some (c, d)) (m : ax.length = 6 ∨ 6 < (Oc.atomsFor ax [c, d]).length) : Oc01.step ⟨ax⟩ (.line ns) = (⟨ax⟩, Oc01.ok (-7)) := by
  show (match Oc.two ns with | none => _ | some a => if ax.length = Oc01.AXIOMS ∨ Oc01.much ⟨ax⟩ [a.1, a.2] = true then _ else _) = _
  rw [h]
  exact if_pos (m.imp id much_yes)
theorem line_some (h : Oc.two ns = some (c, d)) (h6 : ax.length < 6) (m : (Oc.atomsFor ax [c, d]).length ≤ 6) : Oc01.step ⟨ax⟩ (.line ns) = (⟨ax ++ [(c, d)]⟩, Oc01.ok ((ax.length : Nat) : Int)) := by
  show (match Oc.two ns with | none => _ | some a => if ax.length = Oc01.AXIOMS ∨ Oc01.much ⟨ax⟩ [a.1, a.2] = true then _ else _) = _
  rw [h]
  refine if_neg ?_
  rintro (h1 | h1)
  · have : ax.length = 6 := h1
    omega
  · rw [show Oc01.much ⟨ax⟩ [(c, d).1, (c, d).2] = false from much_not m] at h1
    cases h1
theorem drop_none {i : Nat} (h : ax.length ≤ i) : Oc01.step ⟨ax⟩ (.drop i) = (⟨ax⟩, Oc01.ok (-2)) := if_pos h
theorem drop_some {i : Nat} (h : i < ax.length) : Oc01.step ⟨ax⟩ (.drop i) = (⟨wo ax i⟩, Oc01.ok ((ax.length - 1 : Nat) : Int)) := if_neg (Nat.not_le.mpr h)
end
theorem out_ok (z : Int) : (Oc01Neutral.out (Oc01.ok z)).map V.int = [V.int z] := rfl
/-! ### Promises of the functions beside the class -/
/-- is_subsumed -/
def spIsSub (K : PySem.W.Frag) (CK CR : Addr) : Sp := fun vs H Q _ => ∃ (k l c c1 c2 : Addr) (ps : List Addr) (at_ : List C) (ax : List Oc.Axiom) (x : Oc.Axiom), vs = [.ref k, .ref l, .ref c] ∧ AtOk at_ ∧ KN CK CR H k at_ ∧ SqL K H l (ps.map V.ref) ∧ AxsAt H ps ax ∧ (∀ y ∈ ax, AxOk at_ y) ∧
  (SqL K H c [.ref c1, .ref c2] ∨ SqT K H c [.ref c1, .ref c2]) ∧ H c1 = some (.tup (vn (enc x.1))) ∧ H c2 = some (.tup (vn (enc x.2))) ∧ AxOk at_ x ∧
  ∀ H', Same H H' → Q (.bl (!(Oc.types at_ ax).any fun t => Oc.holds at_ t x.1 && !Oc.holds at_ t x.2)) H'
/-- may_have, may_lack -/
def mayH (at_ : List C) (a t : Nat) : Bool := if at_.contains (.name a) = true then Oc.holds at_ t (.name a) else true
def mayL (at_ : List C) (a t : Nat) : Bool := if at_.contains (.name a) = true then !Oc.holds at_ t (.name a) else true
def spMay (CK CR : Addr) (g : List C → Nat → Nat → Bool) : Sp := fun vs H Q _ => ∃ (k : Addr) (at_ : List C) (a : Nat), vs = [.ref k, zn a] ∧ AtOk at_ ∧ KN CK CR H k at_ ∧ a < 4 ∧ ∀ H', Same H H' → Q (zn (gof (g at_ a) (kn at_))) H'
theorem rix2 {K : PySem.W.Frag} {H : Hp} {c : Addr} {xs : List V} {j : Nat} {v : V} {z : Int} {Q : VK} (h : SqL K H c xs ∨ SqT K H c xs) (hz : z = (j : Int)) (hj : xs[j]? = some v) (q : Q v H) : rIx K (.ref c) (.int z) H Q := by
  subst hz
  rcases h with h | h
  · exact .inl ⟨c, _, _, _, rfl, rfl, h, atI_nat hj, q⟩
  · exact .inr (.inl ⟨c, _, _, _, rfl, rfl, h, atI_nat hj, q⟩)
theorem sq_same {K : PySem.W.Frag} {H H' : Hp} {c : Addr} {xs : List V} (e : Same H H') (h : SqL K H c xs ∨ SqT K H c xs) : SqL K H' c xs ∨ SqT K H' c xs := h.imp (e.seq ·) (sameT e ·)
section
variable {P : Program} {w : World} {K : PySem.W.Frag} {mg : Str → Option Value} {base : Heap} {CK CR pP pC CN CS CA CT CM : Addr}
theorem scIsSub : FnScope ["kinds", "axioms", "concepts", "found"] ["kinds", "axioms", "concepts"] (defScope sIsSub) := ⟨rfl, rfl, rfl, by decide +kernel, rfl, by decide +kernel, by decide +kernel⟩
theorem ok_issub {f fP fH : Addr} {fd fdP fdH : FuncData} (F : Fun K "is_subsumed" "is_subsumed" sIsSub f fd) (TK : TxK K mg CK CR)
    (GP : FnOk P w K mg base CX0 6 fP fdP ["self", "axioms"] (spPossible K CK CR)) (bP : Binds K fdP ["self", "axioms"] []) (mP : Meth K CK "possible" fP)
    (GH : FnOk P w K mg base CX0 4 fH fdH ["self", "concept"] (spHaving CK)) (bH : Binds K fdH ["self", "concept"] []) (mH : Meth K CK "having" fH) :
    FnOk P w K mg base CX0 7 f fd ["kinds", "axioms", "concepts"] (spIsSub K CK CR) := by
  refine F.ok scIsSub (fun vs H Q E h => ?_) (fun cdv A outer s H vs Q E hr h => ?_)
  · obtain ⟨k, l, c, c1, c2, ps, at_, ax, x, rfl, _⟩ := h
    rfl
  · obtain ⟨k, l, c, c1, c2, ps, at_, ax, x, rfl, AO, hK, hL, hX, hO, hc, h1, h2, O, q⟩ := h
    refine ⟨_, pss_cons (ps_set (i := 3) scIsSub.nd rfl (Or.inl rfl) (pe_op op_and (pe_meth (pv 0) TK.clK mP GP hr bP .nil pass0 (pa_cons (pv 1) pa_nil))
            (pe_meth (pv 0) TK.clK mH GH (hr.mono (by decide)) bH .nil pass0 (pa_cons (pe_ix ix_seq (pv 2) pe_int (fun _ _ => rfl)) pa_nil))))
      (pss_cons (ps_aug (i := 3) scIsSub.nd rfl (Or.inl rfl) (pe_op op_xor (pe_fld (pv 0) rfl) (pe_meth (pv 0) TK.clK mH GH (hr.mono (by decide)) bH .nil pass0 (pa_cons (pe_ix ix_seq (pv 2) pe_int (fun _ _ => rfl)) pa_nil))) ip_and)
      (pss_one (ps_ret (pe_cmpR op_eq (pv 3) pe_int (nomark _))))), ?_⟩
    obtain ⟨dx, aA, aR, aN, ts, ha, _⟩ := hK.at
    refine ⟨_, rfl, k, dx, _, rfl, ha, kF_no2, _, rfl, k, l, ps, at_, ax, rfl, AO, hK, hL, hX, hO, fun H1 s1 => ?_⟩
    refine ⟨_, rfl, k, dx, _, rfl, s1 _ _ ha, kF_no2, _, rfl, rix2 (j := 0) (sq_same s1 hc) rfl rfl ?_⟩
    refine ⟨k, c1, at_, x.1, rfl, AO, (hK.same s1).kr.kb, s1 _ _ h1, O.o1, O.c1, O.l1, fun H2 s2 => ?_⟩
    have s12 := s1.trans s2
    refine ⟨_, _, rfl, rfl, ?_⟩
    refine ⟨_, rfl, _, rfl, k, CK, dx, _, _, rfl, s12 _ _ ha, TK.clK, TK.nEvery, kF_every, _, rfl, k, dx, _, rfl, s12 _ _ ha, kF_no2, _, rfl, rix2 (j := 1) (sq_same s12 hc) rfl rfl ?_⟩
    refine ⟨k, c2, at_, x.2, rfl, AO, (hK.same s12).kr.kb, s12 _ _ h2, O.o2, O.c2, O.l2, fun H3 s3 => ?_⟩
    refine ⟨_, _, rfl, rfl, _, _, rfl, rfl, ?_⟩
    refine ⟨_, rfl, rfl, ?_⟩
    have e1 : Builtin.bitAnd (Builtin.bitAnd ((tg at_ ax : Nat) : Int) ((grp at_ x.1 : Nat) : Int)) (Builtin.bitXor ((2 ^ 2 ^ at_.length - 1 : Nat) : Int) ((grp at_ x.2 : Nat) : Int)) = ((tg at_ ax &&& gof (fun t => Oc.holds at_ t x.1 && !Oc.holds at_ t x.2) (kn at_) : Nat) : Int) := by
      rw [z_and, z_xor, z_and, grp, grp, gof_not, Nat.and_assoc, gof_and]
    have e2 : decide (V.int (Builtin.bitAnd (Builtin.bitAnd ((tg at_ ax : Nat) : Int) ((grp at_ x.1 : Nat) : Int)) (Builtin.bitXor ((2 ^ 2 ^ at_.length - 1 : Nat) : Int) ((grp at_ x.2 : Nat) : Int))) = V.int 0) = !(Oc.types at_ ax).any fun t => Oc.holds at_ t x.1 && !Oc.holds at_ t x.2 := by
      rw [e1]
      refine (eqNum _ 0).trans ?_
      cases hany : (Oc.types at_ ax).any fun t => Oc.holds at_ t x.1 && !Oc.holds at_ t x.2 with
      | false => exact decide_eq_true ((tg_and _).mpr hany)
      | true => exact decide_eq_false fun h => by rw [(tg_and _).mp h] at hany; cases hany
    exact (congrArg (fun b => Q (V.bl b) H3) e2).mpr (q _ (s12.trans s3))
theorem may_term : True := trivial
theorem scMayH : FnScope ["kinds", "name"] ["kinds", "name"] (defScope sMayH) := ⟨rfl, rfl, rfl, by decide +kernel, rfl, by decide +kernel, by decide +kernel⟩
theorem name_in {at_ : List C} (h : at_.contains (.name a) = true) : Cov at_ (.name a) := fun y hy => by
  simp [Oc.C.atoms] at hy
  subst hy
  exact List.contains_iff_mem.mp h
theorem ok_mayh {f fH : Addr} {fd fdH : FuncData} (F : Fun K "may_have" "may_have" sMayH f fd) (T : TxA K mg pP pC CN) (TK : TxK K mg CK CR)
    (GH : FnOk P w K mg base CX0 4 fH fdH ["self", "concept"] (spHaving CK)) (bH : Binds K fdH ["self", "concept"] []) (mH : Meth K CK "having" fH) :
    FnOk P w K mg base CX0 5 f fd ["kinds", "name"] (spMay CK CR mayH) := by
  refine F.ok scMayH (fun vs H Q E h => ?_) (fun cdv A outer s H vs Q E hr h => ?_)
  · obtain ⟨k, at_, a, rfl, _⟩ := h
    rfl
  · obtain ⟨k, at_, a, rfl, AO, hK, ha4, q⟩ := h
    obtain ⟨u2, g2, r2⟩ := T.iName
    refine ⟨_, pss_cons (ps_if (pt_cmpR (op_notInD (room65 hr)) (pe_tup (pa_cons (pe_glob (by rfl) g2 r2) (pa_cons (pv 1) pa_nil))) (pe_fld (pv 0) rfl) (by rfl)) (pss_one (ps_ret (pe_fld (pv 0) rfl))) pss_nil)
      (pss_one (ps_ret (pe_meth (pv 0) TK.clK mH GH hr bH .nil pass0 (pa_cons (pe_tup (pa_cons (pe_glob (by rfl) g2 r2) (pa_cons (pv 1) pa_nil))) pa_nil)))), ?_⟩
    obtain ⟨dx, aA, aR, aN, ts, hk, hA, hC⟩ := hK.at
    refine ⟨_, rfl, (by show 2 ≤ sizeLine; decide), fun p hp => ?_⟩
    have s1 : Same H (upd H p (.tup [.int 2, zn a])) := same_upd hp
    have hp1 : (upd H p (.tup [.int 2, zn a])) p = some (.tup (vn (enc (.name a)))) := upd_same
    generalize upd H p (.tup [.int 2, zn a]) = H1 at *
    refine ⟨_, rfl, k, CK, dx, _, _, rfl, s1 _ _ hk, TK.clK, TK.nAtoms, kF_atoms, dC (.name a), at_.map dC, dp_c hp1, .lst (SqL.of (s1 _ _ hA)) (dp_cs (hC.same s1)), dC_shaped _, dCs_shaped _, _, rfl, ?_⟩
    rw [any_dC]
    by_cases hc : at_.contains (.name a) = true
    · refine ifF (by rw [hc]; rfl) ?_
      refine ⟨_, rfl, k, dx, _, rfl, s1 _ _ hk, kF_no2, _, rfl, (by show 2 ≤ sizeLine; decide), fun p2 hp2 => ?_⟩
      have s2 : Same H1 (upd H1 p2 (.tup [.int 2, zn a])) := same_upd hp2
      have hp3 : (upd H1 p2 (.tup [.int 2, zn a])) p2 = some (.tup (vn (enc (.name a)))) := upd_same
      generalize upd H1 p2 (.tup [.int 2, zn a]) = H2 at *
      have s12 := s1.trans s2
      refine ⟨k, p2, at_, .name a, rfl, AO, (hK.same s12).kr.kb, hp3, ha4, name_in hc, by simp [enc], fun H3 s3 => ?_⟩
      have e : grp at_ (.name a) = gof (mayH at_ a) (kn at_) := gof_congr fun t => by unfold mayH; rw [if_pos hc]
      rw [e]
      exact q _ (s12.trans s3)
    · have hc' : at_.contains (.name a) = false := by simpa using hc
      refine ifT (by rw [hc']; rfl) ?_
      refine ⟨_, rfl, k, CK, dx, _, _, rfl, s1 _ _ hk, TK.clK, TK.nEvery, kF_every, ?_⟩
      have e : 2 ^ 2 ^ at_.length - 1 = gof (mayH at_ a) (kn at_) := by
        rw [← gof_every]
        exact gof_congr fun t => by unfold mayH; rw [if_neg hc]
      rw [e]
      exact q _ s1
theorem scMayL : FnScope ["kinds", "name"] ["kinds", "name"] (defScope sMayL) := ⟨rfl, rfl, rfl, by decide +kernel, rfl, by decide +kernel, by decide +kernel⟩
theorem ok_mayl {f fH : Addr} {fd fdH : FuncData} (F : Fun K "may_lack" "may_lack" sMayL f fd) (T : TxA K mg pP pC CN) (TK : TxK K mg CK CR)
    (GH : FnOk P w K mg base CX0 4 fH fdH ["self", "concept"] (spHaving CK)) (bH : Binds K fdH ["self", "concept"] []) (mH : Meth K CK "having" fH) :
    FnOk P w K mg base CX0 5 f fd ["kinds", "name"] (spMay CK CR mayL) := by
  refine F.ok scMayL (fun vs H Q E h => ?_) (fun cdv A outer s H vs Q E hr h => ?_)
  · obtain ⟨k, at_, a, rfl, _⟩ := h
    rfl
  · obtain ⟨k, at_, a, rfl, AO, hK, ha4, q⟩ := h
    obtain ⟨u2, g2, r2⟩ := T.iName
    refine ⟨_, pss_cons (ps_if (pt_cmpR (op_notInD (room65 hr)) (pe_tup (pa_cons (pe_glob (by rfl) g2 r2) (pa_cons (pv 1) pa_nil))) (pe_fld (pv 0) rfl) (by rfl)) (pss_one (ps_ret (pe_fld (pv 0) rfl))) pss_nil)
      (pss_one (ps_ret (pe_op op_xor (pe_fld (pv 0) rfl) (pe_meth (pv 0) TK.clK mH GH hr bH .nil pass0 (pa_cons (pe_tup (pa_cons (pe_glob (by rfl) g2 r2) (pa_cons (pv 1) pa_nil))) pa_nil))))), ?_⟩
    obtain ⟨dx, aA, aR, aN, ts, hk, hA, hC⟩ := hK.at
    refine ⟨_, rfl, (by show 2 ≤ sizeLine; decide), fun p hp => ?_⟩
    have s1 : Same H (upd H p (.tup [.int 2, zn a])) := same_upd hp
    have hp1 : (upd H p (.tup [.int 2, zn a])) p = some (.tup (vn (enc (.name a)))) := upd_same
    generalize upd H p (.tup [.int 2, zn a]) = H1 at *
    refine ⟨_, rfl, k, CK, dx, _, _, rfl, s1 _ _ hk, TK.clK, TK.nAtoms, kF_atoms, dC (.name a), at_.map dC, dp_c hp1, .lst (SqL.of (s1 _ _ hA)) (dp_cs (hC.same s1)), dC_shaped _, dCs_shaped _, _, rfl, ?_⟩
    rw [any_dC]
    by_cases hc : at_.contains (.name a) = true
    · refine ifF (by rw [hc]; rfl) ?_
      refine ⟨_, rfl, k, CK, dx, _, _, rfl, s1 _ _ hk, TK.clK, TK.nEvery, kF_every, _, rfl, k, dx, _, rfl, s1 _ _ hk, kF_no2, _, rfl, (by show 2 ≤ sizeLine; decide), fun p2 hp2 => ?_⟩
      have s2 : Same H1 (upd H1 p2 (.tup [.int 2, zn a])) := same_upd hp2
      have hp3 : (upd H1 p2 (.tup [.int 2, zn a])) p2 = some (.tup (vn (enc (.name a)))) := upd_same
      generalize upd H1 p2 (.tup [.int 2, zn a]) = H2 at *
      have s12 := s1.trans s2
      refine ⟨k, p2, at_, .name a, rfl, AO, (hK.same s12).kr.kb, hp3, ha4, name_in hc, by simp [enc], fun H3 s3 => ?_⟩
      refine ⟨_, _, rfl, rfl, ?_⟩
      have e : V.int (Builtin.bitXor ((2 ^ 2 ^ at_.length - 1 : Nat) : Int) ((grp at_ (.name a) : Nat) : Int)) = zn (gof (mayL at_ a) (kn at_)) := by
        rw [z_xor, grp, gof_not]
        congr 2
        exact gof_congr fun t => by unfold mayL; rw [if_pos hc]
      exact (congrArg (fun v => Q v H3) e).mpr (q _ (s12.trans s3))
    · have hc' : at_.contains (.name a) = false := by simpa using hc
      refine ifT (by rw [hc']; rfl) ?_
      refine ⟨_, rfl, k, CK, dx, _, _, rfl, s1 _ _ hk, TK.clK, TK.nEvery, kF_every, ?_⟩
      have e : 2 ^ 2 ^ at_.length - 1 = gof (mayL at_ a) (kn at_) := by
        rw [← gof_every]
        exact gof_congr fun t => by unfold mayL; rw [if_neg hc]
      rw [e]
      exact q _ s1
end
end Cx
/-! ## CxS3 -/
namespace Cx
open Oc (C)
open PySem PySem.Spec PyProof.Rows L2
/-- Session.__init__ -/
def spSInit (CS : Addr) : Sp := fun vs H Q _ => ∃ (p dx : Addr), vs = [.ref p] ∧ H p = some (.ins CS dx []) ∧
  ∀ (H' : Hp) (l : Addr), H' p = some (.ins CS dx (sF l)) → H' l = some (.lst []) → H l = none → (∀ b o, H b = some o → b ≠ p → H' b = some o) → Q .non H'
theorem putS (l l' : Addr) : putF "axioms" (.ref l') (sF l) = sF l' := put_here
theorem paired_erase {α β : Type} {F : α → β → Prop} : ∀ {l : List α} {m : List β}, Paired F l m → ∀ i, Paired F (l.eraseIdx i) (m.eraseIdx i)
  | _, _, .nil, i => by simp; exact .nil
  | _, _, .cons f t, 0 => t
  | _, _, .cons f t, i + 1 => .cons f (paired_erase t i)
theorem map_erase {α β : Type} (f : α → β) : ∀ (l : List α) (i : Nat), (l.map f).eraseIdx i = (l.eraseIdx i).map f
  | [], i => by simp
  | a :: l, 0 => rfl
  | a :: l, i + 1 => by
    show f a :: (l.map f).eraseIdx i = f a :: (l.eraseIdx i).map f
    rw [map_erase f l i]
theorem seq_nat {i n : Nat} (h : i < n) : seqIndex? (i : Int) n = some i := by
  unfold seqIndex?
  have h1 : ¬ ((i : Int) < 0) := by omega
  simp only [if_neg h1]
  rw [if_pos (by simp; omega)]
  simp
theorem erase_wo (ax : List Oc.Axiom) (i : Nat) : ax.eraseIdx i = wo ax i := List.eraseIdx_eq_take_drop_succ ax i
theorem ses_at {CS : Addr} {H : Hp} {s l : Addr} {ax : List Oc.Axiom} (h : SesAt CS H s l ax) : ∃ (dx : Addr) (ps : List Addr), H s = some (.ins CS dx (sF l)) ∧ H l = some (.lst (ps.map V.ref)) ∧ AxsAt H ps ax ∧ ps.length = ax.length ∧ l ≠ s := by
  obtain ⟨dx, ps, h1, h2, h3⟩ := h
  exact ⟨dx, ps, h1, h2, h3, Paired.length h3, ne_of h2 h1 (by intro z; cases z)⟩
section
variable {P : Program} {w : World} {K : PySem.W.Frag} {mg : Str → Option Value} {base : Heap} {CK CR pP pC CN CS CA CT CM : Addr}
theorem scSInit : FnScope ["self"] ["self"] (defScope sSInit) := ⟨rfl, rfl, rfl, by decide +kernel, rfl, by decide +kernel, by decide +kernel⟩
theorem ok_sinit {f : Addr} {fd : FuncData} (F : Fun K "__init__" "Session.__init__" sSInit f fd) (TS : TxS K mg CS CA CT CM) : FnOk P w K mg base CX0 1 f fd ["self"] (spSInit CS) := by
  refine F.ok scSInit (fun vs H Q E h => ?_) (fun cdv A outer s H vs Q E hr h => ?_)
  · obtain ⟨p, dx, rfl, _⟩ := h
    rfl
  · obtain ⟨p, dx, rfl, hp, q⟩ := h
    refine ⟨_, pss_one (ps_fld (pv 0) (pe_lst pa_nil) rfl), ?_⟩
    refine ⟨Nat.zero_le _, fun l hl => ?_⟩
    have npl : p ≠ l := ne_of_none hp hl
    refine ⟨_, rfl, p, CS, dx, _, rfl, (by rw [upd_ne npl]; exact hp), TS.cl, TS.nAx, (by decide), ?_⟩
    exact q _ l upd_same (by rw [upd_ne npl.symm, upd_same]) hl fun b o h hb => by rw [upd_ne hb, upd_ne (ne_of_none h hl)]; exact h
theorem scBegins : FnScope ["self"] ["self"] (defScope sBegins) := ⟨rfl, rfl, rfl, by decide +kernel, rfl, by decide +kernel, by decide +kernel⟩
theorem ok_begins {f : Addr} {fd : FuncData} (F : Fun K "begins" "Session.begins" sBegins f fd) (TS : TxS K mg CS CA CT CM) : FnOk P w K mg base CX0 1 f fd ["self"] (spNone CS .begins) := by
  refine F.ok scBegins (fun vs H Q E h => ?_) (fun cdv A outer s H vs Q E hr h => ?_)
  · obtain ⟨s, l, ax, rfl, _⟩ := h
    rfl
  · obtain ⟨s, l, ax, rfl, hS, hO, q⟩ := h
    obtain ⟨dx, ps, hs, hl, hX, hlp, nls⟩ := ses_at hS
    refine ⟨_, pss_cons (ps_fld (pv 0) (pe_lst pa_nil) rfl) (pss_one (ps_ret (pe_lst (pa_cons pe_int pa_nil)))), ?_⟩
    refine ⟨Nat.zero_le _, fun l' hl' => ?_⟩
    have nsl : s ≠ l' := ne_of_none hs hl'
    refine ⟨_, rfl, s, CS, dx, _, rfl, (by rw [upd_ne nsl]; exact hs), TS.cl, TS.nAx, (by show 1 < 1000; decide), ?_⟩
    have e1 : (upd (upd H l' (.lst [])) s (.ins CS dx (putF "axioms" (.ref l') (sF l)))) s = some (.ins CS dx (sF l')) := by rw [upd_same, putS]
    have e2 : (upd (upd H l' (.lst [])) s (.ins CS dx (putF "axioms" (.ref l') (sF l)))) l' = some (.lst []) := by rw [upd_ne nsl.symm, upd_same]
    have kp : ∀ b o, H b = some o → b ≠ s → (upd (upd H l' (.lst [])) s (.ins CS dx (putF "axioms" (.ref l') (sF l)))) b = some o := fun b o h hb => by rw [upd_ne hb, upd_ne (ne_of_none h hl')]; exact h
    generalize upd (upd H l' (.lst [])) s (.ins CS dx (putF "axioms" (.ref l') (sF l))) = H1 at *
    refine ⟨(by show 1 ≤ sizeLine; decide), fun p hp => ?_⟩
    have s2 : Same H1 (upd H1 p (.lst [.int 0])) := same_upd hp
    refine q _ p l' ⟨dx, [], s2 _ _ e1, s2 _ _ e2, .nil⟩ (.inr hl') (fun b o h hb _ => s2 _ _ (kp b o h hb)) ?_ upd_same
    cases e : H p with
    | none => rfl
    | some o =>
      by_cases hps : p = s
      · subst hps; rw [e1] at hp; cases hp
      · rw [kp _ _ e hps] at hp; cases hp
theorem scLine : FnScope ["self", "numbers", "concepts"] ["self", "numbers"] (defScope sLine) := ⟨rfl, rfl, rfl, by decide +kernel, rfl, by decide +kernel, by decide +kernel⟩
theorem ok_line {f fR fC : Addr} {fd fdR fdC : FuncData} (F : Fun K "line" "Session.line" sLine f fd) (T : TxA K mg pP pC CN) (TS : TxS K mg CS CA CT CM)
    (GR : FnOk P w K mg base (L2.CX P w) 3 fR fdR ["numbers", "wanted"] (spRead K CN)) (bR : Binds K fdR ["numbers", "wanted"] []) (mR : mg "read_concepts" = some (.ref fR)) (kR : PySem.W.keepIn K (.ref fR) = true)
    (GC : FnOk P w K mg base (L2.CX P w) 5 fC fdC ["self", "concepts"] (spCheck CS CT)) (bC : Binds K fdC ["self", "concepts"] []) (mC : Meth K CS "check_atoms" fC) :
    FnOk P w K mg base (L2.CX P w) 6 f fd ["self", "numbers"] (spRow K CS CN CA CM CT .line) := by
  refine F.okX scLine (fun vs H Q E h => ?_) (fun cdv A outer s H vs Q E hr h => ?_)
  · obtain ⟨s, l, a, ax, ns, rfl, _⟩ := h
    rfl
  · obtain ⟨s, l, a, ax, ns, rfl, hS, hO, hN, hnl, q, qE⟩ := h
    obtain ⟨u6, g6, r6⟩ := TS.iAxioms
    refine ⟨_, pss_cons (ps_set (i := 2) scLine.nd rfl (Or.inl rfl) (pe_call GR (hr.mono (by decide)) (by rfl) mR kR bR .nil (passes_call (takes_of rfl rfl rfl rfl) fun _ _ _ _ h => h) (pa_cons (pv 1) (pa_cons pe_int pa_nil))))
      (pss_cons (ps_if (pt_cmpR op_ge (pe_callB call_len_seq (by rfl) T.len PySem.boot_len (pa_cons (pe_fld (pv 0) rfl) pa_nil)) (pe_glob (by rfl) g6 r6) (nomark _))
        (pss_one (ps_raise rfl (takes_of rfl rfl rfl rfl) (pmk_own PySem.F.excBase_ValueError TS.eT.x TS.eT.g TS.eT.k (raises_own TS.eT.b TS.eT.t) (by exact rfl)))) pss_nil)
      (pss_cons (ps_expr (pe_meth (pv 0) TS.cl mC GC hr bC .nil (passes_call (takes_of rfl rfl rfl rfl) fun _ _ _ _ h => h) (pa_cons (pv 2) pa_nil)))
      (pss_cons (ps_expr (pe_bm PySem.F.plainAttrs_list PySem.F.slot_list_append PySem.F.type_list_append mt_append (pe_fld (pv 0) rfl) (pa_cons (pe_tupleOf (by rfl) T.tuple (pv 2)) pa_nil)))
      (pss_one (ps_ret (pe_lst (pa_cons (pe_op op_sub (pe_callB call_len_seq (by rfl) T.len PySem.boot_len (pa_cons (pe_fld (pv 0) rfl) pa_nil)) pe_int) pa_nil))))))), ?_⟩
    obtain ⟨dx, ps, hs, hl, hX, hlp, nls⟩ := ses_at hS
    have h6 := hO.six
    refine ⟨_, rfl, a, ns, 2, rfl, hN, by omega, fun cs hcl hok he H1 p ts s1 hp0 hp hC => ?_, fun hno H1 s1 => ?_⟩
    · obtain ⟨c, d, rfl, h2⟩ := two_some hcl hok he
      have hsh : ∀ x ∈ [c, d], okc x ∧ (enc x).length ≤ 30 := by
        intro x hx
        have := encs_mem hx
        rw [← he] at this
        exact ⟨hok x hx, by omega⟩
      refine ⟨_, rfl, s, CS, dx, _, _, rfl, s1 _ _ hs, TS.cl, TS.nAx, sF_ax, l, _, rfl, .inl (SqL.of (s1 _ _ hl)), _, _, rfl, rfl, _, rfl, ?_⟩
      rw [List.length_map, hlp]
      by_cases hm6 : 6 ≤ ax.length
      · have hr := line_much (ns := ns) h2 (.inl (by omega : ax.length = 6))
        refine ifT (decide_eq_true (by omega)) ?_
        exact qE CT H1 s1 (by rw [hr]) (.inr (.inr (.inr ⟨rfl, by rw [hr]⟩)))
      refine ifF (decide_eq_false (by omega)) ?_
      refine ⟨_, rfl, s, dx, _, rfl, s1 _ _ hs, sF_no (by decide +kernel), _, rfl, s, l, p, ts, ax, [c, d], rfl, hS.same s1, hO, hp, hC, Nat.le_refl 2, fun x hx => ⟨(hsh x hx).1, by have := (hsh x hx).2; omega⟩, fun hm H2 s2 => ?_, fun hm H2 s2 => ?_⟩
      · have hr := line_some (ns := ns) h2 (by omega) hm
        have s12 := s1.trans s2
        have hlt : ts.length = 2 := Paired.length hC
        have hp2 := s2 _ _ hp
        have hC2 := hC.same s2
        refine ⟨_, rfl, s, CS, dx, _, _, rfl, s12 _ _ hs, TS.cl, TS.nAx, sF_ax, .inl ⟨rfl, _, SqL.of (s12 _ _ hl)⟩, _, rfl, .inl ⟨p, _, rfl, SqL.of hp2, fun n hn => ?_⟩⟩
        have s3 : Same H2 (upd H2 n (.tup (ts.map V.ref))) := same_upd hn
        have hnt : (upd H2 n (.tup (ts.map V.ref))) n = some (.tup (ts.map V.ref)) := upd_same
        have hC3 := hC2.same s3
        have s13 := s12.trans s3
        generalize upd H2 n (.tup (ts.map V.ref)) = H3 at *
        refine ⟨l, _, _, rfl, rfl, s13 _ _ hl, (by rw [List.length_map]; exact small1000 (by omega)), ?_⟩
        have k4 : ∀ b o, b ≠ l → H3 b = some o → (upd H3 l (.lst (ps.map V.ref ++ [V.ref n]))) b = some o := fun b o h1 h2 => by rw [upd_ne h1]; exact h2
        have hl4 : (upd H3 l (.lst (ps.map V.ref ++ [V.ref n]))) l = some (.lst ((ps ++ [n]).map V.ref)) := by rw [upd_same, List.map_append]; rfl
        have hs4 := k4 _ _ nls.symm (s13 _ _ hs)
        have hl3 := s13 _ _ hl
        have hX4 : AxsAt (upd H3 l (.lst (ps.map V.ref ++ [V.ref n]))) (ps ++ [n]) (ax ++ [(c, d)]) := by
          refine Paired.snoc (L2.Paired.mapP (hX.same s13) fun b x ⟨c1, c2, q1, q2, q3⟩ => ⟨c1, c2, k4 _ _ (ne_of q1 hl3 (by intro z; cases z)) q1, k4 _ _ (ne_of q2 hl3 (by intro z; cases z)) q2, k4 _ _ (ne_of q3 hl3 (by intro z; cases z)) q3⟩) ?_
          cases hC3 with
          | cons f1 t1 =>
            cases t1 with
            | cons f2 t2 =>
              cases t2
              exact ⟨_, _, k4 _ _ (ne_of hnt hl3 (by intro z; cases z)) hnt, k4 _ _ (ne_of f1 hl3 (by intro z; cases z)) f1, k4 _ _ (ne_of f2 hl3 (by intro z; cases z)) f2⟩
        have kk : ∀ b o, H b = some o → b ≠ l → (upd H3 l (.lst (ps.map V.ref ++ [V.ref n]))) b = some o := fun b o h hb => k4 _ _ hb (s13 _ _ h)
        generalize upd H3 l (.lst (ps.map V.ref ++ [V.ref n])) = H4 at *
        refine ⟨_, rfl, s, CS, dx, _, _, rfl, hs4, TS.cl, TS.nAx, sF_ax, l, _, rfl, .inl (SqL.of hl4), _, _, rfl, rfl, (by show 1 ≤ sizeLine; decide), fun r hr0 => ?_⟩
        have s5 : Same H4 (upd H4 r (.lst [V.int ((((ps ++ [n]).map V.ref).length : Int) - 1)])) := same_upd hr0
        have e5 : (upd H4 r (.lst [V.int ((((ps ++ [n]).map V.ref).length : Int) - 1)])) r = some (.lst ((Oc01Neutral.out (Oc01.step ⟨ax⟩ (.line ns)).2).map V.int)) := by
          rw [upd_same, hr, out_ok, List.length_map, List.length_append, hlp]
          congr 4
          simp
        refine q _ r l (by rw [hr]; exact ⟨dx, ps ++ [n], s5 _ _ hs4, s5 _ _ hl4, hX4.same s5⟩) (.inl rfl) (fun b o h _ hb => s5 _ _ (kk b o h hb)) ?_ e5
        cases e : H r with
        | none => rfl
        | some o =>
          by_cases hrl : r = l
          · subst hrl; rw [hl4] at hr0; cases hr0
          · rw [kk _ _ e hrl] at hr0; cases hr0
      · have hr := line_much (ns := ns) h2 (.inr hm)
        exact qE CT H2 (s1.trans s2) (by rw [hr]) (.inr (.inr (.inr ⟨rfl, by rw [hr]⟩)))
    · have hr := line_none (ax := ax) (two_none hno)
      exact qE CN H1 s1 (by rw [hr]) (.inl ⟨rfl, by rw [hr]⟩)
theorem scDrop : FnScope ["self", "index"] ["self", "index"] (defScope sDrop) := ⟨rfl, rfl, rfl, by decide +kernel, rfl, by decide +kernel, by decide +kernel⟩
theorem ok_drop {f : Addr} {fd : FuncData} (F : Fun K "drop" "Session.drop" sDrop f fd) (T : TxA K mg pP pC CN) (TS : TxS K mg CS CA CT CM) :
    FnOk P w K mg base (L2.CX P w) 1 f fd ["self", "index"] (spDrop CS CN CA CM CT) := by
  refine F.okX scDrop (fun vs H Q E h => ?_) (fun cdv A outer s H vs Q E hr h => ?_)
  · obtain ⟨s, l, ax, i, rfl, _⟩ := h
    rfl
  · obtain ⟨s, l, ax, i, rfl, hS, hO, q, qE⟩ := h
    refine ⟨_, pss_cons (ps_if (pt_cmpR op_ge (pv 1) (pe_callB call_len_seq (by rfl) T.len PySem.boot_len (pa_cons (pe_fld (pv 0) rfl) pa_nil)) (nomark _))
        (pss_one (ps_raise rfl (takes_of rfl rfl rfl rfl) (pmk_own PySem.F.excBase_ValueError TS.eA.x TS.eA.g TS.eA.k (raises_own TS.eA.b TS.eA.t) (by exact rfl)))) pss_nil)
      (pss_cons (ps_expr (pe_bm PySem.F.plainAttrs_list PySem.F.slot_list_pop PySem.F.type_list_pop mt_popAt (pe_fld (pv 0) rfl) (pa_cons (pv 1) pa_nil)))
      (pss_one (ps_ret (pe_lst (pa_cons (pe_callB call_len_seq (by rfl) T.len PySem.boot_len (pa_cons (pe_fld (pv 0) rfl) pa_nil)) pa_nil))))), ?_⟩
    obtain ⟨dx, ps, hs, hl, hX, hlp, nls⟩ := ses_at hS
    have h6 := hO.six
    refine ⟨_, rfl, _, rfl, s, CS, dx, _, _, rfl, hs, TS.cl, TS.nAx, sF_ax, l, _, rfl, .inl (SqL.of hl), _, _, rfl, rfl, _, rfl, ?_⟩
    rw [List.length_map, hlp]
    by_cases hi : ax.length ≤ i
    · have hr := drop_none hi
      refine ifT (decide_eq_true (by omega)) ?_
      exact qE CA H (Same.refl H) (by rw [hr]) (.inr (.inl ⟨rfl, by rw [hr]⟩))
    refine ifF (decide_eq_false (by omega)) ?_
    have hr := drop_some (ax := ax) (i := i) (by omega)
    obtain ⟨p, hp⟩ : ∃ p, ps[i]? = some p := ⟨_, List.getElem?_eq_getElem (by omega)⟩
    refine ⟨_, rfl, s, CS, dx, _, _, rfl, hs, TS.cl, TS.nAx, sF_ax, .inl ⟨rfl, _, SqL.of hl⟩, _, rfl, l, _, _, i, V.ref p, rfl, rfl, hl, (by omega), (by omega), ?_, (by rw [List.getElem?_map, hp]; rfl), ?_⟩
    · rw [List.length_map]
      exact seq_nat (by omega)
    have kp : ∀ b o, b ≠ l → H b = some o → (upd H l (.lst ((ps.map V.ref).eraseIdx i))) b = some o := fun b o h1 h2 => by rw [upd_ne h1]; exact h2
    have hl2 : (upd H l (.lst ((ps.map V.ref).eraseIdx i))) l = some (.lst ((ps.eraseIdx i).map V.ref)) := by rw [upd_same, map_erase]
    have hs2 := kp _ _ nls.symm hs
    have hX2 : AxsAt (upd H l (.lst ((ps.map V.ref).eraseIdx i))) (ps.eraseIdx i) (wo ax i) := by
      rw [← erase_wo]
      exact paired_erase (L2.Paired.mapP hX fun b x ⟨c1, c2, q1, q2, q3⟩ => ⟨c1, c2, kp _ _ (ne_of q1 hl (by intro z; cases z)) q1, kp _ _ (ne_of q2 hl (by intro z; cases z)) q2, kp _ _ (ne_of q3 hl (by intro z; cases z)) q3⟩) i
    generalize upd H l (.lst ((ps.map V.ref).eraseIdx i)) = H1 at *
    refine ⟨_, rfl, s, CS, dx, _, _, rfl, hs2, TS.cl, TS.nAx, sF_ax, l, _, rfl, .inl (SqL.of hl2), (by show 1 ≤ sizeLine; decide), fun r hr0 => ?_⟩
    have s2 : Same H1 (upd H1 r (.lst [V.int (((ps.eraseIdx i).map V.ref).length : Int)])) := same_upd hr0
    have e2 : (upd H1 r (.lst [V.int (((ps.eraseIdx i).map V.ref).length : Int)])) r = some (.lst ((Oc01Neutral.out (Oc01.step ⟨ax⟩ (.drop i)).2).map V.int)) := by
      rw [upd_same, hr, out_ok, List.length_map, List.length_eraseIdx, if_pos (by omega), hlp]
    refine q _ r l (by rw [hr]; exact ⟨dx, ps.eraseIdx i, s2 _ _ hs2, s2 _ _ hl2, hX2.same s2⟩) (.inl rfl) (fun b o h _ hb => s2 _ _ (kp _ _ hb h)) ?_ e2
    cases e : H r with
    | none => rfl
    | some o =>
      by_cases hrl : r = l
      · subst hrl; rw [hl2] at hr0; cases hr0
      · rw [kp _ _ hrl e] at hr0; cases hr0
end
end Cx
/-! ## CxS4 -/
namespace Cx
open Oc (C)
open PySem PySem.Spec PyProof.Rows L2
/-- model_of -/
def spModelOf (CS CM : Addr) : Sp := fun vs H Q E => ∃ (s l t : Addr) (ax : List Oc.Axiom) (c : C), vs = [.ref s, .ref t] ∧ SesAt CS H s l ax ∧ HouseOk ax ∧ H t = some (.tup (vn (enc c))) ∧ okc c ∧ (enc c).length ≤ 40 ∧ (Oc.atomsFor ax [c]).length ≤ 6 ∧
  (∀ (H' : Hp) (p : Addr), Same H H' → H p = none → H' p = some (.lst ((Oc01Neutral.out (Oc01.told (Oc01.model ax c))).map V.int)) → Q (.ref p) H') ∧
  (Oc01.told (Oc01.model ax c) = Oc01.ok (-6) → ∀ H', Same H H' → E (.ref CM) none H')
theorem out_tell (at_ : List C) (ax : List Oc.Axiom) (t : Nat) : (Oc01Neutral.out ⟨((els at_ ax t).length : Nat), (els at_ ax t).flatMap (tellE at_ ax (els at_ ax t))⟩).map V.int = vn (tellM at_ ax t) := by
  unfold Oc01Neutral.out vn tellM
  rw [List.map_cons, List.map_map, List.map_cons]
  rfl
section
variable {P : Program} {w : World} {K : PySem.W.Frag} {mg : Str → Option Value} {base : Heap} {CK CR pP pC CN CS CA CT CM : Addr}
theorem scCan : FnScope ["self", "numbers", "concepts", "kinds", "found"] ["self", "numbers"] (defScope sCan) := ⟨rfl, rfl, rfl, by decide +kernel, rfl, by decide +kernel, by decide +kernel⟩
theorem ok_can {f fR fW fP fH : Addr} {fd fdR fdW fdP fdH : FuncData} (F : Fun K "can" "Session.can" sCan f fd) (T : TxA K mg pP pC CN) (TK : TxK K mg CK CR) (TS : TxS K mg CS CA CT CM)
    (GR : FnOk P w K mg base (L2.CX P w) 6 fR fdR ["self", "numbers", "wanted"] (spReadS K CS CN CT)) (bR : Binds K fdR ["self", "numbers", "wanted"] []) (mR : Meth K CS "read" fR)
    (GW : FnOk P w K mg base CX0 8 fW fdW ["self", "concepts"] (spKindsW CS CK CR)) (bW : Binds K fdW ["self", "concepts"] []) (mW : Meth K CS "kinds_with" fW)
    (GP : FnOk P w K mg base CX0 6 fP fdP ["self", "axioms"] (spPossible K CK CR)) (bP : Binds K fdP ["self", "axioms"] []) (mP : Meth K CK "possible" fP)
    (GH : FnOk P w K mg base CX0 4 fH fdH ["self", "concept"] (spHaving CK)) (bH : Binds K fdH ["self", "concept"] []) (mH : Meth K CK "having" fH) :
    FnOk P w K mg base (L2.CX P w) 9 f fd ["self", "numbers"] (spRow K CS CN CA CM CT .can) := by
  refine F.okX scCan (fun vs H Q E h => ?_) (fun cdv A outer s H vs Q E hr h => ?_)
  · obtain ⟨s, l, a, ax, ns, rfl, _⟩ := h
    rfl
  · obtain ⟨s, l, a, ax, ns, rfl, hS, hO, hN, hnl, q, qE⟩ := h
    refine ⟨_, pss_cons (ps_set (i := 2) scCan.nd rfl (Or.inl rfl) (pe_meth (pv 0) TS.cl mR GR (hr.mono (by decide)) bR .nil (passes_call (takes_of rfl rfl rfl rfl) fun _ _ _ _ h => h) (pa_cons (pv 1) (pa_cons pe_int pa_nil))))
      (pss_cons (ps_set (i := 3) scCan.nd rfl (Or.inl rfl) (pe_meth (pv 0) TS.cl mW GW hr bW .nil pass0 (pa_cons (pv 2) pa_nil)))
      (pss_cons (ps_set (i := 4) scCan.nd rfl (Or.inl rfl) (pe_op op_and (pe_meth (pv 3) TK.clK mP GP (hr.mono (by decide)) bP .nil pass0 (pa_cons (pe_fld (pv 0) rfl) pa_nil))
          (pe_meth (pv 3) TK.clK mH GH (hr.mono (by decide)) bH .nil pass0 (pa_cons (pe_ix ix_list (pv 2) pe_int (fun _ _ => rfl)) pa_nil))))
      (pss_one (ps_ret (pe_lst (pa_cons (pe_ifExp (pt_cmpR op_ne (pv 4) pe_int (nomark _)) pe_int pe_int) pa_nil)))))), ?_⟩
    obtain ⟨dx, ps, hs, hl, hX, hlp, nls⟩ := ses_at hS
    refine ⟨_, rfl, s, dx, _, rfl, hs, sF_no (by decide +kernel), _, rfl, s, l, a, ax, ns, 1, rfl, hS, hO, hN, hnl, by decide, fun cs hcl hok he hm H1 p ts s1 hp hC => ?_, fun cs hcl hok he hm H1 s1 => ?_, fun hno H1 s1 => ?_⟩
    · obtain ⟨c, rfl, hcc⟩ := concept_some hcl (fun c h => (hok c h).1) he
      have hr := can_some (ns := ns) hcc hm
      obtain ⟨ho, hle⟩ := hok c (by simp)
      have hco : ∀ x ∈ [c], okc x ∧ (enc x).length ≤ 40 := by intro x hx; simp at hx; subst hx; exact ⟨ho, by omega⟩
      have AO := atOk_of hO hco hm
      obtain ⟨t, hts⟩ : ∃ t, ts = [t] := by cases hC with | cons f1 t1 => cases t1; exact ⟨_, rfl⟩
      subst hts
      have htc : H1 t = some (.tup (vn (enc c))) := by cases hC with | cons f1 t1 => exact f1
      refine ⟨_, rfl, s, dx, _, rfl, s1 _ _ hs, sF_no (by decide +kernel), _, rfl, s, l, p, [t], ax, [c], rfl, hS.same s1, hO, hp, hC, by simp, hco, hm, fun H2 k s2 hK => ?_⟩
      obtain ⟨dk, aA, aR, aN, tk, hk, _⟩ := hK.at
      have s12 := s1.trans s2
      refine ⟨_, rfl, k, dk, _, rfl, hk, kF_no2, _, rfl, s, CS, dx, _, _, rfl, s12 _ _ hs, TS.cl, TS.nAx, sF_ax, k, l, ps, _, ax, rfl, AO, hK, SqL.of (s12 _ _ hl), hX.same s12, fun x hx => axOk_of hO hx, fun H3 s3 => ?_⟩
      have s23 := s2.trans s3
      refine ⟨_, rfl, k, dk, _, rfl, s3 _ _ hk, kF_no2, _, rfl, p, _, _, _, rfl, rfl, SqL.of (s23 _ _ hp), atI_nat (j := 0) rfl, k, t, _, c, rfl, AO, (hK.same s3).kr.kb, s23 _ _ htc, ho, cov_of (List.mem_append_right _ (by simp)), by omega, fun H4 s4 => ?_⟩
      have s14 := s1.trans (s23.trans s4)
      refine ⟨_, _, rfl, rfl, ?_⟩
      refine ⟨_, rfl, rfl, _, rfl, ?_⟩
      have e1 : decide (V.int (Builtin.bitAnd ((tg (Oc.atomsFor ax [c]) ax : Nat) : Int) ((grp (Oc.atomsFor ax [c]) c : Nat) : Int)) = V.int 0) = !Oc.can ax c := by
        rw [z_and, can_eq]
        refine (eqNum _ 0).trans ?_
        cases hany : (Oc.types (Oc.atomsFor ax [c]) ax).any fun t => Oc.holds (Oc.atomsFor ax [c]) t c with
        | false => exact decide_eq_true ((tg_and _).mpr hany)
        | true => exact decide_eq_false fun h => by rw [(tg_and _).mp h] at hany; cases hany
      cases hcan : Oc.can ax c with
      | true =>
        refine ifT (by rw [e1, hcan]; rfl) ?_
        refine ⟨(by show 1 ≤ sizeLine; decide), fun r hr0 => ?_⟩
        refine q.same hS (by rw [hr]) (s14.trans (same_upd hr0)) (s14.free hr0) ?_
        rw [upd_same, hr, hcan, out_ok]
        rfl
      | false =>
        refine ifF (by rw [e1, hcan]; rfl) ?_
        refine ⟨(by show 1 ≤ sizeLine; decide), fun r hr0 => ?_⟩
        refine q.same hS (by rw [hr]) (s14.trans (same_upd hr0)) (s14.free hr0) ?_
        rw [upd_same, hr, hcan, out_ok]
        rfl
    · obtain ⟨c, rfl, hcc⟩ := concept_some hcl hok he
      have hr := can_much (ns := ns) hcc hm
      exact qE CT H1 s1 (by rw [hr]) (.inr (.inr (.inr ⟨rfl, by rw [hr]⟩)))
    · have hr := can_none (ax := ax) (concept_none hno)
      exact qE CN H1 s1 (by rw [hr]) (.inl ⟨rfl, by rw [hr]⟩)
theorem scUnder : FnScope ["self", "numbers", "concepts", "kinds"] ["self", "numbers"] (defScope sUnder) := ⟨rfl, rfl, rfl, by decide +kernel, rfl, by decide +kernel, by decide +kernel⟩
theorem ok_under {f fR fW fB : Addr} {fd fdR fdW fdB : FuncData} (F : Fun K "under" "Session.under" sUnder f fd) (T : TxA K mg pP pC CN) (TK : TxK K mg CK CR) (TS : TxS K mg CS CA CT CM)
    (GR : FnOk P w K mg base (L2.CX P w) 6 fR fdR ["self", "numbers", "wanted"] (spReadS K CS CN CT)) (bR : Binds K fdR ["self", "numbers", "wanted"] []) (mR : Meth K CS "read" fR)
    (GW : FnOk P w K mg base CX0 8 fW fdW ["self", "concepts"] (spKindsW CS CK CR)) (bW : Binds K fdW ["self", "concepts"] []) (mW : Meth K CS "kinds_with" fW)
    (GB : FnOk P w K mg base CX0 7 fB fdB ["kinds", "axioms", "concepts"] (spIsSub K CK CR)) (bB : Binds K fdB ["kinds", "axioms", "concepts"] []) (mB : mg "is_subsumed" = some (.ref fB)) (kB : PySem.W.keepIn K (.ref fB) = true) :
    FnOk P w K mg base (L2.CX P w) 9 f fd ["self", "numbers"] (spRow K CS CN CA CM CT .under) := by
  refine F.okX scUnder (fun vs H Q E h => ?_) (fun cdv A outer s H vs Q E hr h => ?_)
  · obtain ⟨s, l, a, ax, ns, rfl, _⟩ := h
    rfl
  · obtain ⟨s, l, a, ax, ns, rfl, hS, hO, hN, hnl, q, qE⟩ := h
    refine ⟨_, pss_cons (ps_set (i := 2) scUnder.nd rfl (Or.inl rfl) (pe_meth (pv 0) TS.cl mR GR (hr.mono (by decide)) bR .nil (passes_call (takes_of rfl rfl rfl rfl) fun _ _ _ _ h => h) (pa_cons (pv 1) (pa_cons pe_int pa_nil))))
      (pss_cons (ps_set (i := 3) scUnder.nd rfl (Or.inl rfl) (pe_meth (pv 0) TS.cl mW GW hr bW .nil pass0 (pa_cons (pv 2) pa_nil)))
      (pss_one (ps_ret (pe_lst (pa_cons (pe_ifExp (pt_val (pe_call GB (hr.mono (by decide)) (by rfl) mB kB bB .nil pass0 (pa_cons (pv 3) (pa_cons (pe_fld (pv 0) rfl) (pa_cons (pv 2) pa_nil))))) pe_int pe_int) pa_nil))))), ?_⟩
    obtain ⟨dx, ps, hs, hl, hX, hlp, nls⟩ := ses_at hS
    refine ⟨_, rfl, s, dx, _, rfl, hs, sF_no (by decide +kernel), _, rfl, s, l, a, ax, ns, 2, rfl, hS, hO, hN, hnl, by decide, fun cs hcl hok he hm H1 p ts s1 hp hC => ?_, fun cs hcl hok he hm H1 s1 => ?_, fun hno H1 s1 => ?_⟩
    · obtain ⟨c, d, rfl, hcc⟩ := two_some hcl (fun c h => (hok c h).1) he
      have hr := under_some (ns := ns) hcc hm
      have hco : ∀ x ∈ [c, d], okc x ∧ (enc x).length ≤ 40 := by intro x hx; have := hok x hx; exact ⟨this.1, by omega⟩
      have AO := atOk_of hO hco hm
      have hcm : c ∈ axc ax ++ [c, d] := List.mem_append_right _ (by simp)
      have hdm : d ∈ axc ax ++ [c, d] := List.mem_append_right _ (by simp)
      have O : AxOk (Oc.atomsFor ax [c, d]) (c, d) := ⟨(hco c (by simp)).1, (hco d (by simp)).1, cov_of hcm, cov_of hdm, by have := (hco c (by simp)).2; show (enc c).length ≤ 900; omega, by have := (hco d (by simp)).2; show (enc d).length ≤ 900; omega⟩
      obtain ⟨t, t', hts, htc, htd⟩ : ∃ t t', ts = [t, t'] ∧ H1 t = some (.tup (vn (enc c))) ∧ H1 t' = some (.tup (vn (enc d))) := by
        cases hC with | cons f1 t1 => cases t1 with | cons f2 t2 => cases t2; exact ⟨_, _, rfl, f1, f2⟩
      subst hts
      refine ⟨_, rfl, s, dx, _, rfl, s1 _ _ hs, sF_no (by decide +kernel), _, rfl, s, l, p, [t, t'], ax, [c, d], rfl, hS.same s1, hO, hp, hC, by simp, hco, hm, fun H2 k s2 hK => ?_⟩
      have s12 := s1.trans s2
      refine ⟨_, rfl, _, rfl, s, CS, dx, _, _, rfl, s12 _ _ hs, TS.cl, TS.nAx, sF_ax, _, rfl, k, l, p, t, t', ps, Oc.atomsFor ax [c, d], ax, (c, d), rfl, AO, hK, SqL.of (s12 _ _ hl), hX.same s12, fun x hx => axOk_of hO hx, .inl (SqL.of (s2 _ _ hp)), s2 _ _ htc, s2 _ _ htd, O, fun H3 s3 => ?_⟩
      have s13 := s12.trans s3
      rw [← under_two]
      refine ⟨_, rfl, ?_⟩
      cases hcan : Oc.under ax c d with
      | true =>
        refine ifT rfl ?_
        refine ⟨(by show 1 ≤ sizeLine; decide), fun r hr0 => ?_⟩
        refine q.same hS (by rw [hr]) (s13.trans (same_upd hr0)) (s13.free hr0) ?_
        rw [upd_same, hr, hcan, out_ok]
        rfl
      | false =>
        refine ifF rfl ?_
        refine ⟨(by show 1 ≤ sizeLine; decide), fun r hr0 => ?_⟩
        refine q.same hS (by rw [hr]) (s13.trans (same_upd hr0)) (s13.free hr0) ?_
        rw [upd_same, hr, hcan, out_ok]
        rfl
    · obtain ⟨c, d, rfl, hcc⟩ := two_some hcl hok he
      have hr := under_much (ns := ns) hcc hm
      exact qE CT H1 s1 (by rw [hr]) (.inr (.inr (.inr ⟨rfl, by rw [hr]⟩)))
    · have hr := under_none (ax := ax) (two_none hno)
      exact qE CN H1 s1 (by rw [hr]) (.inl ⟨rfl, by rw [hr]⟩)
theorem scModelOf : FnScope ["self", "concept", "kinds", "possible", "found"] ["self", "concept"] (defScope sModelOf) := ⟨rfl, rfl, rfl, by decide +kernel, rfl, by decide +kernel, by decide +kernel⟩
theorem ok_modelof {f fW fP fH fM fF : Addr} {fd fdW fdP fdH fdM fdF : FuncData} (F : Fun K "model_of" "Session.model_of" sModelOf f fd) (T : TxA K mg pP pC CN) (TK : TxK K mg CK CR) (TS : TxS K mg CS CA CT CM)
    (GW : FnOk P w K mg base CX0 8 fW fdW ["self", "concepts"] (spKindsW CS CK CR)) (bW : Binds K fdW ["self", "concepts"] []) (mW : Meth K CS "kinds_with" fW)
    (GP : FnOk P w K mg base CX0 6 fP fdP ["self", "axioms"] (spPossible K CK CR)) (bP : Binds K fdP ["self", "axioms"] []) (mP : Meth K CK "possible" fP)
    (GH : FnOk P w K mg base CX0 4 fH fdH ["self", "concept"] (spHaving CK)) (bH : Binds K fdH ["self", "concept"] []) (mH : Meth K CK "having" fH)
    (GM : FnOk P w K mg base CX0 4 fM fdM ["kinds", "possible", "first"] (spReported CK CR)) (bM : Binds K fdM ["kinds", "possible", "first"] []) (mM : mg "reported_model" = some (.ref fM)) (kM : PySem.W.keepIn K (.ref fM) = true)
    (GF : FnOk P w K mg base CX0 1 fF fdF ["group"] spFirst) (bF : Binds K fdF ["group"] []) (mF : mg "first_kind" = some (.ref fF)) (kF' : PySem.W.keepIn K (.ref fF) = true) :
    FnOk P w K mg base (L2.CX P w) 9 f fd ["self", "concept"] (spModelOf CS CM) := by
  refine F.okX scModelOf (fun vs H Q E h => ?_) (fun cdv A outer s H vs Q E hr h => ?_)
  · obtain ⟨s, l, t, ax, c, rfl, _⟩ := h
    rfl
  · obtain ⟨s, l, t, ax, c, rfl, hS, hO, ht, ho, hle, hm, q, qE⟩ := h
    refine ⟨_, pss_cons (ps_set (i := 2) scModelOf.nd rfl (Or.inl rfl) (pe_meth (pv 0) TS.cl mW GW hr bW .nil pass0 (pa_cons (pe_lst (pa_cons (pv 1) pa_nil)) pa_nil)))
      (pss_cons (ps_set (i := 3) scModelOf.nd rfl (Or.inl rfl) (pe_meth (pv 2) TK.clK mP GP (hr.mono (by decide)) bP .nil pass0 (pa_cons (pe_fld (pv 0) rfl) pa_nil)))
      (pss_cons (ps_set (i := 4) scModelOf.nd rfl (Or.inl rfl) (pe_op op_and (pv 3) (pe_meth (pv 2) TK.clK mH GH (hr.mono (by decide)) bH .nil pass0 (pa_cons (pv 1) pa_nil))))
      (pss_cons (ps_if (pt_cmpR op_eq (pv 4) pe_int (nomark _)) (pss_one (ps_raise rfl (takes_of rfl rfl rfl rfl) (pmk_own PySem.F.excBase_ValueError TS.eM.x TS.eM.g TS.eM.k (raises_own TS.eM.b TS.eM.t) (by exact rfl)))) pss_nil)
      (pss_one (ps_ret (pe_call GM (hr.mono (by decide)) (by rfl) mM kM bM .nil pass0 (pa_cons (pv 2) (pa_cons (pv 3) (pa_cons (pe_call GF (hr.mono (by decide)) (by rfl) mF kF' bF .nil pass0 (pa_cons (pv 4) pa_nil)) pa_nil))))))))), ?_⟩
    obtain ⟨dx, ps, hs, hl, hX, hlp, nls⟩ := ses_at hS
    have hco : ∀ x ∈ [c], okc x ∧ (enc x).length ≤ 40 := by intro x hx; simp at hx; subst hx; exact ⟨ho, hle⟩
    have AO := atOk_of hO hco hm
    refine ⟨_, rfl, s, dx, _, rfl, hs, sF_no (by decide +kernel), _, rfl, (by show 1 ≤ sizeLine; decide), fun p hp0 => ?_⟩
    have s1 : Same H (upd H p (.lst [.ref t])) := same_upd hp0
    have hp : (upd H p (.lst [.ref t])) p = some (.lst ([t].map V.ref)) := upd_same
    generalize upd H p (.lst [.ref t]) = H1 at *
    refine ⟨s, l, p, [t], ax, [c], rfl, hS.same s1, hO, hp, .cons (s1 _ _ ht) .nil, by simp, hco, hm, fun H2 k s2 hK => ?_⟩
    obtain ⟨dk, aA, aR, aN, tk, hk, _⟩ := hK.at
    have s12 := s1.trans s2
    refine ⟨_, rfl, k, dk, _, rfl, hk, kF_no2, _, rfl, s, CS, dx, _, _, rfl, s12 _ _ hs, TS.cl, TS.nAx, sF_ax, k, l, ps, _, ax, rfl, AO, hK, SqL.of (s12 _ _ hl), hX.same s12, fun x hx => axOk_of hO hx, fun H3 s3 => ?_⟩
    have s13 := s12.trans s3
    refine ⟨_, rfl, _, rfl, k, dk, _, rfl, s3 _ _ hk, kF_no2, _, rfl, k, t, _, c, rfl, AO, (hK.same s3).kr.kb, s13 _ _ ht, ho, cov_of (List.mem_append_right _ (by simp)), by omega, fun H4 s4 => ?_⟩
    have s14 := s13.trans s4
    refine ⟨_, _, rfl, rfl, ?_⟩
    refine ⟨_, rfl, rfl, _, rfl, ?_⟩
    have e0 : decide (V.int (Builtin.bitAnd ((tg (Oc.atomsFor ax [c]) ax : Nat) : Int) ((grp (Oc.atomsFor ax [c]) c : Nat) : Int)) = V.int 0) = decide (tg (Oc.atomsFor ax [c]) ax &&& grp (Oc.atomsFor ax [c]) c = 0) := by
      rw [z_and]
      exact eqNum _ 0
    rcases tg_find (at_ := Oc.atomsFor ax [c]) (ax := ax) (fun t => Oc.holds (Oc.atomsFor ax [c]) t c) with ⟨hz, hf⟩ | ⟨hz, u, hf, hF, hu⟩
    · refine ifT (e0.trans (decide_eq_true hz)) ?_
      exact qE (told_none rfl hf) _ s14
    · refine ifF (e0.trans (decide_eq_false hz)) ?_
      refine ⟨_, rfl, _, rfl, _, rfl, tg (Oc.atomsFor ax [c]) ax &&& grp (Oc.atomsFor ax [c]) c, u, ?_, hF, ?_⟩
      · show [V.int (Builtin.bitAnd ((tg (Oc.atomsFor ax [c]) ax : Nat) : Int) ((grp (Oc.atomsFor ax [c]) c : Nat) : Int))] = _
        rw [z_and]
      refine ⟨k, Oc.atomsFor ax [c], ax, u, rfl, AO, hK.same (s3.trans s4), hu, fun H5 r s5 hr0 hr5 => ?_⟩
      refine q _ _ (s14.trans s5) (s14.free hr0) ?_
      rw [told_some rfl hf, out_tell]
      exact hr5
theorem scModel : FnScope ["self", "numbers", "concepts"] ["self", "numbers"] (defScope sModel) := ⟨rfl, rfl, rfl, by decide +kernel, rfl, by decide +kernel, by decide +kernel⟩
theorem ok_model {f fR fM : Addr} {fd fdR fdM : FuncData} (F : Fun K "model" "Session.model" sModel f fd) (T : TxA K mg pP pC CN) (TS : TxS K mg CS CA CT CM)
    (GR : FnOk P w K mg base (L2.CX P w) 6 fR fdR ["self", "numbers", "wanted"] (spReadS K CS CN CT)) (bR : Binds K fdR ["self", "numbers", "wanted"] []) (mR : Meth K CS "read" fR)
    (GM : FnOk P w K mg base (L2.CX P w) 9 fM fdM ["self", "concept"] (spModelOf CS CM)) (bM : Binds K fdM ["self", "concept"] []) (mM : Meth K CS "model_of" fM) :
    FnOk P w K mg base (L2.CX P w) 10 f fd ["self", "numbers"] (spRow K CS CN CA CM CT .model) := by
  refine F.okX scModel (fun vs H Q E h => ?_) (fun cdv A outer s H vs Q E hr h => ?_)
  · obtain ⟨s, l, a, ax, ns, rfl, _⟩ := h
    rfl
  · obtain ⟨s, l, a, ax, ns, rfl, hS, hO, hN, hnl, q, qE⟩ := h
    refine ⟨_, pss_cons (ps_set (i := 2) scModel.nd rfl (Or.inl rfl) (pe_meth (pv 0) TS.cl mR GR (hr.mono (by decide)) bR .nil (passes_call (takes_of rfl rfl rfl rfl) fun _ _ _ _ h => h) (pa_cons (pv 1) (pa_cons pe_int pa_nil))))
      (pss_one (ps_ret (pe_meth (pv 0) TS.cl mM GM hr bM .nil (passes_call (takes_of rfl rfl rfl rfl) fun _ _ _ _ h => h) (pa_cons (pe_ix ix_list (pv 2) pe_int (fun _ _ => rfl)) pa_nil)))), ?_⟩
    obtain ⟨dx, ps, hs, hl, hX, hlp, nls⟩ := ses_at hS
    refine ⟨_, rfl, s, dx, _, rfl, hs, sF_no (by decide +kernel), _, rfl, s, l, a, ax, ns, 1, rfl, hS, hO, hN, hnl, by decide, fun cs hcl hok he hm H1 p ts s1 hp hC => ?_, fun cs hcl hok he hm H1 s1 => ?_, fun hno H1 s1 => ?_⟩
    · obtain ⟨c, rfl, hcc⟩ := concept_some hcl (fun c h => (hok c h).1) he
      have hr := model_some (ns := ns) hcc hm
      obtain ⟨ho, hle⟩ := hok c (by simp)
      obtain ⟨t, hts⟩ : ∃ t, ts = [t] := by cases hC with | cons f1 t1 => cases t1; exact ⟨_, rfl⟩
      subst hts
      have htc : H1 t = some (.tup (vn (enc c))) := by cases hC with | cons f1 t1 => exact f1
      refine ⟨_, rfl, s, dx, _, rfl, s1 _ _ hs, sF_no (by decide +kernel), _, rfl, p, _, _, _, rfl, rfl, SqL.of hp, atI_nat (j := 0) rfl, s, l, t, ax, c, rfl, hS.same s1, hO, htc, ho, by omega, hm, fun H2 r s2 hr0 hr2 => ?_, fun hn H2 s2 => ?_⟩
      · exact q.same hS (by rw [hr]) (s1.trans s2) (s1.free hr0) (by rw [hr]; exact hr2)
      · exact qE CM H2 (s1.trans s2) (by rw [hr]) (.inr (.inr (.inl ⟨rfl, by rw [hr]; exact hn⟩)))
    · obtain ⟨c, rfl, hcc⟩ := concept_some hcl hok he
      have hr := model_much (ns := ns) hcc hm
      exact qE CT H1 s1 (by rw [hr]) (.inr (.inr (.inr ⟨rfl, by rw [hr]⟩)))
    · have hr := model_none (ax := ax) (concept_none hno)
      exact qE CN H1 s1 (by rw [hr]) (.inl ⟨rfl, by rw [hr]⟩)
end
end Cx
/-! ## CxS5 -/
namespace Cx
open Oc (C)
open PySem PySem.Spec PyProof.Rows L2
/-- what names tells of two names -/
def nm (ax : List Oc.Axiom) (a b : Nat) : Nat := Oc01.flag ((Oc.types (Oc.atomsFor ax []) ax).all fun u => !(if (Oc.atomsFor ax []).contains (.name a) = true then Oc.holds (Oc.atomsFor ax []) u (.name a) else true) ||
  (if a = b then true else if (Oc.atomsFor ax []).contains (.name b) = true then Oc.holds (Oc.atomsFor ax []) u (.name b) else false))
def nmRow (ax : List Oc.Axiom) (a : Nat) : List Nat := (List.range 4).map fun b => nm ax a b
theorem names_step (ax : List Oc.Axiom) : Oc01.step ⟨ax⟩ .names = (⟨ax⟩, ⟨(Oc01.flag (!(Oc.types (Oc.atomsFor ax []) ax).isEmpty) : Nat), (List.range 4).flatMap fun a => nmRow ax a⟩) := rfl
theorem nm_eq {ax : List Oc.Axiom} {a b : Nat} : (a = b → nm ax a b = 1) ∧ (a ≠ b → nm ax a b = if tg (Oc.atomsFor ax []) ax &&& gof (fun t => mayH (Oc.atomsFor ax []) a t && mayL (Oc.atomsFor ax []) b t) (kn (Oc.atomsFor ax [])) = 0 then 1 else 0) := by
  constructor
  · intro e
    subst e
    unfold nm
    rw [List.all_eq_true.mpr fun u _ => by simp]
    rfl
  · intro e
    unfold nm
    have e1 : ((Oc.types (Oc.atomsFor ax []) ax).all fun u => !(if (Oc.atomsFor ax []).contains (.name a) = true then Oc.holds (Oc.atomsFor ax []) u (.name a) else true) ||
        (if a = b then true else if (Oc.atomsFor ax []).contains (.name b) = true then Oc.holds (Oc.atomsFor ax []) u (.name b) else false)) =
        !((Oc.types (Oc.atomsFor ax []) ax).any fun t => mayH (Oc.atomsFor ax []) a t && mayL (Oc.atomsFor ax []) b t) := by
      rw [List.not_any_eq_all_not]
      congr 1
      funext u
      unfold mayH mayL
      rw [if_neg e]
      cases (Oc.atomsFor ax []).contains (.name a) <;> cases (Oc.atomsFor ax []).contains (.name b) <;> cases Oc.holds (Oc.atomsFor ax []) u (.name a) <;> cases Oc.holds (Oc.atomsFor ax []) u (.name b) <;> rfl
    rw [e1]
    cases hany : (Oc.types (Oc.atomsFor ax []) ax).any fun t => mayH (Oc.atomsFor ax []) a t && mayL (Oc.atomsFor ax []) b t with
    | false => rw [if_pos ((tg_and _).mpr hany)]; rfl
    | true => rw [if_neg fun h => by rw [(tg_and _).mp h] at hany; cases hany]; rfl
theorem tg_zero {at_ : List C} {ax : List Oc.Axiom} : (tg at_ ax = 0) ↔ ((Oc.types at_ ax).isEmpty = true) := by
  unfold tg
  rw [gof_zero, List.isEmpty_iff]
  constructor
  · intro h
    refine List.eq_nil_iff_forall_not_mem.mpr fun t ht => ?_
    have := h t (types_good at_ ax t ht).1
    rw [← Bool.not_eq_true, List.contains_iff_mem] at this
    exact this ht
  · intro h t _
    rw [h]; rfl
/-- what spare finds among the first i -/
def spr (ax : List Oc.Axiom) (i : Nat) : List Nat := (List.range i).filter fun i => match ax[i]? with
  | some a => Oc.under (ax.take i ++ ax.drop (i + 1)) a.1 a.2
  | none => false
theorem spare_step (ax : List Oc.Axiom) : Oc01.step ⟨ax⟩ .spare = (⟨ax⟩, ⟨((spr ax ax.length).length : Nat), spr ax ax.length⟩) := rfl
theorem spr_more {ax : List Oc.Axiom} {i : Nat} {a : Oc.Axiom} (h : ax[i]? = some a) : spr ax (i + 1) = if Oc.under (wo ax i) a.1 a.2 = true then spr ax i ++ [i] else spr ax i := by
  unfold spr
  rw [range_more, List.filter_append]
  have e : (match ax[i]? with | some a => Oc.under (ax.take i ++ ax.drop (i + 1)) a.1 a.2 | none => false) = Oc.under (wo ax i) a.1 a.2 := by rw [h]
  by_cases hc : Oc.under (wo ax i) a.1 a.2 = true
  · rw [if_pos hc, List.filter_cons_of_pos (by rw [e]; exact hc)]; rfl
  · rw [if_neg hc, List.filter_cons_of_neg (by rw [e]; exact hc)]; simp
theorem spr_len (ax : List Oc.Axiom) (i : Nat) : (spr ax i).length ≤ i := by
  have := List.length_filter_le (fun i => match ax[i]? with
    | some a => Oc.under (ax.take i ++ ax.drop (i + 1)) a.1 a.2
    | none => false) (List.range i)
  rw [List.length_range] at this
  exact this
theorem paired_take {α β : Type} {F : α → β → Prop} : ∀ {l : List α} {m : List β}, Paired F l m → ∀ i, Paired F (l.take i) (m.take i)
  | _, _, .nil, i => by simp; exact .nil
  | _, _, .cons f t, 0 => .nil
  | _, _, .cons f t, i + 1 => .cons f (paired_take t i)
theorem paired_drop {α β : Type} {F : α → β → Prop} : ∀ {l : List α} {m : List β}, Paired F l m → ∀ i, Paired F (l.drop i) (m.drop i)
  | _, _, .nil, i => by simp; exact .nil
  | _, _, .cons f t, 0 => .cons f t
  | _, _, .cons f t, i + 1 => paired_drop t i
theorem cut_pre (xs : List V) (i : Nat) (hi : i ≤ xs.length) : cutV xs none (some (i : Int)) = xs.take i := by
  unfold cutV
  rw [HT.sIx_nat, Nat.min_eq_left hi]
  rfl
theorem cut_suf (xs : List V) (i : Nat) (hi : i ≤ xs.length) : cutV xs (some (i : Int)) none = xs.drop i := by
  unfold cutV
  rw [HT.sIx_nat, Nat.min_eq_left hi]
  exact List.take_of_length_le (by show _ ≤ xs.length - i; rw [List.length_drop]; omega)
theorem enc_against (c d : C) : enc (.and c (.not d)) = 3 :: (enc c ++ (5 :: enc d)) := rfl
section
variable {P : Program} {w : World} {K : PySem.W.Frag} {mg : Str → Option Value} {base : Heap} {CK CR pP pC CN CS CA CT CM : Addr}
theorem scAgainst : FnScope ["self", "numbers", "concepts"] ["self", "numbers"] (defScope sAgainst) := ⟨rfl, rfl, rfl, by decide +kernel, rfl, by decide +kernel, by decide +kernel⟩
theorem ok_against {f fR fM : Addr} {fd fdR fdM : FuncData} (F : Fun K "against" "Session.against" sAgainst f fd) (T : TxA K mg pP pC CN) (TK : TxK K mg CK CR) (TS : TxS K mg CS CA CT CM)
    (GR : FnOk P w K mg base (L2.CX P w) 6 fR fdR ["self", "numbers", "wanted"] (spReadS K CS CN CT)) (bR : Binds K fdR ["self", "numbers", "wanted"] []) (mR : Meth K CS "read" fR)
    (GM : FnOk P w K mg base (L2.CX P w) 9 fM fdM ["self", "concept"] (spModelOf CS CM)) (bM : Binds K fdM ["self", "concept"] []) (mM : Meth K CS "model_of" fM) :
    FnOk P w K mg base (L2.CX P w) 10 f fd ["self", "numbers"] (spRow K CS CN CA CM CT .against) := by
  refine F.okX scAgainst (fun vs H Q E h => ?_) (fun cdv A outer s H vs Q E hr h => ?_)
  · obtain ⟨s, l, a, ax, ns, rfl, _⟩ := h
    rfl
  · obtain ⟨s, l, a, ax, ns, rfl, hS, hO, hN, hnl, q, qE⟩ := h
    obtain ⟨u3, g3, r3⟩ := TK.iBoth
    obtain ⟨u5, g5, r5⟩ := TK.iWithout
    refine ⟨_, pss_cons (ps_set (i := 2) scAgainst.nd rfl (Or.inl rfl) (pe_meth (pv 0) TS.cl mR GR (hr.mono (by decide)) bR .nil (passes_call (takes_of rfl rfl rfl rfl) fun _ _ _ _ h => h) (pa_cons (pv 1) (pa_cons pe_int pa_nil))))
      (pss_one (ps_ret (pe_meth (pv 0) TS.cl mM GM hr bM .nil (passes_call (takes_of rfl rfl rfl rfl) fun _ _ _ _ h => h) (pa_cons
        (pe_op op_catA (pe_op op_catA (pe_op op_catA (pe_tup (pa_cons (pe_glob (by rfl) g3 r3) pa_nil)) (pe_ix ix_list (pv 2) pe_int (fun _ _ => rfl))) (pe_tup (pa_cons (pe_glob (by rfl) g5 r5) pa_nil))) (pe_ix ix_list (pv 2) pe_int (fun _ _ => rfl))) pa_nil)))), ?_⟩
    obtain ⟨dx, ps, hs, hl, hX, hlp, nls⟩ := ses_at hS
    refine ⟨_, rfl, s, dx, _, rfl, hs, sF_no (by decide +kernel), _, rfl, s, l, a, ax, ns, 2, rfl, hS, hO, hN, hnl, by decide, fun cs hcl hok he hm H1 p ts s1 hp hC => ?_, fun cs hcl hok he hm H1 s1 => ?_, fun hno H1 s1 => ?_⟩
    · obtain ⟨c, d, rfl, hcc⟩ := two_some hcl (fun c h => (hok c h).1) he
      have hr := against_some (ns := ns) hcc hm
      obtain ⟨hoc, hlc⟩ := hok c (by simp)
      obtain ⟨hod, hld⟩ := hok d (by simp)
      have hlcd : (enc c).length + (enc d).length ≤ 30 := by
        have : (encs [c, d]).length ≤ 30 := by rw [← he]; exact hnl
        simpa [encs] using this
      obtain ⟨t, t', hts, htc, htd⟩ : ∃ t t', ts = [t, t'] ∧ H1 t = some (.tup (vn (enc c))) ∧ H1 t' = some (.tup (vn (enc d))) := by
        cases hC with | cons f1 t1 => cases t1 with | cons f2 t2 => cases t2; exact ⟨_, _, rfl, f1, f2⟩
      subst hts
      have nec : vn (enc c) ≠ [] := fun h => by have := enc_pos c; have e := congrArg List.length h; rw [vn_len] at e; rw [e] at this; exact absurd this (by decide)
      have ned : vn (enc d) ≠ [] := fun h => by have := enc_pos d; have e := congrArg List.length h; rw [vn_len] at e; rw [e] at this; exact absurd this (by decide)
      have small : ∀ n, n ≤ 1000 → n ≤ sizeLine := fun n h => Nat.le_of_lt (small1000 h)
      refine ⟨_, rfl, s, dx, _, rfl, s1 _ _ hs, sF_no (by decide +kernel), ?_⟩
      refine ⟨(by show 1 ≤ sizeLine; decide), fun p1 hp1 => ?_⟩
      have s2 : Same H1 (upd H1 p1 (.tup [.int 3])) := same_upd hp1
      have e2 : (upd H1 p1 (.tup [.int 3])) p1 = some (.tup (vn [3])) := upd_same
      generalize upd H1 p1 (.tup [.int 3]) = H2 at *
      refine ⟨_, rfl, p, _, _, _, rfl, rfl, SqL.of (s2 _ _ hp), atI_nat (j := 0) rfl, ?_⟩
      refine ⟨p1, t, _, _, rfl, rfl, SqT.of e2, SqT.of (s2 _ _ htc), small _ (by rw [vn_len, vn_len]; simp; omega), fun h => (by cases h), fun _ h => absurd h nec, fun _ _ p2 hp2 => ?_⟩
      have s3 : Same H2 (upd H2 p2 (.tup (vn [3] ++ vn (enc c)))) := same_upd hp2
      have e3 : (upd H2 p2 (.tup (vn [3] ++ vn (enc c)))) p2 = some (.tup (vn (3 :: enc c))) := by rw [upd_same, vn_app]; rfl
      generalize upd H2 p2 (.tup (vn [3] ++ vn (enc c))) = H3 at *
      refine ⟨(by show 1 ≤ sizeLine; decide), fun p3 hp3 => ?_⟩
      have s4 : Same H3 (upd H3 p3 (.tup [.int 5])) := same_upd hp3
      have e4 : (upd H3 p3 (.tup [.int 5])) p3 = some (.tup (vn [5])) := upd_same
      generalize upd H3 p3 (.tup [.int 5]) = H4 at *
      refine ⟨p2, p3, _, _, rfl, rfl, SqT.of (s4 _ _ e3), SqT.of e4, small _ (by rw [vn_len, vn_len]; simp; omega), fun h => (by cases h), fun _ h => (by cases h), fun _ _ p4 hp4 => ?_⟩
      have s5 : Same H4 (upd H4 p4 (.tup (vn (3 :: enc c) ++ vn [5]))) := same_upd hp4
      have e5 : (upd H4 p4 (.tup (vn (3 :: enc c) ++ vn [5]))) p4 = some (.tup (vn (3 :: (enc c ++ [5])))) := by rw [upd_same, vn_app]; rfl
      generalize upd H4 p4 (.tup (vn (3 :: enc c) ++ vn [5])) = H5 at *
      have s25 := s2.trans (s3.trans (s4.trans s5))
      refine ⟨_, rfl, p, _, _, _, rfl, rfl, SqL.of (s25 _ _ hp), atI_nat (j := 1) rfl, ?_⟩
      refine ⟨p4, t', _, _, rfl, rfl, SqT.of e5, SqT.of (s25 _ _ htd), small _ (by rw [vn_len, vn_len]; simp; omega), fun h => (by cases h), fun _ h => absurd h ned, fun _ _ p6 hp6 => ?_⟩
      have s6 : Same H5 (upd H5 p6 (.tup (vn (3 :: (enc c ++ [5])) ++ vn (enc d)))) := same_upd hp6
      have e6 : (upd H5 p6 (.tup (vn (3 :: (enc c ++ [5])) ++ vn (enc d)))) p6 = some (.tup (vn (enc (.and c (.not d))))) := by
        rw [upd_same, vn_app, enc_against]
        simp
      generalize upd H5 p6 (.tup (vn (3 :: (enc c ++ [5])) ++ vn (enc d))) = H6 at *
      have s16 := s1.trans (s25.trans s6)
      refine ⟨s, l, p6, ax, .and c (.not d), rfl, hS.same s16, hO, e6, ⟨hoc, hod⟩, ?_, by rw [atoms_two]; exact hm, fun H7 r s7 hr0 hr7 => ?_, fun hn H7 s7 => ?_⟩
      · rw [enc_against, List.length_cons, List.length_append, List.length_cons]; omega
      · exact q.same hS (by rw [hr]) (s16.trans s7) (s16.free hr0) (by rw [hr]; exact hr7)
      · exact qE CM H7 (s16.trans s7) (by rw [hr]) (.inr (.inr (.inl ⟨rfl, by rw [hr]; exact hn⟩)))
    · obtain ⟨c, d, rfl, hcc⟩ := two_some hcl hok he
      have hr := against_much (ns := ns) hcc hm
      exact qE CT H1 s1 (by rw [hr]) (.inr (.inr (.inr ⟨rfl, by rw [hr]⟩)))
    · have hr := against_none (ax := ax) (two_none hno)
      exact qE CN H1 s1 (by rw [hr]) (.inl ⟨rfl, by rw [hr]⟩)
theorem scSpare : FnScope ["self", "kinds", "found", "index", "axiom", "others"] ["self"] (defScope sSpare) := ⟨rfl, rfl, rfl, by decide +kernel, rfl, by decide +kernel, by decide +kernel⟩
theorem ok_spare {f fW fB : Addr} {fd fdW fdB : FuncData} (F : Fun K "spare" "Session.spare" sSpare f fd) (T : TxA K mg pP pC CN) (TK : TxK K mg CK CR) (TS : TxS K mg CS CA CT CM)
    (GW : FnOk P w K mg base CX0 8 fW fdW ["self", "concepts"] (spKindsW CS CK CR)) (bW : Binds K fdW ["self", "concepts"] []) (mW : Meth K CS "kinds_with" fW)
    (GB : FnOk P w K mg base CX0 7 fB fdB ["kinds", "axioms", "concepts"] (spIsSub K CK CR)) (bB : Binds K fdB ["kinds", "axioms", "concepts"] []) (mB : mg "is_subsumed" = some (.ref fB)) (kB : PySem.W.keepIn K (.ref fB) = true) :
    FnOk P w K mg base CX0 9 f fd ["self"] (spNone CS .spare) := by
  refine F.ok scSpare (fun vs H Q E h => ?_) (fun cdv A outer s H vs Q E hr h => ?_)
  · obtain ⟨s, l, ax, rfl, _⟩ := h
    rfl
  · obtain ⟨s, l, ax, rfl, hS, hO, q⟩ := h
    refine ⟨_, pss_cons (ps_set (i := 1) scSpare.nd rfl (Or.inl rfl) (pe_meth (pv 0) TS.cl mW GW hr bW .nil pass0 (pa_cons (pe_lst pa_nil) pa_nil)))
      (pss_cons (ps_set (i := 2) scSpare.nd rfl (Or.inl rfl) (pe_lst pa_nil))
      (pss_cons (ps_for PassesOwn.never rfl (pi_enum (by rfl) TK.enumerate (pa_cons (pe_fld (pv 0) rfl) pa_nil)) (pg_tup rfl (pgs_cons (pg_name (i := 3) scSpare.nd rfl (Or.inl rfl)) (pgs_cons (pg_name (i := 4) scSpare.nd rfl (Or.inl rfl)) pgs_nil)))
        (pss_cons (ps_set (i := 5) scSpare.nd rfl (Or.inl rfl) (pe_op op_cat (pe_slice sl_list (pe_fld (pv 0) rfl) po_none (po_some (pv 3))) (pe_slice sl_list (pe_fld (pv 0) rfl) (po_some (pe_op op_add (pv 3) pe_int)) po_none)))
        (pss_one (ps_if (pt_val (pe_call GB (hr.mono (by decide)) (by rfl) mB kB bB .nil pass0 (pa_cons (pv 1) (pa_cons (pv 5) (pa_cons (pv 4) pa_nil)))))
          (pss_one (ps_expr (pe_bm PySem.F.plainAttrs_list PySem.F.slot_list_append PySem.F.type_list_append mt_append (pv 2) (pa_cons (pv 3) pa_nil)))) pss_nil))))
      (pss_one (ps_ret (pe_op op_cat (pe_lst (pa_cons (pe_callB call_len_seq (by rfl) T.len PySem.boot_len (pa_cons (pv 2) pa_nil)) pa_nil)) (pv 2)))))), ?_⟩
    obtain ⟨dx, ps, hs, hl, hX, hlp, nls⟩ := ses_at hS
    have h6 := hO.six
    have AO := atOk_of hO (cs := []) (by simp) hO.few
    refine ⟨_, rfl, s, dx, _, rfl, hs, sF_no (by decide +kernel), Nat.zero_le _, fun p hp0 => ?_⟩
    have s1 : Same H (upd H p (.lst [])) := same_upd hp0
    have hp : (upd H p (.lst [])) p = some (.lst (([] : List Addr).map V.ref)) := upd_same
    generalize upd H p (.lst []) = H1 at *
    refine ⟨s, l, p, [], ax, [], rfl, hS.same s1, hO, hp, .nil, by simp, by simp, hO.few, fun H2 k s2 hK => ?_⟩
    have s12 := s1.trans s2
    refine ⟨Nat.zero_le _, fun g hg => ?_⟩
    have s3 : Same H2 (upd H2 g (.lst [])) := same_upd hg
    have hHg : H g = none := s12.free hg
    have e3 : (upd H2 g (.lst [])) g = some (.lst (vn [])) := upd_same
    have hK3 := hK.same s3
    have hK0 := hK
    generalize upd H2 g (.lst []) = H3 at *
    have s13 := s12.trans s3
    refine ⟨_, rfl, s, CS, dx, _, _, rfl, s13 _ _ hs, TS.cl, TS.nAx, sF_ax, l, _, rfl, SqL.of (s13 _ _ hl), ?_⟩
    have hK2s : ∀ {H4 : Hp}, Same H2 H4 → KN CK CR H4 k (Oc.atomsFor ax []) := fun e => hK.same e
    refine for_it walk_enum (fun i σ H4 => Same H H4 ∧ Same H2 H4 ∧ ∃ (v3 v4 v5 : Option V), σ = [some (.ref s), some (.ref k), some (.ref g), v3, v4, v5] ∧ H4 g = some (.lst (vn (spr ax i)))) ⟨s13, s3, none, none, none, rfl, e3⟩ (fun i σ H4 _ ⟨h, _⟩ => SqL.of (h _ _ hl)) ?_ ?_
    · rintro i y σ H0 H4 hi ⟨s4, s24, v3, v4, v5, rfl, hG⟩ ⟨Tp, x1, x2, rfl, hTn, rfl, hx1, hx2⟩
      cases hx1
      obtain ⟨b, hbi, rfl⟩ := refs_get hx2
      obtain ⟨x, hxi, c1, c2, hb, h1, h2⟩ := paired_get hX hbi
      have hil : i < ax.length := (List.getElem?_eq_some_iff.mp hxi).1
      have hsl := spr_len ax i
      have sT : Same H0 (upd H0 Tp (.tup [.int (i : Nat), .ref b])) := same_upd hTn
      have hTup : (upd H0 Tp (.tup [.int (i : Nat), .ref b])) Tp = some (.tup [.int (i : Nat), .ref b]) := upd_same
      generalize upd H0 Tp (.tup [.int (i : Nat), .ref b]) = H5 at *
      have s5 := s4.trans sT
      have s25 := s24.trans sT
      have hG5 := sT _ _ hG
      refine ⟨Tp, _, rfl, SqT.of hTup, rfl, _, _, rfl, _, _, rfl, rfl, ?_⟩
      refine ⟨_, rfl, s, CS, dx, _, _, rfl, s5 _ _ hs, TS.cl, TS.nAx, sF_ax, _, rfl, _, rfl, l, _, rfl, SqL.of (s5 _ _ hl), fun p1 hp1 => ?_⟩
      have s6 : Same H5 (upd H5 p1 (.lst (cutV (ps.map V.ref) none (some (i : Int))))) := same_upd hp1
      have e6 : (upd H5 p1 (.lst (cutV (ps.map V.ref) none (some (i : Int))))) p1 = some (.lst ((ps.take i).map V.ref)) := by rw [upd_same, cut_pre _ _ (by rw [List.length_map]; omega), List.map_take]
      generalize upd H5 p1 (.lst (cutV (ps.map V.ref) none (some (i : Int)))) = H6 at *
      have s56 := s5.trans s6
      refine ⟨_, rfl, s, CS, dx, _, _, rfl, s56 _ _ hs, TS.cl, TS.nAx, sF_ax, _, rfl, _, _, rfl, rfl, _, rfl, l, _, rfl, SqL.of (s56 _ _ hl), fun p2 hp2 => ?_⟩
      have s7 : Same H6 (upd H6 p2 (.lst (cutV (ps.map V.ref) (some ((i : Int) + 1)) none))) := same_upd hp2
      have e7 : (upd H6 p2 (.lst (cutV (ps.map V.ref) (some ((i : Int) + 1)) none))) p2 = some (.lst ((ps.drop (i + 1)).map V.ref)) := by
        rw [upd_same, show (i : Int) + 1 = ((i + 1 : Nat) : Int) by omega, cut_suf _ _ (by rw [List.length_map]; omega), List.map_drop]
      generalize upd H6 p2 (.lst (cutV (ps.map V.ref) (some ((i : Int) + 1)) none)) = H7 at *
      refine ⟨p1, p2, _, _, rfl, rfl, s7 _ _ e6, e7, ?_, fun p3 hp3 => ?_⟩
      · exact Nat.le_of_lt (small1000 (by rw [List.length_map, List.length_map, List.length_take, List.length_drop]; omega))
      have s8 : Same H7 (upd H7 p3 (.lst ((ps.take i).map V.ref ++ (ps.drop (i + 1)).map V.ref))) := same_upd hp3
      have e8 : (upd H7 p3 (.lst ((ps.take i).map V.ref ++ (ps.drop (i + 1)).map V.ref))) p3 = some (.lst ((ps.take i ++ ps.drop (i + 1)).map V.ref)) := by rw [upd_same, List.map_append]
      generalize upd H7 p3 (.lst ((ps.take i).map V.ref ++ (ps.drop (i + 1)).map V.ref)) = H8 at *
      have s58 := s6.trans (s7.trans s8)
      have s18 := s5.trans s58
      have s28 := s25.trans s58
      have hG8 := s58 _ _ hG5
      have hX8 : AxsAt H8 (ps.take i ++ ps.drop (i + 1)) (wo ax i) := paired_append (paired_take (hX.same s18) i) (paired_drop (hX.same s18) (i + 1))
      have hxm : x ∈ ax := List.mem_of_getElem? hxi
      refine ⟨_, rfl, _, rfl, _, rfl, k, p3, b, c1, c2, _, Oc.atomsFor ax [], wo ax i, x, rfl, AO, hK2s s28, SqL.of e8, hX8, fun y hy => axOk_of hO (cs := []) ((mem_wo hxi y).mpr (.inl hy)), .inr (SqT.of (s18 _ _ hb)), s18 _ _ h1, s18 _ _ h2, axOk_of hO (cs := []) hxm, fun H9 s9 => ?_⟩
      have s19 := s18.trans s9
      have s29 := s28.trans s9
      have hG9 := s9 _ _ hG8
      rw [← under_spare hxi, spr_more hxi]
      refine ⟨_, rfl, ?_⟩
      by_cases hc : Oc.under (wo ax i) x.1 x.2 = true
      · refine ifT hc ?_
        rw [if_pos hc]
        refine ⟨_, rfl, .inl ⟨rfl, _, SqL.of hG9⟩, _, rfl, g, _, _, rfl, rfl, hG9, (by rw [vn_len]; exact small1000 (by omega)), ?_⟩
        have kp : ∀ b o, b ≠ g → H9 b = some o → (upd H9 g (.lst (vn (spr ax i) ++ [.int (i : Nat)]))) b = some o := fun b o h1 h2 => by rw [upd_ne h1]; exact h2
        refine ⟨fun b o h => kp _ _ (ne_of_none h hHg) (s19 _ _ h), fun b o h => kp _ _ (ne_of_none h hg) (s29 _ _ h), _, _, _, rfl, ?_⟩
        rw [upd_same]
        show some (HO.lst (vn (spr ax i) ++ vn [i])) = _
        rw [vn_app]
      · refine ifF (by simpa using hc) ?_
        rw [if_neg hc]
        exact ⟨s19, s29, _, _, _, rfl, hG9⟩
    · rintro σ H4 ⟨s4, s24, v3, v4, v5, rfl, hG⟩
      rw [List.length_map, hlp] at hG
      have hsl := spr_len ax ax.length
      refine ⟨_, rfl, g, _, rfl, .inl (SqL.of hG), (by show 1 ≤ sizeLine; decide), fun p1 hp1 => ?_⟩
      rw [vn_len] at *
      have s5 : Same H4 (upd H4 p1 (.lst [V.int (((spr ax ax.length).length : Nat) : Int)])) := same_upd hp1
      have e5 : (upd H4 p1 (.lst [V.int (((spr ax ax.length).length : Nat) : Int)])) p1 = some (.lst [V.int (((spr ax ax.length).length : Nat) : Int)]) := upd_same
      generalize upd H4 p1 (.lst [V.int (((spr ax ax.length).length : Nat) : Int)]) = H5 at *
      have s15 := s4.trans s5
      refine ⟨_, rfl, p1, g, _, _, rfl, rfl, e5, s5 _ _ hG, ?_, fun r hr0 => ?_⟩
      · exact Nat.le_of_lt (small1000 (by rw [vn_len]; simp; omega))
      refine q.same hS (by rw [spare_step]) (s15.trans (same_upd hr0)) (s15.free hr0) ?_
      rw [upd_same, spare_step]
      unfold Oc01Neutral.out vn
      rw [List.map_cons, List.map_map]
      rfl
end
end Cx
/-! ## CxS6 -/
namespace Cx
open Oc (C)
open PySem PySem.Spec PyProof.Rows L2
section
variable {P : Program} {w : World} {K : PySem.W.Frag} {mg : Str → Option Value} {base : Heap} {CK CR pP pC CN CS CA CT CM : Addr}
theorem scNames : FnScope ["self", "kinds", "possible", "told", "first", "second", "found"] ["self"] (defScope sNames) := ⟨rfl, rfl, rfl, by decide +kernel, rfl, by decide +kernel, by decide +kernel⟩
theorem ok_names {f fW fP fY fZ : Addr} {fd fdW fdP fdY fdZ : FuncData} (F : Fun K "names" "Session.names" sNames f fd) (T : TxA K mg pP pC CN) (TK : TxK K mg CK CR) (TS : TxS K mg CS CA CT CM)
    (GW : FnOk P w K mg base CX0 8 fW fdW ["self", "concepts"] (spKindsW CS CK CR)) (bW : Binds K fdW ["self", "concepts"] []) (mW : Meth K CS "kinds_with" fW)
    (GP : FnOk P w K mg base CX0 6 fP fdP ["self", "axioms"] (spPossible K CK CR)) (bP : Binds K fdP ["self", "axioms"] []) (mP : Meth K CK "possible" fP)
    (GY : FnOk P w K mg base CX0 5 fY fdY ["kinds", "name"] (spMay CK CR mayH)) (bY : Binds K fdY ["kinds", "name"] []) (mY : mg "may_have" = some (.ref fY)) (kY : PySem.W.keepIn K (.ref fY) = true)
    (GZ : FnOk P w K mg base CX0 5 fZ fdZ ["kinds", "name"] (spMay CK CR mayL)) (bZ : Binds K fdZ ["kinds", "name"] []) (mZ : mg "may_lack" = some (.ref fZ)) (kZ : PySem.W.keepIn K (.ref fZ) = true) :
    FnOk P w K mg base CX0 9 f fd ["self"] (spNone CS .names) := by
  refine F.ok scNames (fun vs H Q E h => ?_) (fun cdv A outer s H vs Q E hr h => ?_)
  · obtain ⟨s, l, ax, rfl, _⟩ := h
    rfl
  · obtain ⟨s, l, ax, rfl, hS, hO, q⟩ := h
    obtain ⟨u2, g2, r2⟩ := T.iName
    refine ⟨_, pss_cons (ps_set (i := 1) scNames.nd rfl (Or.inl rfl) (pe_meth (pv 0) TS.cl mW GW hr bW .nil pass0 (pa_cons (pe_lst pa_nil) pa_nil)))
      (pss_cons (ps_set (i := 2) scNames.nd rfl (Or.inl rfl) (pe_meth (pv 1) TK.clK mP GP (hr.mono (by decide)) bP .nil pass0 (pa_cons (pe_fld (pv 0) rfl) pa_nil)))
      (pss_cons (ps_set (i := 3) scNames.nd rfl (Or.inl rfl) (pe_lst (pa_cons (pe_ifExp (pt_cmpR op_ne (pv 2) pe_int (nomark _)) pe_int pe_int) pa_nil)))
      (pss_cons (ps_for PassesOwn.never rfl (pi_range1 rfl TK.range (pa_cons (pe_ix ix_tup (pe_glob (v := .ref pC) (by rfl) T.gC rfl) (pe_glob (by rfl) g2 r2) (fun _ _ => rfl)) pa_nil)) (pg_name (i := 4) scNames.nd rfl (Or.inl rfl))
        (pss_one (ps_for PassesOwn.never rfl (pi_range1 rfl TK.range (pa_cons (pe_ix ix_tup (pe_glob (v := .ref pC) (by rfl) T.gC rfl) (pe_glob (by rfl) g2 r2) (fun _ _ => rfl)) pa_nil)) (pg_name (i := 5) scNames.nd rfl (Or.inl rfl))
          (pss_cons (ps_set (i := 6) scNames.nd rfl (Or.inl rfl) (pe_op op_and (pe_op op_and (pv 2) (pe_call GY (hr.mono (by decide)) (by rfl) mY kY bY .nil pass0 (pa_cons (pv 1) (pa_cons (pv 4) pa_nil))))
              (pe_call GZ (hr.mono (by decide)) (by rfl) mZ kZ bZ .nil pass0 (pa_cons (pv 1) (pa_cons (pv 5) pa_nil)))))
          (pss_one (ps_expr (pe_bm PySem.F.plainAttrs_list PySem.F.slot_list_append PySem.F.type_list_append mt_append (pv 3) (pa_cons
            (pe_ifExp (PW.pt (pw_or (pt_cmpR op_eq (pv 4) (pv 5) (nomark _)) (pw_or1 (pt_cmpR op_eq (pv 6) pe_int (nomark _))))) pe_int pe_int) pa_nil))))))))
      (pss_one (ps_ret (pv 3)))))), ?_⟩
    obtain ⟨dx, ps, hs, hl, hX, hlp, nls⟩ := ses_at hS
    have h6 := hO.six
    have AO := atOk_of hO (cs := []) (by simp) hO.few
    refine ⟨_, rfl, s, dx, _, rfl, hs, sF_no (by decide +kernel), Nat.zero_le _, fun p hp0 => ?_⟩
    have s1 : Same H (upd H p (.lst [])) := same_upd hp0
    have hp : (upd H p (.lst [])) p = some (.lst (([] : List Addr).map V.ref)) := upd_same
    generalize upd H p (.lst []) = H1 at *
    refine ⟨s, l, p, [], ax, [], rfl, hS.same s1, hO, hp, .nil, by simp, by simp, hO.few, fun H2 k s2 hK => ?_⟩
    have s12 := s1.trans s2
    obtain ⟨dk, aA, aR, aN, tk, hk, _⟩ := hK.at
    refine ⟨_, rfl, k, dk, _, rfl, hk, kF_no2, _, rfl, s, CS, dx, _, _, rfl, s12 _ _ hs, TS.cl, TS.nAx, sF_ax, k, l, ps, _, ax, rfl, AO, hK, SqL.of (s12 _ _ hl), hX.same s12, fun x hx => axOk_of hO (cs := []) hx, fun H3 s3 => ?_⟩
    have s13 := s12.trans s3
    have hK3 := hK.same s3
    -- 1 if possible != 0 else 0
    have tail : ∀ g : Addr, H3 g = none →
        tSeq (tFor (iRng1 (tCons (tOp (rIxT K) (tC (.ref pC)) (tC (.int 2))) tNil)) (gName 4)
          (tFor (iRng1 (tCons (tOp (rIxT K) (tC (.ref pC)) (tC (.int 2))) tNil)) (gName 5)
            (tSeq (tAsg (tOp (rI0 fun i j => .int (Builtin.bitAnd i j)) (tOp (rI0 fun i j => .int (Builtin.bitAnd i j)) (tVar 2) (tCall (spMay CK CR mayH) [] E0 (tCons (tVar 1) (tCons (tVar 4) tNil)))) (tCall (spMay CK CR mayL) [] E0 (tCons (tVar 1) (tCons (tVar 5) tNil)))) (gName 6))
              (tDrop (tBM K "list" rAppend (tVar 3) (tCons (tIf (tOr (tTest (tOp rEq (tVar 4) (tVar 5))) (tTest (tOp rEq (tVar 6) (tC (.int 0))))) (tC (.int 1)) (tC (.int 0))) tNil))))))
          (tRet (tVar 3)) { nx := fun _ H' => Q .non H', rt := Q }
          [some (.ref s), some (.ref k), some (zn (tg (Oc.atomsFor ax []) ax)), some (.ref g), none, none, none] (upd H3 g (.lst [zn (Oc01.flag (!(Oc.types (Oc.atomsFor ax []) ax).isEmpty))])) := by
      intro g hg
      have s4 : Same H3 (upd H3 g (.lst [zn (Oc01.flag (!(Oc.types (Oc.atomsFor ax []) ax).isEmpty))])) := same_upd hg
      have e4 : (upd H3 g (.lst [zn (Oc01.flag (!(Oc.types (Oc.atomsFor ax []) ax).isEmpty))])) g = some (.lst (vn [Oc01.flag (!(Oc.types (Oc.atomsFor ax []) ax).isEmpty)])) := upd_same
      generalize upd H3 g (.lst [zn (Oc01.flag (!(Oc.types (Oc.atomsFor ax []) ax).isEmpty))]) = H4 at *
      have hHg : H g = none := s13.free hg
      have s14 := s13.trans s4
      have rowl : ∀ a, (nmRow ax a).length = 4 := fun a => by unfold nmRow; rw [List.length_map, List.length_range]
      refine ⟨pC, _, _, _, rfl, rfl, T.tC H4, atI_nat (j := 2) (vn_get (n := 4) rfl), ((4 : Nat) : Int), rfl, by decide, by decide, ?_⟩
      refine for_range (n := 4) (fun i σ H5 => Same H H5 ∧ Same H3 H5 ∧ ∃ (v4 v5 v6 : Option V), σ = [some (.ref s), some (.ref k), some (zn (tg (Oc.atomsFor ax []) ax)), some (.ref g), v4, v5, v6] ∧
          H5 g = some (.lst (vn (Oc01.flag (!(Oc.types (Oc.atomsFor ax []) ax).isEmpty) :: (List.range i).flatMap fun a => nmRow ax a)))) ⟨s14, s4, none, none, none, rfl, e4⟩ ?_ ?_
      · rintro i σ H5 hi ⟨s5, s35, v4, v5, v6, rfl, hG⟩
        rw [Int.zero_add]
        have hfl := flat_len (fun a => nmRow ax a) 4 (List.range i) fun a _ => by rw [rowl]; exact Nat.le_refl 4
        rw [List.length_range] at hfl
        refine ⟨pC, _, _, _, rfl, rfl, T.tC H5, atI_nat (j := 2) (vn_get (n := 4) rfl), ((4 : Nat) : Int), rfl, by decide, by decide, ?_⟩
        refine for_range (n := 4) (fun j σ H6 => Same H H6 ∧ Same H3 H6 ∧ ∃ (v5 v6 : Option V), σ = [some (.ref s), some (.ref k), some (zn (tg (Oc.atomsFor ax []) ax)), some (.ref g), some (zn i), v5, v6] ∧
            H6 g = some (.lst (vn (Oc01.flag (!(Oc.types (Oc.atomsFor ax []) ax).isEmpty) :: (((List.range i).flatMap fun a => nmRow ax a) ++ (List.range j).map fun b => nm ax i b))))) ⟨s5, s35, v5, v6, rfl, by rw [hG]; simp⟩ ?_ ?_
        · rintro j σ H6 hj ⟨s6, s36, w5, w6, rfl, hG6⟩
          rw [Int.zero_add]
          generalize hpr : ((List.range i).flatMap fun a => nmRow ax a) = pre at *
          refine ⟨_, rfl, _, rfl, _, rfl, k, _, i, rfl, AO, hK3.same s36, hi, fun H7 s7 => ?_⟩
          refine ⟨_, _, rfl, rfl, _, rfl, _, rfl, k, _, j, rfl, AO, hK3.same (s36.trans s7), hj, fun H8 s8 => ?_⟩
          have s78 := s7.trans s8
          have s18 := s6.trans s78
          have s38 := s36.trans s78
          have hG8 := s78 _ _ hG6
          refine ⟨_, _, rfl, rfl, ?_⟩
          refine ⟨_, rfl, .inl ⟨rfl, _, SqL.of hG8⟩, _, rfl, _, rfl, rfl, _, rfl, ?_⟩
          have e2 : decide (V.int (Builtin.bitAnd (Builtin.bitAnd ((tg (Oc.atomsFor ax []) ax : Nat) : Int) ((gof (mayH (Oc.atomsFor ax []) i) (kn (Oc.atomsFor ax [])) : Nat) : Int)) ((gof (mayL (Oc.atomsFor ax []) j) (kn (Oc.atomsFor ax [])) : Nat) : Int)) = V.int 0) =
              decide (tg (Oc.atomsFor ax []) ax &&& gof (fun t => mayH (Oc.atomsFor ax []) i t && mayL (Oc.atomsFor ax []) j t) (kn (Oc.atomsFor ax [])) = 0) := by
            rw [z_and, z_and, Nat.and_assoc, gof_and]
            exact eqNum _ 0
          have fin : ∀ v : V, v = zn (nm ax i j) → ∃ l xs y, V.ref g = V.ref l ∧ [v] = [y] ∧ H8 l = some (.lst xs) ∧ xs.length < sizeLine ∧
              (Same H (upd H8 l (.lst (xs ++ [y]))) ∧ Same H3 (upd H8 l (.lst (xs ++ [y]))) ∧ ∃ (v5 v6 : Option V), ([some (.ref s), some (.ref k), some (zn (tg (Oc.atomsFor ax []) ax)), some (.ref g), some (zn i), some (zn j), some (V.int (Builtin.bitAnd (Builtin.bitAnd ((tg (Oc.atomsFor ax []) ax : Nat) : Int) ((gof (mayH (Oc.atomsFor ax []) i) (kn (Oc.atomsFor ax [])) : Nat) : Int)) ((gof (mayL (Oc.atomsFor ax []) j) (kn (Oc.atomsFor ax [])) : Nat) : Int)))] : L2.St) = [some (.ref s), some (.ref k), some (zn (tg (Oc.atomsFor ax []) ax)), some (.ref g), some (zn i), v5, v6] ∧
                (upd H8 l (.lst (xs ++ [y]))) g = some (.lst (vn (Oc01.flag (!(Oc.types (Oc.atomsFor ax []) ax).isEmpty) :: (pre ++ (List.range (j + 1)).map fun b => nm ax i b))))) := by
            intro v hv
            subst hv
            refine ⟨g, _, _, rfl, rfl, hG8, (by rw [vn_len, List.length_cons, List.length_append, List.length_map, List.length_range]; exact small1000 (by omega)), ?_⟩
            have kp : ∀ b o, b ≠ g → H8 b = some o → (upd H8 g (.lst (vn (Oc01.flag (!(Oc.types (Oc.atomsFor ax []) ax).isEmpty) :: (pre ++ (List.range j).map fun b => nm ax i b)) ++ [zn (nm ax i j)]))) b = some o := fun b o h1 h2 => by rw [upd_ne h1]; exact h2
            refine ⟨fun b o h => kp _ _ (ne_of_none h hHg) (s18 _ _ h), fun b o h => kp _ _ (ne_of_none h hg) (s38 _ _ h), _, _, rfl, ?_⟩
            rw [upd_same, range_more, List.map_append]
            show some (HO.lst (vn _ ++ vn [nm ax i j])) = _
            rw [vn_app]
            simp
          by_cases hij : i = j
          · refine ifT ((eqNum i j).trans (decide_eq_true hij)) ?_
            exact ifT rfl (fin _ (by rw [nm_eq.1 hij]; rfl))
          · refine ifF ((eqNum i j).trans (decide_eq_false hij)) ?_
            refine ⟨_, rfl, rfl, _, rfl, ?_⟩
            by_cases hz : tg (Oc.atomsFor ax []) ax &&& gof (fun t => mayH (Oc.atomsFor ax []) i t && mayL (Oc.atomsFor ax []) j t) (kn (Oc.atomsFor ax [])) = 0
            · exact ifT (e2.trans (decide_eq_true hz)) (fin _ (by rw [nm_eq.2 hij, if_pos hz]; rfl))
            · exact ifF (e2.trans (decide_eq_false hz)) (fin _ (by rw [nm_eq.2 hij, if_neg hz]; rfl))
        · rintro σ H6 ⟨s6, s36, w5, w6, rfl, hG6⟩
          refine ⟨s6, s36, _, _, _, rfl, ?_⟩
          rw [hG6, range_more i, List.flatMap_append, List.flatMap_cons, List.flatMap_nil, List.append_nil]
          rfl
      · rintro σ H5 ⟨s5, s35, v4, v5, v6, rfl, hG⟩
        refine ⟨_, rfl, ?_⟩
        refine q.same hS (by rw [names_step]) s5 hHg ?_
        rw [hG, names_step]
        unfold Oc01Neutral.out vn
        rw [List.map_cons, List.map_cons, List.map_map]
        rfl
    refine ⟨_, rfl, rfl, _, rfl, ?_⟩
    have e1 : decide (V.int ((tg (Oc.atomsFor ax []) ax : Nat) : Int) = V.int 0) = (Oc.types (Oc.atomsFor ax []) ax).isEmpty := by
      refine (eqNum _ 0).trans ?_
      cases hem : (Oc.types (Oc.atomsFor ax []) ax).isEmpty with
      | true => exact decide_eq_true (tg_zero.mpr hem)
      | false => exact decide_eq_false fun h => by rw [tg_zero.mp h] at hem; cases hem
    cases hem : (Oc.types (Oc.atomsFor ax []) ax).isEmpty with
    | false =>
      refine ifT (by rw [e1, hem]; rfl) ?_
      refine ⟨(by show 1 ≤ sizeLine; decide), fun g hg => ?_⟩
      have := tail g hg
      rw [hem] at this
      exact this
    | true =>
      refine ifF (by rw [e1, hem]; rfl) ?_
      refine ⟨(by show 1 ≤ sizeLine; decide), fun g hg => ?_⟩
      have := tail g hg
      rw [hem] at this
      exact this
end
end Cx
/-! ## CxM1 -/
namespace Cx
open Oc (C)
open PySem PySem.Spec PyProof.Rows L2
abbrev sAnswers : Stmt := top 47
abbrev sCallEnd : Stmt := top 48
abbrev sCode : Stmt := top 49
abbrev sAnsOf : Stmt := top 50
abbrev sToRow : Stmt := top 51
/-! ### What the top has written of models.py -/
structure TxM (K : PySem.W.Frag) (mg : Str → Option Value) (CN CA CT CM CU : Addr) : Prop where
  iB : ∃ u, mg "BEGINS" = some u ∧ RelV (.int 0) u
  iL : ∃ u, mg "LINE" = some u ∧ RelV (.int 1) u
  iD : ∃ u, mg "DROP" = some u ∧ RelV (.int 2) u
  iC : ∃ u, mg "CAN" = some u ∧ RelV (.int 3) u
  iU : ∃ u, mg "UNDER" = some u ∧ RelV (.int 4) u
  iM : ∃ u, mg "MODEL" = some u ∧ RelV (.int 5) u
  iA : ∃ u, mg "AGAINST" = some u ∧ RelV (.int 6) u
  iN : ∃ u, mg "NAMES" = some u ∧ RelV (.int 7) u
  iS : ∃ u, mg "SPARE" = some u ∧ RelV (.int 8) u
  eU : ExcC K mg "UnknownCall" CU
  nN : PySem.W.exmOne K (.ref CN) (.ref CN) = some true
  aN : PySem.W.exmOne K (.ref CA) (.ref CN) = some false
  aA : PySem.W.exmOne K (.ref CA) (.ref CA) = some true
  mN : PySem.W.exmOne K (.ref CM) (.ref CN) = some false
  mA : PySem.W.exmOne K (.ref CM) (.ref CA) = some false
  mM : PySem.W.exmOne K (.ref CM) (.ref CM) = some true
  tN : PySem.W.exmOne K (.ref CT) (.ref CN) = some false
  tA : PySem.W.exmOne K (.ref CT) (.ref CA) = some false
  tM : PySem.W.exmOne K (.ref CT) (.ref CM) = some false
  tT : PySem.W.exmOne K (.ref CT) (.ref CT) = some true
theorem OpQ.mono {CS : Addr} {H H1 : Hp} {s l : Addr} {r : Oc01.House × Oc01.Ans} {Q : VK} (h : OpQ CS H s l r Q) (e : Same H H1) : OpQ CS H1 s l r Q :=
  fun H' p l' h1 h2 h3 h4 h5 => h H' p l' h1 (h2.imp id (e.free ·)) (fun b o hb n1 n2 => h3 b o (e _ _ hb) n1 n2) (e.free h4) h5
theorem OpE.mono {CN CA CM CT : Addr} {H H1 : Hp} {ax : List Oc.Axiom} {r : Oc01.House × Oc01.Ans} {E : XK} (h : OpE CN CA CM CT H ax r E) (e : Same H H1) : OpE CN CA CM CT H1 ax r E :=
  fun c H' h1 h2 h3 => h c H' (e.trans h1) h2 h3
/-- a call with a row -/
inductive RowIs : Nat → (List Nat → Oc01.Call) → Prop
  | line : RowIs 1 .line
  | can : RowIs 3 .can
  | under : RowIs 4 .under
  | model : RowIs 5 .model
  | against : RowIs 6 .against
/-- answer_to_row -/
def spToRow (K : PySem.W.Frag) (CS CN CA CM CT : Addr) : Sp := fun vs H Q E => ∃ (s l b : Addr) (h : Nat) (f : List Nat → Oc01.Call) (ax : List Oc.Axiom) (row : List Nat), vs = [.ref s, zn h, .ref b] ∧ RowIs h f ∧ SesAt CS H s l ax ∧ HouseOk ax ∧ SqL K H b (vn row) ∧ row.length ≤ 30 ∧
  OpQ CS H s l (Oc01.step ⟨ax⟩ (f row)) Q ∧ OpE CN CA CM CT H ax (Oc01.step ⟨ax⟩ (f row)) E
/-- answer_of -/
def spAnsOf (K : PySem.W.Frag) (CS CN CA CM CT : Addr) : Sp := fun vs H Q E => ∃ (s l b : Addr) (op : Oc01.Call) (ax : List Oc.Axiom) (m : List Nat), vs = [.ref s, .ref b] ∧ CallIs m op ∧ SesAt CS H s l ax ∧ HouseOk ax ∧ SqL K H b (vn m) ∧
  OpQ CS H s l (Oc01.step ⟨ax⟩ op) Q ∧ OpE CN CA CM CT H ax (Oc01.step ⟨ax⟩ op) E
/-- answer_or_code -/
def spCode (K : PySem.W.Frag) (CS : Addr) : Sp := fun vs H Q _ => ∃ (s l b : Addr) (op : Oc01.Call) (ax : List Oc.Axiom) (m : List Nat), vs = [.ref s, .ref b] ∧ CallIs m op ∧ SesAt CS H s l ax ∧ HouseOk ax ∧ SqL K H b (vn m) ∧
  OpQ CS H s l (Oc01.step ⟨ax⟩ op) Q
/-- call_end -/
def spCallEnd (K : PySem.W.Frag) : Sp := fun vs H Q _ => ∃ (a : Addr) (L m r : List Nat) (p : Nat) (op : Oc01.Call), vs = [.ref a, zn p] ∧ SqL K H a (vn L) ∧ L.drop p = m ++ r ∧ CallIs m op ∧ ∀ H', Same H H' → Q (zn (p + m.length)) H'
/-- answers -/
def spAnswers (K : PySem.W.Frag) : Sp := fun vs H Q _ => ∃ (a : Addr) (L : List Nat), vs = [.ref a] ∧ SqL K H a (vn L) ∧ PyOc01.answers_asked (zs L) = true ∧
  ∀ (H' : Hp) (p : Addr), Same H H' → H' p = some (.lst ((PyOc01.answers (zs L)).map V.int)) → Q (.ref p) H'
section
variable {P : Program} {w : World} {K : PySem.W.Frag} {mg : Str → Option Value} {base : Heap} {CK CR pP pC CN CS CA CT CM CU : Addr}
theorem scToRow : FnScope ["session", "number", "row"] ["session", "number", "row"] (defScope sToRow) := ⟨rfl, rfl, rfl, by decide +kernel, rfl, by decide +kernel, by decide +kernel⟩
theorem ok_torow {f f1 f3 f4 f5 f6 : Addr} {fd fd1 fd3 fd4 fd5 fd6 : FuncData} (F : Fun K "answer_to_row" "answer_to_row" sToRow f fd) (TS : TxS K mg CS CA CT CM) (TM : TxM K mg CN CA CT CM CU)
    (G1 : FnOk P w K mg base (L2.CX P w) 6 f1 fd1 ["self", "numbers"] (spRow K CS CN CA CM CT .line)) (b1 : Binds K fd1 ["self", "numbers"] []) (m1 : Meth K CS "line" f1)
    (G3 : FnOk P w K mg base (L2.CX P w) 9 f3 fd3 ["self", "numbers"] (spRow K CS CN CA CM CT .can)) (b3 : Binds K fd3 ["self", "numbers"] []) (m3 : Meth K CS "can" f3)
    (G4 : FnOk P w K mg base (L2.CX P w) 9 f4 fd4 ["self", "numbers"] (spRow K CS CN CA CM CT .under)) (b4 : Binds K fd4 ["self", "numbers"] []) (m4 : Meth K CS "under" f4)
    (G5 : FnOk P w K mg base (L2.CX P w) 10 f5 fd5 ["self", "numbers"] (spRow K CS CN CA CM CT .model)) (b5 : Binds K fd5 ["self", "numbers"] []) (m5 : Meth K CS "model" f5)
    (G6 : FnOk P w K mg base (L2.CX P w) 10 f6 fd6 ["self", "numbers"] (spRow K CS CN CA CM CT .against)) (b6 : Binds K fd6 ["self", "numbers"] []) (m6 : Meth K CS "against" f6) :
    FnOk P w K mg base (L2.CX P w) 11 f fd ["session", "number", "row"] (spToRow K CS CN CA CM CT) := by
  refine F.okX scToRow (fun vs H Q E h => ?_) (fun cdv A outer s H vs Q E hr h => ?_)
  · obtain ⟨s, l, b, h, f, ax, row, rfl, _⟩ := h
    rfl
  · obtain ⟨s, l, b, h, f, ax, row, rfl, hR, hS, hO, hB, hl, q, qE⟩ := h
    obtain ⟨u1, g1, r1⟩ := TM.iL
    obtain ⟨u3, g3, r3⟩ := TM.iC
    obtain ⟨u4, g4, r4⟩ := TM.iU
    obtain ⟨u5, g5, r5⟩ := TM.iM
    refine ⟨_, pss_cons (ps_if (pt_cmpR op_eq (pv 1) (pe_glob (by rfl) g1 r1) (nomark _)) (pss_one (ps_ret (pe_meth (pv 0) TS.cl m1 G1 (hr.mono (by decide)) b1 .nil (passes_call (takes_of rfl rfl rfl rfl) fun _ _ _ _ h => h) (pa_cons (pv 2) pa_nil)))) pss_nil)
      (pss_cons (ps_if (pt_cmpR op_eq (pv 1) (pe_glob (by rfl) g3 r3) (nomark _)) (pss_one (ps_ret (pe_meth (pv 0) TS.cl m3 G3 (hr.mono (by decide)) b3 .nil (passes_call (takes_of rfl rfl rfl rfl) fun _ _ _ _ h => h) (pa_cons (pv 2) pa_nil)))) pss_nil)
      (pss_cons (ps_if (pt_cmpR op_eq (pv 1) (pe_glob (by rfl) g4 r4) (nomark _)) (pss_one (ps_ret (pe_meth (pv 0) TS.cl m4 G4 (hr.mono (by decide)) b4 .nil (passes_call (takes_of rfl rfl rfl rfl) fun _ _ _ _ h => h) (pa_cons (pv 2) pa_nil)))) pss_nil)
      (pss_cons (ps_if (pt_cmpR op_eq (pv 1) (pe_glob (by rfl) g5 r5) (nomark _)) (pss_one (ps_ret (pe_meth (pv 0) TS.cl m5 G5 (hr.mono (by decide)) b5 .nil (passes_call (takes_of rfl rfl rfl rfl) fun _ _ _ _ h => h) (pa_cons (pv 2) pa_nil)))) pss_nil)
      (pss_one (ps_ret (pe_meth (pv 0) TS.cl m6 G6 (hr.mono (by decide)) b6 .nil (passes_call (takes_of rfl rfl rfl rfl) fun _ _ _ _ h => h) (pa_cons (pv 2) pa_nil))))))), ?_⟩
    obtain ⟨dx, ps, hs, hls, hX, hlp, nls⟩ := ses_at hS
    have test : ∀ {n : Nat} {A B : Prop}, (h = n → A) → (h ≠ n → B) → if decide (V.int ((h : Nat) : Int) = V.int (n : Int)) = true then A else B := by
      intro n A B hA hB
      by_cases e : h = n
      · exact ifT (by rw [eqNum]; exact decide_eq_true e) (hA e)
      · exact ifF (by rw [eqNum]; exact decide_eq_false e) (hB e)
    refine ⟨_, rfl, rfl, _, rfl, test (n := 1) (fun e => ?_) (fun n1 => ?_)⟩
    · subst e
      cases hR
      exact ⟨_, rfl, s, dx, _, rfl, hs, sF_no (by decide +kernel), _, rfl, s, l, b, ax, row, rfl, hS, hO, hB, hl, q, qE⟩
    refine ⟨_, rfl, rfl, _, rfl, test (n := 3) (fun e => ?_) (fun n3 => ?_)⟩
    · subst e
      cases hR
      exact ⟨_, rfl, s, dx, _, rfl, hs, sF_no (by decide +kernel), _, rfl, s, l, b, ax, row, rfl, hS, hO, hB, hl, q, qE⟩
    refine ⟨_, rfl, rfl, _, rfl, test (n := 4) (fun e => ?_) (fun n4 => ?_)⟩
    · subst e
      cases hR
      exact ⟨_, rfl, s, dx, _, rfl, hs, sF_no (by decide +kernel), _, rfl, s, l, b, ax, row, rfl, hS, hO, hB, hl, q, qE⟩
    refine ⟨_, rfl, rfl, _, rfl, test (n := 5) (fun e => ?_) (fun n5 => ?_)⟩
    · subst e
      cases hR
      exact ⟨_, rfl, s, dx, _, rfl, hs, sF_no (by decide +kernel), _, rfl, s, l, b, ax, row, rfl, hS, hO, hB, hl, q, qE⟩
    cases hR with
    | line => exact absurd rfl n1
    | can => exact absurd rfl n3
    | under => exact absurd rfl n4
    | model => exact absurd rfl n5
    | against => exact ⟨_, rfl, s, dx, _, rfl, hs, sF_no (by decide +kernel), _, rfl, s, l, b, ax, row, rfl, hS, hO, hB, hl, q, qE⟩
theorem scAnsOf : FnScope ["session", "call"] ["session", "call"] (defScope sAnsOf) := ⟨rfl, rfl, rfl, by decide +kernel, rfl, by decide +kernel, by decide +kernel⟩
theorem ok_ansof {f fR f0 f2 f7 f8 : Addr} {fd fdR fd0 fd2 fd7 fd8 : FuncData} (F : Fun K "answer_of" "answer_of" sAnsOf f fd) (TS : TxS K mg CS CA CT CM) (TM : TxM K mg CN CA CT CM CU)
    (GR : FnOk P w K mg base (L2.CX P w) 11 fR fdR ["session", "number", "row"] (spToRow K CS CN CA CM CT)) (bR : Binds K fdR ["session", "number", "row"] []) (mR : mg "answer_to_row" = some (.ref fR)) (kR : PySem.W.keepIn K (.ref fR) = true)
    (G0 : FnOk P w K mg base CX0 1 f0 fd0 ["self"] (spNone CS .begins)) (b0 : Binds K fd0 ["self"] []) (m0 : Meth K CS "begins" f0)
    (G2 : FnOk P w K mg base (L2.CX P w) 1 f2 fd2 ["self", "index"] (spDrop CS CN CA CM CT)) (b2 : Binds K fd2 ["self", "index"] []) (m2 : Meth K CS "drop" f2)
    (G7 : FnOk P w K mg base CX0 9 f7 fd7 ["self"] (spNone CS .names)) (b7 : Binds K fd7 ["self"] []) (m7 : Meth K CS "names" f7)
    (G8 : FnOk P w K mg base CX0 9 f8 fd8 ["self"] (spNone CS .spare)) (b8 : Binds K fd8 ["self"] []) (m8 : Meth K CS "spare" f8) :
    FnOk P w K mg base (L2.CX P w) 12 f fd ["session", "call"] (spAnsOf K CS CN CA CM CT) := by
  refine F.okX scAnsOf (fun vs H Q E h => ?_) (fun cdv A outer s H vs Q E hr h => ?_)
  · obtain ⟨s, l, b, op, ax, m, rfl, _⟩ := h
    rfl
  · obtain ⟨s, l, b, op, ax, m, rfl, hC, hS, hO, hB, q, qE⟩ := h
    obtain ⟨u0, g0, r0⟩ := TM.iB
    obtain ⟨u2, g2, r2⟩ := TM.iD
    obtain ⟨u7, g7, r7⟩ := TM.iN
    obtain ⟨u8, g8, r8⟩ := TM.iS
    refine ⟨_, pss_cons (ps_if (pt_cmpR op_eq (pe_ix ix_list (pv 1) pe_int (fun _ _ => rfl)) (pe_glob (by rfl) g0 r0) (nomark _)) (pss_one (ps_ret (pe_meth0 (pv 0) TS.cl m0 G0 (hr.mono (by decide)) b0 .nil pass0))) pss_nil)
      (pss_cons (ps_if (pt_cmpR op_eq (pe_ix ix_list (pv 1) pe_int (fun _ _ => rfl)) (pe_glob (by rfl) g2 r2) (nomark _)) (pss_one (ps_ret (pe_meth (pv 0) TS.cl m2 G2 (hr.mono (by decide)) b2 .nil (passes_call (takes_of rfl rfl rfl rfl) fun _ _ _ _ h => h) (pa_cons (pe_ix ix_list (pv 1) pe_int (fun _ _ => rfl)) pa_nil)))) pss_nil)
      (pss_cons (ps_if (pt_cmpR op_eq (pe_ix ix_list (pv 1) pe_int (fun _ _ => rfl)) (pe_glob (by rfl) g7 r7) (nomark _)) (pss_one (ps_ret (pe_meth0 (pv 0) TS.cl m7 G7 (hr.mono (by decide)) b7 .nil pass0))) pss_nil)
      (pss_cons (ps_if (pt_cmpR op_eq (pe_ix ix_list (pv 1) pe_int (fun _ _ => rfl)) (pe_glob (by rfl) g8 r8) (nomark _)) (pss_one (ps_ret (pe_meth0 (pv 0) TS.cl m8 G8 (hr.mono (by decide)) b8 .nil pass0))) pss_nil)
      (pss_one (ps_ret (pe_call GR hr (by rfl) mR kR bR .nil (passes_call (takes_of rfl rfl rfl rfl) fun _ _ _ _ h => h) (pa_cons (pv 0) (pa_cons (pe_ix ix_list (pv 1) pe_int (fun _ _ => rfl)) (pa_cons (pe_slice sl_list (pv 1) (po_some pe_int) po_none) pa_nil))))))))), ?_⟩
    obtain ⟨dx, ps, hs, hls, hX, hlp, nls⟩ := ses_at hS
    obtain ⟨h, t, rfl⟩ : ∃ h t, m = h :: t := by cases hC <;> exact ⟨_, _, rfl⟩
    have h0 : (vn (h :: t))[0]? = some (V.int (h : Nat)) := rfl
    have test : ∀ {n : Nat} {A B : Prop}, (h = n → A) → (h ≠ n → B) → if decide (V.int ((h : Nat) : Int) = V.int (n : Int)) = true then A else B := by
      intro n A B hA hB
      by_cases e : h = n
      · exact ifT (by rw [eqNum]; exact decide_eq_true e) (hA e)
      · exact ifF (by rw [eqNum]; exact decide_eq_false e) (hB e)
    refine ⟨_, rfl, b, _, _, _, rfl, rfl, hB, atI_nat (j := 0) h0, rfl, _, rfl, test (n := 0) (fun e => ?_) (fun n0 => ?_)⟩
    · subst e
      cases hC
      exact ⟨_, rfl, s, dx, _, rfl, hs, sF_no (by decide +kernel), s, l, ax, rfl, hS, hO, q⟩
    refine ⟨_, rfl, b, _, _, _, rfl, rfl, hB, atI_nat (j := 0) h0, rfl, _, rfl, test (n := 2) (fun e => ?_) (fun n2 => ?_)⟩
    · subst e
      cases hC with
      | drop i => exact ⟨_, rfl, s, dx, _, rfl, hs, sF_no (by decide +kernel), _, rfl, b, _, _, _, rfl, rfl, hB, atI_nat (j := 1) (v := zn i) rfl, s, l, ax, i, rfl, hS, hO, q, qE⟩
    refine ⟨_, rfl, b, _, _, _, rfl, rfl, hB, atI_nat (j := 0) h0, rfl, _, rfl, test (n := 7) (fun e => ?_) (fun n7 => ?_)⟩
    · subst e
      cases hC
      exact ⟨_, rfl, s, dx, _, rfl, hs, sF_no (by decide +kernel), s, l, ax, rfl, hS, hO, q⟩
    refine ⟨_, rfl, b, _, _, _, rfl, rfl, hB, atI_nat (j := 0) h0, rfl, _, rfl, test (n := 8) (fun e => ?_) (fun n8 => ?_)⟩
    · subst e
      cases hC
      exact ⟨_, rfl, s, dx, _, rfl, hs, sF_no (by decide +kernel), s, l, ax, rfl, hS, hO, q⟩
    obtain ⟨f, row, rfl, rfl, hR, hl⟩ : ∃ f row, t = row.length :: row ∧ op = f row ∧ RowIs h f ∧ row.length ≤ 30 := by
      cases hC with
      | begins => exact absurd rfl n0
      | line row hl => exact ⟨_, _, rfl, rfl, .line, hl⟩
      | drop i => exact absurd rfl n2
      | can row hl => exact ⟨_, _, rfl, rfl, .can, hl⟩
      | under row hl => exact ⟨_, _, rfl, rfl, .under, hl⟩
      | model row hl => exact ⟨_, _, rfl, rfl, .model, hl⟩
      | against row hl => exact ⟨_, _, rfl, rfl, .against, hl⟩
      | names => exact absurd rfl n7
      | spare => exact absurd rfl n8
    refine ⟨_, rfl, _, rfl, b, _, _, _, rfl, rfl, hB, atI_nat (j := 0) h0, _, rfl, _, rfl, b, _, rfl, hB, fun p hp => ?_⟩
    have s1 : Same H (upd H p (.lst (cutV (vn (h :: row.length :: row)) (some 2) none))) := same_upd hp
    have e1 : (upd H p (.lst (cutV (vn (h :: row.length :: row)) (some 2) none))) p = some (.lst (vn row)) := by
      rw [upd_same, cut_tail _ (by simp)]
      rfl
    generalize upd H p (.lst (cutV (vn (h :: row.length :: row)) (some 2) none)) = H1 at *
    exact ⟨s, l, p, h, f, ax, row, rfl, hR, hS.same s1, hO, SqL.of e1, hl, q.mono s1, qE.mono s1⟩
theorem scCode : FnScope ["session", "call"] ["session", "call"] (defScope sCode) := ⟨rfl, rfl, rfl, by decide +kernel, rfl, by decide +kernel, by decide +kernel⟩
theorem ok_code {f fA : Addr} {fd fdA : FuncData} (F : Fun K "answer_or_code" "answer_or_code" sCode f fd) (T : TxA K mg pP pC CN) (TS : TxS K mg CS CA CT CM) (TM : TxM K mg CN CA CT CM CU)
    (GA : FnOk P w K mg base (L2.CX P w) 12 fA fdA ["session", "call"] (spAnsOf K CS CN CA CM CT)) (bA : Binds K fdA ["session", "call"] []) (mA : mg "answer_of" = some (.ref fA)) (kA : PySem.W.keepIn K (.ref fA) = true) :
    FnOk P w K mg base CX0 13 f fd ["session", "call"] (spCode K CS) := by
  refine F.ok scCode (fun vs H Q E h => ?_) (fun cdv A outer s H vs Q E hr h => ?_)
  · obtain ⟨s, l, b, op, ax, m, rfl, _⟩ := h
    rfl
  · obtain ⟨s, l, b, op, ax, m, rfl, hC, hS, hO, hB, q⟩ := h
    refine ⟨_, pss_one (ps_try_many (tb := fun W => tRet (tCallS (spAnsOf K CS CN CA CM CT) (WE W) (tCons (tVar 0) (tCons (tVar 1) tNil))))
      (l := [(.ref CN, fun _ _ _ => tRet (tLst (tCons (tUn (rU fun i => .int (-i)) (tC (.int 1))) tNil))), (.ref CA, fun _ _ _ => tRet (tLst (tCons (tUn (rU fun i => .int (-i)) (tC (.int 2))) tNil))),
        (.ref CM, fun _ _ _ => tRet (tLst (tCons (tUn (rU fun i => .int (-i)) (tC (.int 6))) tNil))), (.ref CT, fun _ _ _ => tRet (tLst (tCons (tUn (rU fun i => .int (-i)) (tC (.int 7))) tNil)))])
      (Wout := fun _ _ _ _ => False) rfl rfl takes0
      (fun W pn xe tk _ => pss_one (ps_ret (pe_callS GA hr (by rfl) mA kA bA (fun σ => passAt tk σ) (by exact (pa_cons (pv 0) (pa_cons (pv 1) pa_nil))))))
      (.cons ⟨rfl, by decide, Or.inl T.gN⟩ (fun _ _ _ _ _ _ _ => pss_one (ps_ret (pe_lst (pa_cons (pe_un un_neg pe_int) pa_nil))))
      (.cons ⟨rfl, by decide, Or.inl TS.eA.g⟩ (fun _ _ _ _ _ _ _ => pss_one (ps_ret (pe_lst (pa_cons (pe_un un_neg pe_int) pa_nil))))
      (.cons ⟨rfl, by decide, Or.inl TS.eM.g⟩ (fun _ _ _ _ _ _ _ => pss_one (ps_ret (pe_lst (pa_cons (pe_un un_neg pe_int) pa_nil))))
      (.cons ⟨rfl, by decide, Or.inl TS.eT.g⟩ (fun _ _ _ _ _ _ _ => pss_one (ps_ret (pe_lst (pa_cons (pe_un un_neg pe_int) pa_nil)))) .nil))))), ?_⟩
    refine ⟨_, rfl, _, rfl, s, l, b, op, ax, m, rfl, hC, hS, hO, hB, q, fun c H' s1 hr hc => ?_⟩
    have fin : ∀ z : Int, (Oc01.step ⟨ax⟩ op).2 = Oc01.ok (-z) → ∃ i, V.int z = V.int i ∧ (1 ≤ sizeLine ∧ ∀ p, H' p = none → Q (.ref p) (upd H' p (.lst [V.int (-i)]))) := by
      intro z hz
      refine ⟨z, rfl, by decide, fun p hp => ?_⟩
      refine q.same hS hr (s1.trans (same_upd hp)) (s1.free hp) ?_
      rw [upd_same, hz, out_ok]
    rcases hc with ⟨rfl, hc⟩ | ⟨rfl, hc⟩ | ⟨rfl, hc⟩ | ⟨rfl, hc⟩
    · exact ⟨true, TM.nN, fun _ _ _ => fin 1 hc, fun q => Bool.noConfusion q⟩
    · exact ⟨false, TM.aN, (fun q => Bool.noConfusion q), fun _ => ⟨true, TM.aA, fun _ _ _ => fin 2 hc, fun q => Bool.noConfusion q⟩⟩
    · exact ⟨false, TM.mN, (fun q => Bool.noConfusion q), fun _ => ⟨false, TM.mA, (fun q => Bool.noConfusion q), fun _ => ⟨true, TM.mM, fun _ _ _ => fin 6 hc, fun q => Bool.noConfusion q⟩⟩⟩
    · exact ⟨false, TM.tN, (fun q => Bool.noConfusion q), fun _ => ⟨false, TM.tA, (fun q => Bool.noConfusion q), fun _ => ⟨false, TM.tM, (fun q => Bool.noConfusion q), fun _ => ⟨true, TM.tT, fun _ _ _ => fin 7 hc, fun q => Bool.noConfusion q⟩⟩⟩⟩
end
end Cx
/-! ## CxM2 -/
namespace Cx
open Oc (C)
open PySem PySem.Spec PyProof.Rows L2
theorem call_len {m : List Nat} {op : Oc01.Call} {h : Nat} {t : List Nat} (hC : CallIs m op) (e : m = h :: t) :
    ((h = 0 ∨ h = 7 ∨ h = 8) ∧ m.length = 1) ∨ (h = 2 ∧ m.length = 2) ∨ ((h = 1 ∨ h = 3 ∨ h = 4 ∨ h = 5 ∨ h = 6) ∧ ∃ n, t[0]? = some n ∧ m.length = 2 + n) := by
  subst e
  cases hC with
  | begins => exact .inl ⟨.inl rfl, rfl⟩
  | names => exact .inl ⟨.inr (.inl rfl), rfl⟩
  | spare => exact .inl ⟨.inr (.inr rfl), rfl⟩
  | drop i => exact .inr (.inl ⟨rfl, rfl⟩)
  | line row hl => exact .inr (.inr ⟨.inl rfl, _, rfl, by simp; omega⟩)
  | can row hl => exact .inr (.inr ⟨.inr (.inl rfl), _, rfl, by simp; omega⟩)
  | under row hl => exact .inr (.inr ⟨.inr (.inr (.inl rfl)), _, rfl, by simp; omega⟩)
  | model row hl => exact .inr (.inr ⟨.inr (.inr (.inr (.inl rfl))), _, rfl, by simp; omega⟩)
  | against row hl => exact .inr (.inr ⟨.inr (.inr (.inr (.inr rfl))), _, rfl, by simp; omega⟩)
theorem inV_three (h : Nat) : inV (.int (h : Nat)) [.int 0, .int 7, .int 8] = decide (h = 0 ∨ h = 7 ∨ h = 8) := by
  have e : inV (.int (h : Nat)) (vn [0, 7, 8]) = _ := inV_vn h [0, 7, 8]
  refine Eq.trans e ?_
  rw [Bool.eq_iff_iff, List.contains_iff_mem, decide_eq_true_eq]
  simp
theorem inV_five (h : Nat) : inV (.int (h : Nat)) [.int 1, .int 3, .int 4, .int 5, .int 6] = decide (h = 1 ∨ h = 3 ∨ h = 4 ∨ h = 5 ∨ h = 6) := by
  have e : inV (.int (h : Nat)) (vn [1, 3, 4, 5, 6]) = _ := inV_vn h [1, 3, 4, 5, 6]
  refine Eq.trans e ?_
  rw [Bool.eq_iff_iff, List.contains_iff_mem, decide_eq_true_eq]
  simp
section
variable {P : Program} {w : World} {K : PySem.W.Frag} {mg : Str → Option Value} {base : Heap} {CK CR pP pC CN CS CA CT CM CU : Addr}
theorem scCallEnd : FnScope ["calls", "start"] ["calls", "start"] (defScope sCallEnd) := ⟨rfl, rfl, rfl, by decide +kernel, rfl, by decide +kernel, by decide +kernel⟩
theorem ok_callend {f : Addr} {fd : FuncData} (F : Fun K "call_end" "call_end" sCallEnd f fd) (TM : TxM K mg CN CA CT CM CU) : FnOk P w K mg base (L2.CX P w) 1 f fd ["calls", "start"] (spCallEnd K) := by
  refine F.okX scCallEnd (fun vs H Q E h => ?_) (fun cdv A outer s H vs Q E hr h => ?_)
  · obtain ⟨a, L, m, r, p, op, rfl, _⟩ := h
    rfl
  · obtain ⟨a, L, m, r, p, op, rfl, hL, hd, hC, q⟩ := h
    obtain ⟨u0, g0, r0⟩ := TM.iB
    obtain ⟨u1, g1, r1⟩ := TM.iL
    obtain ⟨u2, g2, r2⟩ := TM.iD
    obtain ⟨u3, g3, r3⟩ := TM.iC
    obtain ⟨u4, g4, r4⟩ := TM.iU
    obtain ⟨u5, g5, r5⟩ := TM.iM
    obtain ⟨u6, g6, r6⟩ := TM.iA
    obtain ⟨u7, g7, r7⟩ := TM.iN
    obtain ⟨u8, g8, r8⟩ := TM.iS
    refine ⟨_, pss_cons (ps_if (pt_cmpR op_in_seq (pe_ix ix_list (pv 0) (pv 1) (fun _ _ => rfl)) (pe_tup (pa_cons (pe_glob (by rfl) g0 r0) (pa_cons (pe_glob (by rfl) g7 r7) (pa_cons (pe_glob (by rfl) g8 r8) pa_nil)))) (by rfl))
        (pss_one (ps_ret (pe_op op_add (pv 1) pe_int))) pss_nil)
      (pss_cons (ps_if (pt_cmpR op_eq (pe_ix ix_list (pv 0) (pv 1) (fun _ _ => rfl)) (pe_glob (by rfl) g2 r2) (nomark _)) (pss_one (ps_ret (pe_op op_add (pv 1) pe_int))) pss_nil)
      (pss_cons (ps_if (pt_cmpR op_in_seq (pe_ix ix_list (pv 0) (pv 1) (fun _ _ => rfl)) (pe_tup (pa_cons (pe_glob (by rfl) g1 r1) (pa_cons (pe_glob (by rfl) g3 r3) (pa_cons (pe_glob (by rfl) g4 r4) (pa_cons (pe_glob (by rfl) g5 r5) (pa_cons (pe_glob (by rfl) g6 r6) pa_nil)))))) (by rfl))
        (pss_one (ps_ret (pe_op op_add (pe_op op_add (pv 1) pe_int) (pe_ix ix_list (pv 0) (pe_op op_add (pv 1) pe_int) (fun _ _ => rfl))))) pss_nil)
      (pss_one (ps_raise rfl (takes_of rfl rfl rfl rfl) (pmk_own PySem.F.excBase_ValueError TM.eU.x TM.eU.g TM.eU.k (raises_own TM.eU.b TM.eU.t) (by exact rfl)))))), ?_⟩
    obtain ⟨h, t, rfl⟩ : ∃ h t, m = h :: t := by cases hC <;> exact ⟨_, _, rfl⟩
    have hget : L[p]? = some h := by
      have e0 : (L.drop p)[0]? = (h :: t ++ r)[0]? := by rw [hd]
      rw [List.getElem?_drop, Nat.add_zero] at e0
      rw [e0]; rfl
    have hcl := call_len hC rfl
    refine ⟨_, rfl, _, rfl, a, _, _, _, rfl, rfl, hL, atI_nat (vn_get hget), (by show 3 ≤ sizeLine; decide), fun p1 hp1 => ?_⟩
    have s1 : Same H (upd H p1 (.tup [.int 0, .int 7, .int 8])) := same_upd hp1
    have e1 : (upd H p1 (.tup [.int 0, .int 7, .int 8])) p1 = some (.tup [.int 0, .int 7, .int 8]) := upd_same
    generalize upd H p1 (.tup [.int 0, .int 7, .int 8]) = H1 at *
    refine ⟨p1, _, rfl, .inr (SqT.of e1), rfl, rfl, _, rfl, ?_⟩
    have ein : (if false = true then !inV (.int (h : Nat)) [.int 0, .int 7, .int 8] else inV (.int (h : Nat)) [.int 0, .int 7, .int 8]) = decide (h = 0 ∨ h = 7 ∨ h = 8) := by
      rw [if_neg Bool.false_ne_true]; exact inV_three h
    by_cases h1 : h = 0 ∨ h = 7 ∨ h = 8
    · refine ifT (ein.trans (decide_eq_true h1)) ?_
      have hm : (h :: t).length = 1 := by rcases hcl with ⟨_, e⟩ | ⟨e, _⟩ | ⟨e, _⟩; exact e; omega; omega
      refine ⟨_, rfl, _, _, rfl, rfl, ?_⟩
      have := q H1 s1
      rw [hm] at this
      exact this
    refine ifF (ein.trans (decide_eq_false h1)) ?_
    refine ⟨_, rfl, _, rfl, a, _, _, _, rfl, rfl, s1.seq hL, atI_nat (vn_get hget), rfl, _, rfl, ?_⟩
    by_cases h2 : h = 2
    · refine ifT ((eqNum h 2).trans (decide_eq_true h2)) ?_
      have hm : (h :: t).length = 2 := by rcases hcl with ⟨e, _⟩ | ⟨_, e⟩ | ⟨e, _⟩; omega; exact e; omega
      refine ⟨_, rfl, _, _, rfl, rfl, ?_⟩
      have := q H1 s1
      rw [hm] at this
      exact this
    refine ifF ((eqNum h 2).trans (decide_eq_false h2)) ?_
    refine ⟨_, rfl, _, rfl, a, _, _, _, rfl, rfl, s1.seq hL, atI_nat (vn_get hget), (by show 5 ≤ sizeLine; decide), fun p2 hp2 => ?_⟩
    have s2 : Same H1 (upd H1 p2 (.tup [.int 1, .int 3, .int 4, .int 5, .int 6])) := same_upd hp2
    have e2 : (upd H1 p2 (.tup [.int 1, .int 3, .int 4, .int 5, .int 6])) p2 = some (.tup [.int 1, .int 3, .int 4, .int 5, .int 6]) := upd_same
    generalize upd H1 p2 (.tup [.int 1, .int 3, .int 4, .int 5, .int 6]) = H2 at *
    refine ⟨p2, _, rfl, .inr (SqT.of e2), rfl, rfl, _, rfl, ?_⟩
    have ein2 : (if false = true then !inV (.int (h : Nat)) [.int 1, .int 3, .int 4, .int 5, .int 6] else inV (.int (h : Nat)) [.int 1, .int 3, .int 4, .int 5, .int 6]) = decide (h = 1 ∨ h = 3 ∨ h = 4 ∨ h = 5 ∨ h = 6) := by
      rw [if_neg Bool.false_ne_true]; exact inV_five h
    have h3 : (h = 1 ∨ h = 3 ∨ h = 4 ∨ h = 5 ∨ h = 6) ∧ ∃ n, t[0]? = some n ∧ (h :: t).length = 2 + n := by
      rcases hcl with ⟨e, _⟩ | ⟨e, _⟩ | e
      · exact absurd e h1
      · exact absurd e h2
      · exact e
    obtain ⟨h3, n, hn, hm⟩ := h3
    refine ifT (ein2.trans (decide_eq_true h3)) ?_
    have hget2 : L[p + 1]? = some n := by
      have e0 : (L.drop p)[1]? = (h :: t ++ r)[1]? := by rw [hd]
      rw [List.getElem?_drop] at e0
      rw [e0]
      cases t with
      | nil => simp at hn
      | cons x t => exact hn
    refine ⟨_, rfl, _, _, rfl, rfl, _, rfl, _, rfl, _, _, rfl, rfl, a, _, _, _, rfl, rfl, (s1.trans s2).seq hL, at_of (j := p + 1) (by omega) (vn_get hget2), _, _, rfl, rfl, ?_⟩
    have := q H2 (s1.trans s2)
    rw [hm] at this
    have e3 : ((p + (2 + n) : Nat) : Int) = (p : Int) + 2 + (n : Int) := by omega
    show Q (V.int ((p : Int) + 2 + (n : Int))) H2
    rw [← e3]
    exact this
theorem scAnswers : FnScope ["calls", "session", "told", "place", "end", "answer"] ["calls"] (defScope sAnswers) := ⟨rfl, rfl, rfl, by decide +kernel, rfl, by decide +kernel, by decide +kernel⟩
theorem ses_keep {CS : Addr} {H : Hp} {s l q : Addr} {ax : List Oc.Axiom} {xs ys : List V} (h : SesAt CS H s l ax) (hq : H q = some (.lst xs)) (nl : l ≠ q) : SesAt CS (upd H q (.lst ys)) s l ax := by
  obtain ⟨dx, ps, h1, h2, h3⟩ := h
  have kp : ∀ b o, b ≠ q → H b = some o → (upd H q (.lst ys)) b = some o := fun b o n e => by rw [upd_ne n]; exact e
  exact ⟨dx, ps, kp _ _ (ne_of h1 hq (by intro z; cases z)) h1, kp _ _ nl h2, L2.Paired.mapP h3 fun b x ⟨c1, c2, q1, q2, q3⟩ => ⟨c1, c2, kp _ _ (ne_of q1 hq (by intro z; cases z)) q1, kp _ _ (ne_of q2 hq (by intro z; cases z)) q2, kp _ _ (ne_of q3 hq (by intro z; cases z)) q3⟩⟩
theorem ok_answers {f fI fE fC : Addr} {fd fdI fdE fdC : FuncData} (F : Fun K "answers" "answers" sAnswers f fd) (T : TxA K mg pP pC CN) (TS : TxS K mg CS CA CT CM)
    (MS : Mk K CS fI) (GI : FnOk P w K mg base CX0 1 fI fdI ["self"] (spSInit CS)) (bI : Binds K fdI ["self"] [])
    (GE : FnOk P w K mg base (L2.CX P w) 1 fE fdE ["calls", "start"] (spCallEnd K)) (bE : Binds K fdE ["calls", "start"] []) (mE : mg "call_end" = some (.ref fE)) (kE : PySem.W.keepIn K (.ref fE) = true)
    (GC : FnOk P w K mg base CX0 13 fC fdC ["session", "call"] (spCode K CS)) (bC : Binds K fdC ["session", "call"] []) (mC : mg "answer_or_code" = some (.ref fC)) (kC : PySem.W.keepIn K (.ref fC) = true) :
    FnOk P w K mg base CX0 14 f fd ["calls"] (spAnswers K) := by
  refine F.ok scAnswers (fun vs H Q E h => ?_) (fun cdv A outer s H vs Q E hr h => ?_)
  · obtain ⟨a, L, rfl, _⟩ := h
    rfl
  · obtain ⟨a, L, rfl, hL, hask, q⟩ := h
    obtain ⟨hrest, htot⟩ := asked_rest hask
    refine ⟨_, pss_cons (ps_set (i := 1) scAnswers.nd rfl (Or.inl rfl) (pe_make0 MS GI (hr.mono (by decide)) rfl TS.g bI .nil pass0))
      (pss_cons (ps_set (i := 2) scAnswers.nd rfl (Or.inl rfl) (pe_lst pa_nil))
      (pss_cons (ps_set (i := 3) scAnswers.nd rfl (Or.inl rfl) pe_int)
      (pss_cons (ps_while PassesOwn.never (pt_cmpR op_lt (pv 3) (pe_callB call_len_seq (by rfl) T.len PySem.boot_len (pa_cons (pv 0) pa_nil)) (nomark _))
        (pss_cons (ps_set (i := 4) scAnswers.nd rfl (Or.inl rfl) (pe_call GE (hr.mono (by decide)) (by rfl) mE kE bE .nil passL (pa_cons (pv 0) (pa_cons (pv 3) pa_nil))))
        (pss_cons (ps_set (i := 5) scAnswers.nd rfl (Or.inl rfl) (pe_call GC hr (by rfl) mC kC bC .nil pass0 (pa_cons (pv 1) (pa_cons (pe_slice sl_list (pv 0) (po_some (pv 3)) (po_some (pv 4))) pa_nil))))
        (pss_cons (ps_expr (pe_bm PySem.F.plainAttrs_list PySem.F.slot_list_append PySem.F.type_list_append mt_append (pv 2) (pa_cons (pe_callB call_len_seq (by rfl) T.len PySem.boot_len (pa_cons (pv 5) pa_nil)) pa_nil)))
        (pss_cons (ps_expr (pe_bm PySem.F.plainAttrs_list PySem.F.slot_list_extend PySem.F.type_list_extend mt_extend (pv 2) (pa_cons (pv 5) pa_nil)))
        (pss_one (ps_set (i := 3) scAnswers.nd rfl (Or.inl rfl) (pv 4))))))))
      (pss_one (ps_ret (pv 2)))))), ?_⟩
    intro x dx nx ndx nex
    refine ⟨x, dx, rfl, upd_same, fun H1 l hs1 hl1 hl0 kp1 => ⟨rfl, ?_⟩⟩
    have s1 : Same H H1 := fun b o h => kp1 b o (by rw [upd_ne (ne_of_none h nx), upd_ne (ne_of_none h ndx)]; exact h) (ne_of_none h nx)
    have hHl : H l = none := by
      cases e : H l with
      | none => rfl
      | some o =>
        have : (upd (upd H dx (.own x)) x (.ins CS dx [])) l = some o := by rw [upd_ne (ne_of_none e nx), upd_ne (ne_of_none e ndx)]; exact e
        rw [this] at hl0
        cases hl0
    have hSes : SesAt CS H1 x l [] := ⟨dx, [], hs1, hl1, .nil⟩
    refine ⟨Nat.zero_le _, fun g hg => ?_⟩
    have s2 : Same H1 (upd H1 g (.lst [])) := same_upd hg
    have e2 : (upd H1 g (.lst [])) g = some (.lst (([] : List Int).map V.int)) := upd_same
    have hgl : l ≠ g := ne_of_none hl1 hg
    generalize upd H1 g (.lst []) = H2 at *
    have hHg : H g = none := s1.free hg
    have hmax : (10000000 : Nat) < sizeLine := by decide
    refine while_by (fun σ H3 => Same H H3 ∧ ∃ (p : Nat) (l : Addr) (ax : List Oc.Axiom) (v4 v5 : Option V) (Td Tr : List Int), σ = [some (.ref a), some (.ref x), some (.ref g), some (zn p), v4, v5] ∧ p ≤ L.length ∧ SesAt CS H3 x l ax ∧ HouseOk ax ∧ H l = none ∧ l ≠ g ∧
        H3 g = some (.lst (Td.map V.int)) ∧ Rest ax (L.drop p) Tr ∧ PyOc01.answers (zs L) = Td ++ Tr)
      (fun σ _ => match σ with | [_, _, _, some (.int p), _, _] => L.length - p.toNat | _ => 0)
      ⟨s1.trans s2, 0, l, [], none, none, [], _, rfl, Nat.zero_le _, hSes.same s2, house_nil, hHl, hgl, e2, hrest, rfl⟩ ?_ ?_
    · rintro σ H3 ⟨s3, p, l, ax, v4, v5, Td, Tr, rfl, hpl, hS, hO, hHl, hlg, hG, hRest, hT⟩
      refine ⟨_, rfl, _, rfl, a, _, rfl, .inl (s3.seq hL), _, _, rfl, rfl, _, rfl, ?_⟩
      rw [vn_len]
      by_cases hlt : p < L.length
      · refine ifT (decide_eq_true (by omega)) ?_
        have hdr : L.drop p = L[p] :: L.drop (p + 1) := List.drop_eq_getElem_cons hlt
        rw [hdr] at hRest
        obtain ⟨m, op, r', T', hm, hC, hTr, hR'⟩ := rest_next hRest
        rw [← hdr] at hm
        have hml : p + m.length ≤ L.length := by
          have := congrArg List.length hm
          rw [List.length_drop, List.length_append] at this
          omega
        have hmp := call_pos hC
        have hrd : L.drop (p + m.length) = r' := by rw [← List.drop_drop, hm, List.drop_left]
        refine ⟨_, rfl, _, rfl, a, L, m, r', p, op, rfl, s3.seq hL, hm, hC, fun H4 s4 => ?_⟩
        refine ⟨_, rfl, _, rfl, _, rfl, _, rfl, _, rfl, _, rfl, a, _, rfl, (s3.trans s4).seq hL, fun b hb => ?_⟩
        have s5 : Same H4 (upd H4 b (.lst (cutV (vn L) (some (p : Int)) (some ((p + m.length : Nat) : Int))))) := same_upd hb
        have e5 : (upd H4 b (.lst (cutV (vn L) (some (p : Int)) (some ((p + m.length : Nat) : Int))))) b = some (.lst (vn m)) := by
          rw [upd_same, cut_some _ _ _ (by rw [vn_len]; omega) (by rw [vn_len]; omega), vn_drop, vn_take, hm, show p + m.length - p = m.length by omega, List.take_left]
        generalize upd H4 b (.lst (cutV (vn L) (some (p : Int)) (some ((p + m.length : Nat) : Int)))) = H5 at *
        have s35 := s4.trans s5
        have s05 := s3.trans s35
        have hG5 := s35 _ _ hG
        have hxg : x ≠ g := by
          obtain ⟨dx', ps', q1, _⟩ := hS
          exact ne_of q1 hG (by intro z; cases z)
        refine ⟨x, l, b, op, ax, m, rfl, hC, hS.same s35, hO, SqL.of e5, fun H6 c l' hS6 hl6 kp6 hc0 hc6 => ?_⟩
        have hG6 := kp6 _ _ hG5 hxg.symm hlg.symm
        have s06 : Same H H6 := fun b o h => kp6 _ _ (s05 _ _ h) (ne_of_none h nx) (ne_of_none h hHl)
        have hl'g : l' ≠ g := by
          rcases hl6 with rfl | h
          · exact hlg
          · intro z; subst z; rw [hG5] at h; cases h
        have hHl' : H l' = none := by
          rcases hl6 with rfl | h
          · exact hHl
          · exact s05.free h
        have hcg : c ≠ g := fun z => by subst z; rw [hG5] at hc0; cases hc0
        have hsize : Td.length + (1 + ((Oc01Neutral.out (Oc01.step ⟨ax⟩ op).2).length + T'.length)) ≤ 10000000 := by
          rw [hT, List.length_append, hTr, List.length_cons, List.length_append] at htot
          omega
        generalize hout : Oc01Neutral.out (Oc01.step ⟨ax⟩ op).2 = out at *
        refine ⟨_, rfl, .inl ⟨rfl, _, SqL.of hG6⟩, _, rfl, c, _, rfl, .inl (SqL.of hc6), ?_⟩
        refine ⟨g, _, _, rfl, rfl, hG6, (by rw [List.length_map]; omega), ?_⟩
        have kp7 : ∀ b o, b ≠ g → H6 b = some o → (upd H6 g (.lst (Td.map V.int ++ [V.int ((out.map V.int).length : Int)]))) b = some o := fun b o h1 h2 => by rw [upd_ne h1]; exact h2
        have hG7 : (upd H6 g (.lst (Td.map V.int ++ [V.int ((out.map V.int).length : Int)]))) g = some (.lst ((Td ++ [((out.length : Nat) : Int)]).map V.int)) := by rw [upd_same, List.map_append, List.length_map]; rfl
        have hS7 : SesAt CS (upd H6 g (.lst (Td.map V.int ++ [V.int ((out.map V.int).length : Int)]))) x l' (Oc01.step ⟨ax⟩ op).1.axioms := ses_keep hS6 hG6 hl'g
        have hc7 := kp7 _ _ hcg hc6
        have s07 : Same H (upd H6 g (.lst (Td.map V.int ++ [V.int ((out.map V.int).length : Int)]))) := fun b o h => kp7 _ _ (ne_of_none h hHg) (s06 _ _ h)
        generalize upd H6 g (.lst (Td.map V.int ++ [V.int ((out.map V.int).length : Int)])) = H7 at *
        refine ⟨_, rfl, .inl ⟨rfl, _, SqL.of hG7⟩, _, rfl, g, c, _, _, rfl, rfl, hG7, hc7, ?_, ?_⟩
        · rw [List.length_map, List.length_map, List.length_append]
          simp
          omega
        refine ⟨_, rfl, ?_⟩
        refine ⟨⟨fun b o h => by rw [upd_ne (ne_of_none h hHg)]; exact s07 _ _ h, p + m.length, l', (Oc01.step ⟨ax⟩ op).1.axioms, _, _, Td ++ [((out.length : Nat) : Int)] ++ out, T', rfl, hml, ses_keep hS7 hG7 hl'g, house_step hO hC, hHl', hl'g, ?_, ?_, ?_⟩, ?_⟩
        · rw [upd_same, List.map_append (l₁ := Td ++ [((out.length : Nat) : Int)])]
        · rw [hrd]; exact hR'
        · rw [hT, hTr]
          simp
        · show L.length - ((p + m.length : Nat) : Int).toNat < L.length - ((p : Nat) : Int).toNat
          omega
      · refine ifF (decide_eq_false (by omega)) ?_
        rw [List.drop_eq_nil_of_le (by omega)] at hRest
        have hTr := rest_nil hRest
        rw [hTr, List.append_nil] at hT
        refine ⟨_, rfl, q _ g s3 ?_⟩
        rw [hT]
        exact hG
    · intro σ H3 Q Q' hq
      rintro ⟨y, h1, z, h2, p, ys, h3, h4, i, j, h5, h6, k, h7, h8⟩
      exact ⟨y, h1, z, h2, p, ys, h3, h4, i, j, h5, h6, k, h7, hq _ _ h8⟩
end
end Cx
/-! ## CxE1 -/
namespace Cx
open Oc (C)
open PySem PySem.Spec PyProof.Rows L2
/-! ### The end: what the top has written -/
/-- a def of the top -/
structure Top1 (K : PySem.W.Frag) (mg : Str → Option Value) (x : Str) (st : Stmt) (f : Addr) (fd : FuncData) : Prop where
  F : Fun K x x st f fd
  m : mg x = some (.ref f)
  k : PySem.W.keepIn K (.ref f) = true
/-- a method -/
structure Met1 (K : PySem.W.Frag) (C : Addr) (x qual : Str) (st : Stmt) (f : Addr) (fd : FuncData) : Prop where
  F : Fun K x qual st f fd
  m : Meth K C x f
theorem mk_top1 {K : PySem.W.Frag} {h : Heap} {mg : Str → Option Value} {x : Str} {st : Stmt} {f : Addr} (X : K.In h) (G : h.Ns mainGlobals mg) {oc : Value} {od an : Option Addr} {osl : Array (Option Value)} {kV doc pm cdv ct : Value}
    (a : PySem.W.nsIn K mainGlobals x = some (some (.ref f))) (l : K.lookup f = some ⟨oc, od, .func (PySem.W.fnOf x x (defArgs st) (defBody st) (defScope st) .none kV doc pm an cdv ct), osl⟩)
    (c : PySem.W.codeIn K cdv x = true) (k : PySem.W.keepIn K (.ref f) = true) : Top1 K mg x st f (PySem.W.fnOf x x (defArgs st) (defBody st) (defScope st) .none kV doc pm an cdv ct) := ⟨fun_mk l c k, PySem.W.mg_of X G a, k⟩
theorem mk_met1 {K : PySem.W.Frag} {x qual : Str} {st : Stmt} {C f : Addr} {oc : Value} {od an : Option Addr} {osl : Array (Option Value)} {kV doc pm cdv ct : Value}
    (a : PySem.W.findIn K (.ref C) x = some (some (.ref f))) (i : PySem.W.isFn K (.ref f) = true) (l : K.lookup f = some ⟨oc, od, .func (PySem.W.fnOf x qual (defArgs st) (defBody st) (defScope st) .none kV doc pm an cdv ct), osl⟩)
    (c : PySem.W.codeIn K cdv qual = true) (k : PySem.W.keepIn K (.ref f) = true) : Met1 K C x qual st f (PySem.W.fnOf x qual (defArgs st) (defBody st) (defScope st) .none kV doc pm an cdv ct) := ⟨fun_mk l c k, a, i, k⟩
theorem exm_mk {K : PySem.W.Frag} {A S : Addr} {b : Bool} (hb : PySem.W.subIn K (.ref S) (.type "BaseException") = some true) (hi : PySem.W.isClsIn K S = true) (ht : PySem.W.typeIn K (.ref S) = some (.type "type")) (hs : PySem.W.subIn K (.ref A) (.ref S) = some b) :
    PySem.W.exmOne K (.ref A) (.ref S) = some b := by
  unfold PySem.W.exmOne PySem.W.kitCls
  have hi' : (PySem.W.clsIn K S).isSome = true := hi
  simp [hb, ht, hi', hs]
theorem tup8 {K : PySem.W.Frag} {p : Addr} {oc : Value} {od : Option Addr} {n : Nat} {osl : Array (Option Value)} {t0 t1 t2 t3 t4 t5 t6 t7 : Tok} {a0 a1 a2 a3 a4 a5 a6 a7 : Nat} (hc : oc = .type "tuple")
    (l : K.lookup p = some ⟨oc, od, .seq #[.int a0 t0, .int a1 t1, .int a2 t2, .int a3 t3, .int a4 t4, .int a5 t5, .int a6 t6, .int a7 t7] n, osl⟩) (H : Hp) : SqT K H p (vn [a0, a1, a2, a3, a4, a5, a6, a7]) :=
  .inr ⟨_, _, _, l, hc, rfl, by show 8 ≤ sizeLine; decide, .cons ⟨_, rfl⟩ (.cons ⟨_, rfl⟩ (.cons ⟨_, rfl⟩ (.cons ⟨_, rfl⟩ (.cons ⟨_, rfl⟩ (.cons ⟨_, rfl⟩ (.cons ⟨_, rfl⟩ (.cons ⟨_, rfl⟩ .nil)))))))⟩
theorem int_of {K : PySem.W.Frag} {h : Heap} {mg : Str → Option Value} {x : Str} {i : Int} {t : Tok} (X : K.In h) (G : h.Ns mainGlobals mg) (a : PySem.W.nsIn K mainGlobals x = some (some (.int i t))) : ∃ u, mg x = some u ∧ RelV (.int i) u := ⟨_, PySem.W.mg_of X G a, t, rfl⟩
theorem exc_of {K : PySem.W.Frag} {h : Heap} {mg : Str → Option Value} {x : Str} {A : Addr} (X : K.In h) (G : h.Ns mainGlobals mg) (a : PySem.W.nsIn K mainGlobals x = some (some (.ref A)))
    (x1 : PySem.W.excIn K A [.type "ValueError", .type "Exception", .type "BaseException", .type "object"] "ValueError.__new__" = true) (k : PySem.W.keepIn K (.ref A) = true) (b : PySem.W.subIn K (.ref A) (.type "BaseException") = some true) (t : PySem.W.typeIn K (.ref A) = some (.type "type")) : ExcC K mg x A :=
  ⟨PySem.W.mg_of X G a, x1, k, b, t⟩
theorem all_ok {P : Program} {w : World} {K : PySem.W.Frag} {mg : Str → Option Value} {pP pC CN CA CT CM CU CK CR CS : Addr}
    {fHead fEnd fRead fStarts fAt fAtoms fFirst fRels fMembers fReported fIsSub fMayH fMayL fAnswers fCallEnd fCode fAnsOf fToRow fRInit fDemands fKInit fReadR fHaving fJoined fNamesOf fHavAtom fPermit fNeedsOf fObeying fSupp fPossible fSInit fBegins fLine fDrop fCan fUnder fModel fAgainst fNames fSpare fReadS fModelOf fKindsW fWith fCheck : Addr} {dHead dEnd dRead dStarts dAt dAtoms dFirst dRels dMembers dReported dIsSub dMayH dMayL dAnswers dCallEnd dCode dAnsOf dToRow dRInit dDemands dKInit dReadR dHaving dJoined dNamesOf dHavAtom dPermit dNeedsOf dObeying dSupp dPossible dSInit dBegins dLine dDrop dCan dUnder dModel dAgainst dNames dSpare dReadS dModelOf dKindsW dWith dCheck : FuncData}
    (T : TxA K mg pP pC CN) (TK : TxK K mg CK CR) (TS : TxS K mg CS CA CT CM) (TM : TxM K mg CN CA CT CM CU)
    (mkK : PySem.W.makesIn K CK = true) (mkR : PySem.W.makesIn K CR = true) (mkS : PySem.W.makesIn K CS = true) (kpK : PySem.W.keepIn K (.ref CK) = true) (kpR : PySem.W.keepIn K (.ref CR) = true) (kpS : PySem.W.keepIn K (.ref CS) = true)
    (hHead : Top1 K mg "head_length" sHead fHead dHead)
    (hEnd : Top1 K mg "concept_end" sEnd fEnd dEnd)
    (hRead : Top1 K mg "read_concepts" sRead fRead dRead)
    (hStarts : Top1 K mg "part_starts" sStarts fStarts dStarts)
    (hAt : Top1 K mg "concept_at" sAt fAt dAt)
    (hAtoms : Top1 K mg "atoms_of" sAtoms fAtoms dAtoms)
    (hFirst : Top1 K mg "first_kind" sFirst fFirst dFirst)
    (hRels : Top1 K mg "relations_of" sRels fRels dRels)
    (hMembers : Top1 K mg "members_from" sMembers fMembers dMembers)
    (hReported : Top1 K mg "reported_model" sReported fReported dReported)
    (hIsSub : Top1 K mg "is_subsumed" sIsSub fIsSub dIsSub)
    (hMayH : Top1 K mg "may_have" sMayH fMayH dMayH)
    (hMayL : Top1 K mg "may_lack" sMayL fMayL dMayL)
    (hAnswers : Top1 K mg "answers" sAnswers fAnswers dAnswers)
    (hCallEnd : Top1 K mg "call_end" sCallEnd fCallEnd dCallEnd)
    (hCode : Top1 K mg "answer_or_code" sCode fCode dCode)
    (hAnsOf : Top1 K mg "answer_of" sAnsOf fAnsOf dAnsOf)
    (hToRow : Top1 K mg "answer_to_row" sToRow fToRow dToRow)
    (hRInit : Met1 K CR "__init__" "Restriction.__init__" sRInit fRInit dRInit)
    (hDemands : Met1 K CR "demands" "Restriction.demands" sDemands fDemands dDemands)
    (hKInit : Met1 K CK "__init__" "Kinds.__init__" sKInit fKInit dKInit)
    (hReadR : Met1 K CK "read_restrictions" "Kinds.read_restrictions" sReadR fReadR dReadR)
    (hHaving : Met1 K CK "having" "Kinds.having" sHaving fHaving dHaving)
    (hJoined : Met1 K CK "joined" "Kinds.joined" sJoined fJoined dJoined)
    (hNamesOf : Met1 K CK "names_of" "Kinds.names_of" sNamesOf fNamesOf dNamesOf)
    (hHavAtom : Met1 K CK "having_atom" "Kinds.having_atom" sHavAtom fHavAtom dHavAtom)
    (hPermit : Met1 K CK "permitted" "Kinds.permitted" sPermit fPermit dPermit)
    (hNeedsOf : Met1 K CK "needs_of" "Kinds.needs_of" sNeedsOf fNeedsOf dNeedsOf)
    (hObeying : Met1 K CK "obeying" "Kinds.obeying" sObeying fObeying dObeying)
    (hSupp : Met1 K CK "supported" "Kinds.supported" sSupp fSupp dSupp)
    (hPossible : Met1 K CK "possible" "Kinds.possible" sPossible fPossible dPossible)
    (hSInit : Met1 K CS "__init__" "Session.__init__" sSInit fSInit dSInit)
    (hBegins : Met1 K CS "begins" "Session.begins" sBegins fBegins dBegins)
    (hLine : Met1 K CS "line" "Session.line" sLine fLine dLine)
    (hDrop : Met1 K CS "drop" "Session.drop" sDrop fDrop dDrop)
    (hCan : Met1 K CS "can" "Session.can" sCan fCan dCan)
    (hUnder : Met1 K CS "under" "Session.under" sUnder fUnder dUnder)
    (hModel : Met1 K CS "model" "Session.model" sModel fModel dModel)
    (hAgainst : Met1 K CS "against" "Session.against" sAgainst fAgainst dAgainst)
    (hNames : Met1 K CS "names" "Session.names" sNames fNames dNames)
    (hSpare : Met1 K CS "spare" "Session.spare" sSpare fSpare dSpare)
    (hReadS : Met1 K CS "read" "Session.read" sReadS fReadS dReadS)
    (hModelOf : Met1 K CS "model_of" "Session.model_of" sModelOf fModelOf dModelOf)
    (hKindsW : Met1 K CS "kinds_with" "Session.kinds_with" sKindsW fKindsW dKindsW)
    (hWith : Met1 K CS "with_axioms" "Session.with_axioms" sWith fWith dWith)
    (hCheck : Met1 K CS "check_atoms" "Session.check_atoms" sCheck fCheck dCheck)
    : (∀ (s : Shared) (us : List Value), us.length = (["calls"] : List Str).length → BindsTo s dAnswers ⟨us, []⟩ ((["calls"] : List Str).zip us)) ∧ ∀ base : Heap, FnOk P w K mg base CX0 14 fAnswers dAnswers ["calls"] (spAnswers K) := by
  have bHead : Binds K dHead ["numbers", "start"] [] := hHead.F.binds (ps := ["numbers", "start"]) fun _ _ _ _ _ _ us hl => match us, hl with | [_, _], _ => rfl
  have bEnd : Binds K dEnd ["numbers", "start"] [] := hEnd.F.binds (ps := ["numbers", "start"]) fun _ _ _ _ _ _ us hl => match us, hl with | [_, _], _ => rfl
  have bRead : Binds K dRead ["numbers", "wanted"] [] := hRead.F.binds (ps := ["numbers", "wanted"]) fun _ _ _ _ _ _ us hl => match us, hl with | [_, _], _ => rfl
  have bStarts : Binds K dStarts ["concept"] [] := hStarts.F.binds (ps := ["concept"]) fun _ _ _ _ _ _ us hl => match us, hl with | [_], _ => rfl
  have bAt : Binds K dAt ["concept", "start"] [] := hAt.F.binds (ps := ["concept", "start"]) fun _ _ _ _ _ _ us hl => match us, hl with | [_, _], _ => rfl
  have bAtoms : Binds K dAtoms ["concepts"] [] := hAtoms.F.binds (ps := ["concepts"]) fun _ _ _ _ _ _ us hl => match us, hl with | [_], _ => rfl
  have bFirst : Binds K dFirst ["group"] [] := hFirst.F.binds (ps := ["group"]) fun _ _ _ _ _ _ us hl => match us, hl with | [_], _ => rfl
  have bRels : Binds K dRels ["kinds", "possible", "kind"] [] := hRels.F.binds (ps := ["kinds", "possible", "kind"]) fun _ _ _ _ _ _ us hl => match us, hl with | [_, _, _], _ => rfl
  have bMembers : Binds K dMembers ["kinds", "possible", "first"] [] := hMembers.F.binds (ps := ["kinds", "possible", "first"]) fun _ _ _ _ _ _ us hl => match us, hl with | [_, _, _], _ => rfl
  have bReported : Binds K dReported ["kinds", "possible", "first"] [] := hReported.F.binds (ps := ["kinds", "possible", "first"]) fun _ _ _ _ _ _ us hl => match us, hl with | [_, _, _], _ => rfl
  have bIsSub : Binds K dIsSub ["kinds", "axioms", "concepts"] [] := hIsSub.F.binds (ps := ["kinds", "axioms", "concepts"]) fun _ _ _ _ _ _ us hl => match us, hl with | [_, _, _], _ => rfl
  have bMayH : Binds K dMayH ["kinds", "name"] [] := hMayH.F.binds (ps := ["kinds", "name"]) fun _ _ _ _ _ _ us hl => match us, hl with | [_, _], _ => rfl
  have bMayL : Binds K dMayL ["kinds", "name"] [] := hMayL.F.binds (ps := ["kinds", "name"]) fun _ _ _ _ _ _ us hl => match us, hl with | [_, _], _ => rfl
  have bAnswers : Binds K dAnswers ["calls"] [] := hAnswers.F.binds (ps := ["calls"]) fun _ _ _ _ _ _ us hl => match us, hl with | [_], _ => rfl
  have bCallEnd : Binds K dCallEnd ["calls", "start"] [] := hCallEnd.F.binds (ps := ["calls", "start"]) fun _ _ _ _ _ _ us hl => match us, hl with | [_, _], _ => rfl
  have bCode : Binds K dCode ["session", "call"] [] := hCode.F.binds (ps := ["session", "call"]) fun _ _ _ _ _ _ us hl => match us, hl with | [_, _], _ => rfl
  have bAnsOf : Binds K dAnsOf ["session", "call"] [] := hAnsOf.F.binds (ps := ["session", "call"]) fun _ _ _ _ _ _ us hl => match us, hl with | [_, _], _ => rfl
  have bToRow : Binds K dToRow ["session", "number", "row"] [] := hToRow.F.binds (ps := ["session", "number", "row"]) fun _ _ _ _ _ _ us hl => match us, hl with | [_, _, _], _ => rfl
  have bRInit : Binds K dRInit ["self", "role", "place", "demanding", "wanted"] [] := hRInit.F.binds (ps := ["self", "role", "place", "demanding", "wanted"]) fun _ _ _ _ _ _ us hl => match us, hl with | [_, _, _, _, _], _ => rfl
  have bDemands : Binds K dDemands ["self", "kind"] [] := hDemands.F.binds (ps := ["self", "kind"]) fun _ _ _ _ _ _ us hl => match us, hl with | [_, _], _ => rfl
  have bKInit : Binds K dKInit ["self", "concepts"] [] := hKInit.F.binds (ps := ["self", "concepts"]) fun _ _ _ _ _ _ us hl => match us, hl with | [_, _], _ => rfl
  have bReadR : Binds K dReadR ["self"] [] := hReadR.F.binds (ps := ["self"]) fun _ _ _ _ _ _ us hl => match us, hl with | [_], _ => rfl
  have bHaving : Binds K dHaving ["self", "concept"] [] := hHaving.F.binds (ps := ["self", "concept"]) fun _ _ _ _ _ _ us hl => match us, hl with | [_, _], _ => rfl
  have bJoined : Binds K dJoined ["self", "concept", "inner"] [] := hJoined.F.binds (ps := ["self", "concept", "inner"]) fun _ _ _ _ _ _ us hl => match us, hl with | [_, _, _], _ => rfl
  have bNamesOf : Binds K dNamesOf ["self", "kind"] [] := hNamesOf.F.binds (ps := ["self", "kind"]) fun _ _ _ _ _ _ us hl => match us, hl with | [_, _], _ => rfl
  have bHavAtom : Binds K dHavAtom ["self", "place"] [] := hHavAtom.F.binds (ps := ["self", "place"]) fun _ _ _ _ _ _ us hl => match us, hl with | [_, _], _ => rfl
  have bPermit : Binds K dPermit ["self", "kind", "role"] [] := hPermit.F.binds (ps := ["self", "kind", "role"]) fun _ _ _ _ _ _ us hl => match us, hl with | [_, _, _], _ => rfl
  have bNeedsOf : Binds K dNeedsOf ["self", "kind"] [] := hNeedsOf.F.binds (ps := ["self", "kind"]) fun _ _ _ _ _ _ us hl => match us, hl with | [_, _], _ => rfl
  have bObeying : Binds K dObeying ["self", "axioms"] [] := hObeying.F.binds (ps := ["self", "axioms"]) fun _ _ _ _ _ _ us hl => match us, hl with | [_, _], _ => rfl
  have bSupp : Binds K dSupp ["self", "group"] [] := hSupp.F.binds (ps := ["self", "group"]) fun _ _ _ _ _ _ us hl => match us, hl with | [_, _], _ => rfl
  have bPossible : Binds K dPossible ["self", "axioms"] [] := hPossible.F.binds (ps := ["self", "axioms"]) fun _ _ _ _ _ _ us hl => match us, hl with | [_, _], _ => rfl
  have bSInit : Binds K dSInit ["self"] [] := hSInit.F.binds (ps := ["self"]) fun _ _ _ _ _ _ us hl => match us, hl with | [_], _ => rfl
  have bBegins : Binds K dBegins ["self"] [] := hBegins.F.binds (ps := ["self"]) fun _ _ _ _ _ _ us hl => match us, hl with | [_], _ => rfl
  have bLine : Binds K dLine ["self", "numbers"] [] := hLine.F.binds (ps := ["self", "numbers"]) fun _ _ _ _ _ _ us hl => match us, hl with | [_, _], _ => rfl
  have bDrop : Binds K dDrop ["self", "index"] [] := hDrop.F.binds (ps := ["self", "index"]) fun _ _ _ _ _ _ us hl => match us, hl with | [_, _], _ => rfl
  have bCan : Binds K dCan ["self", "numbers"] [] := hCan.F.binds (ps := ["self", "numbers"]) fun _ _ _ _ _ _ us hl => match us, hl with | [_, _], _ => rfl
  have bUnder : Binds K dUnder ["self", "numbers"] [] := hUnder.F.binds (ps := ["self", "numbers"]) fun _ _ _ _ _ _ us hl => match us, hl with | [_, _], _ => rfl
  have bModel : Binds K dModel ["self", "numbers"] [] := hModel.F.binds (ps := ["self", "numbers"]) fun _ _ _ _ _ _ us hl => match us, hl with | [_, _], _ => rfl
  have bAgainst : Binds K dAgainst ["self", "numbers"] [] := hAgainst.F.binds (ps := ["self", "numbers"]) fun _ _ _ _ _ _ us hl => match us, hl with | [_, _], _ => rfl
  have bNames : Binds K dNames ["self"] [] := hNames.F.binds (ps := ["self"]) fun _ _ _ _ _ _ us hl => match us, hl with | [_], _ => rfl
  have bSpare : Binds K dSpare ["self"] [] := hSpare.F.binds (ps := ["self"]) fun _ _ _ _ _ _ us hl => match us, hl with | [_], _ => rfl
  have bReadS : Binds K dReadS ["self", "numbers", "wanted"] [] := hReadS.F.binds (ps := ["self", "numbers", "wanted"]) fun _ _ _ _ _ _ us hl => match us, hl with | [_, _, _], _ => rfl
  have bModelOf : Binds K dModelOf ["self", "concept"] [] := hModelOf.F.binds (ps := ["self", "concept"]) fun _ _ _ _ _ _ us hl => match us, hl with | [_, _], _ => rfl
  have bKindsW : Binds K dKindsW ["self", "concepts"] [] := hKindsW.F.binds (ps := ["self", "concepts"]) fun _ _ _ _ _ _ us hl => match us, hl with | [_, _], _ => rfl
  have bWith : Binds K dWith ["self", "concepts"] [] := hWith.F.binds (ps := ["self", "concepts"]) fun _ _ _ _ _ _ us hl => match us, hl with | [_, _], _ => rfl
  have bCheck : Binds K dCheck ["self", "concepts"] [] := hCheck.F.binds (ps := ["self", "concepts"]) fun _ _ _ _ _ _ us hl => match us, hl with | [_, _], _ => rfl
  have mkK' : Mk K CK fKInit := ⟨mkK, hKInit.m.at_, hKInit.m.fn, kpK⟩
  have mkR' : Mk K CR fRInit := ⟨mkR, hRInit.m.at_, hRInit.m.fn, kpR⟩
  have mkS' : Mk K CS fSInit := ⟨mkS, hSInit.m.at_, hSInit.m.fn, kpS⟩
  refine ⟨fun s us hu => ?_, fun base => ?_⟩
  · obtain ⟨_, _, _, _, _, _, _, _, _, rfl, _, _⟩ := hAnswers.F.ex
    match us, hu with
    | [_], _ => exact .of_eq rfl
  have gHead : FnOk P w K mg base (L2.CX P w) 1 fHead dHead _ _ := ok_head hHead.F T
  have gEnd : FnOk P w K mg base (L2.CX P w) 2 fEnd dEnd _ _ := ok_end hEnd.F T gHead bHead hHead.m hHead.k
  have gRead : FnOk P w K mg base (L2.CX P w) 3 fRead dRead _ _ := ok_read hRead.F T gEnd bEnd hEnd.m hEnd.k
  have gStarts : FnOk P w K mg base CX0 2 fStarts dStarts _ _ := ok_starts hStarts.F T gHead bHead hHead.m hHead.k
  have gAt : FnOk P w K mg base CX0 3 fAt dAt _ _ := ok_at hAt.F gEnd bEnd hEnd.m hEnd.k
  have gAtoms : FnOk P w K mg base CX0 4 fAtoms dAtoms _ _ := ok_atoms hAtoms.F T gStarts bStarts hStarts.m hStarts.k gAt bAt hAt.m hAt.k
  have gFirst : FnOk P w K mg base CX0 1 fFirst dFirst _ _ := ok_first hFirst.F
  have gRInit : FnOk P w K mg base CX0 1 fRInit dRInit _ _ := ok_rinit hRInit.F TK
  have gDemands : FnOk P w K mg base CX0 1 fDemands dDemands _ _ := ok_demands hDemands.F TK
  have gHavAtom : FnOk P w K mg base CX0 1 fHavAtom dHavAtom _ _ := ok_havatom hHavAtom.F TK
  have gJoined : FnOk P w K mg base CX0 2 fJoined dJoined _ _ := ok_joined hJoined.F TK gHavAtom bHavAtom hHavAtom.m
  have gHaving : FnOk P w K mg base CX0 4 fHaving dHaving _ _ := ok_having hHaving.F T TK gStarts bStarts hStarts.m hStarts.k gAt bAt hAt.m hAt.k gJoined bJoined hJoined.m
  have gReadR : FnOk P w K mg base CX0 5 fReadR dReadR _ _ := ok_readr hReadR.F T TK gHaving bHaving hHaving.m mkR' gRInit bRInit
  have gPermit : FnOk P w K mg base CX0 2 fPermit dPermit _ _ := ok_permit hPermit.F TK gDemands bDemands hDemands.m
  have gNeedsOf : FnOk P w K mg base CX0 3 fNeedsOf dNeedsOf _ _ := ok_needsof hNeedsOf.F TK gDemands bDemands hDemands.m gPermit bPermit hPermit.m
  have gKInit : FnOk P w K mg base CX0 6 fKInit dKInit _ _ := ok_kinit hKInit.F T TK gAtoms bAtoms hAtoms.m hAtoms.k gReadR bReadR hReadR.m gNeedsOf bNeedsOf hNeedsOf.m
  have gObeying : FnOk P w K mg base CX0 5 fObeying dObeying _ _ := ok_obeying hObeying.F TK gHaving bHaving hHaving.m
  have gSupp : FnOk P w K mg base CX0 1 fSupp dSupp _ _ := ok_supp hSupp.F TK
  have gPossible : FnOk P w K mg base CX0 6 fPossible dPossible _ _ := ok_possible hPossible.F TK gObeying bObeying hObeying.m gSupp bSupp hSupp.m
  have gNamesOf : FnOk P w K mg base CX0 1 fNamesOf dNamesOf _ _ := ok_namesof hNamesOf.F T TK
  have gRels : FnOk P w K mg base CX0 2 fRels dRels _ _ := ok_rels hRels.F TK gFirst bFirst hFirst.m hFirst.k
  have gMembers : FnOk P w K mg base CX0 3 fMembers dMembers _ _ := ok_members hMembers.F T TK gRels bRels hRels.m hRels.k
  have gReported : FnOk P w K mg base CX0 4 fReported dReported _ _ := ok_reported hReported.F T TK gMembers bMembers hMembers.m hMembers.k gRels bRels hRels.m hRels.k gNamesOf bNamesOf hNamesOf.m
  have gWith : FnOk P w K mg base CX0 1 fWith dWith _ _ := ok_with hWith.F TS
  have gKindsW : FnOk P w K mg base CX0 8 fKindsW dKindsW _ _ := ok_kindsw hKindsW.F TS TK gWith bWith hWith.m mkK' gKInit bKInit
  have gCheck : FnOk P w K mg base (L2.CX P w) 5 fCheck dCheck _ _ := ok_check hCheck.F T TS gWith bWith hWith.m gAtoms bAtoms hAtoms.m hAtoms.k
  have gReadS : FnOk P w K mg base (L2.CX P w) 6 fReadS dReadS _ _ := ok_reads hReadS.F TS gRead bRead hRead.m hRead.k gCheck bCheck hCheck.m
  have gIsSub : FnOk P w K mg base CX0 7 fIsSub dIsSub _ _ := ok_issub hIsSub.F TK gPossible bPossible hPossible.m gHaving bHaving hHaving.m
  have gMayH : FnOk P w K mg base CX0 5 fMayH dMayH _ _ := ok_mayh hMayH.F T TK gHaving bHaving hHaving.m
  have gMayL : FnOk P w K mg base CX0 5 fMayL dMayL _ _ := ok_mayl hMayL.F T TK gHaving bHaving hHaving.m
  have gSInit : FnOk P w K mg base CX0 1 fSInit dSInit _ _ := ok_sinit hSInit.F TS
  have gBegins : FnOk P w K mg base CX0 1 fBegins dBegins _ _ := ok_begins hBegins.F TS
  have gLine : FnOk P w K mg base (L2.CX P w) 6 fLine dLine _ (spRow K CS CN CA CM CT .line) := ok_line hLine.F T TS gRead bRead hRead.m hRead.k gCheck bCheck hCheck.m
  have gDrop : FnOk P w K mg base (L2.CX P w) 1 fDrop dDrop _ (spDrop CS CN CA CM CT) := ok_drop hDrop.F T TS
  have gCan : FnOk P w K mg base (L2.CX P w) 9 fCan dCan _ (spRow K CS CN CA CM CT .can) := ok_can hCan.F T TK TS gReadS bReadS hReadS.m gKindsW bKindsW hKindsW.m gPossible bPossible hPossible.m gHaving bHaving hHaving.m
  have gUnder : FnOk P w K mg base (L2.CX P w) 9 fUnder dUnder _ (spRow K CS CN CA CM CT .under) := ok_under hUnder.F T TK TS gReadS bReadS hReadS.m gKindsW bKindsW hKindsW.m gIsSub bIsSub hIsSub.m hIsSub.k
  have gModelOf : FnOk P w K mg base (L2.CX P w) 9 fModelOf dModelOf _ _ := ok_modelof hModelOf.F T TK TS gKindsW bKindsW hKindsW.m gPossible bPossible hPossible.m gHaving bHaving hHaving.m gReported bReported hReported.m hReported.k gFirst bFirst hFirst.m hFirst.k
  have gModel : FnOk P w K mg base (L2.CX P w) 10 fModel dModel _ (spRow K CS CN CA CM CT .model) := ok_model hModel.F T TS gReadS bReadS hReadS.m gModelOf bModelOf hModelOf.m
  have gAgainst : FnOk P w K mg base (L2.CX P w) 10 fAgainst dAgainst _ (spRow K CS CN CA CM CT .against) := ok_against hAgainst.F T TK TS gReadS bReadS hReadS.m gModelOf bModelOf hModelOf.m
  have gNames : FnOk P w K mg base CX0 9 fNames dNames _ _ := ok_names hNames.F T TK TS gKindsW bKindsW hKindsW.m gPossible bPossible hPossible.m gMayH bMayH hMayH.m hMayH.k gMayL bMayL hMayL.m hMayL.k
  have gSpare : FnOk P w K mg base CX0 9 fSpare dSpare _ _ := ok_spare hSpare.F T TK TS gKindsW bKindsW hKindsW.m gIsSub bIsSub hIsSub.m hIsSub.k
  have gToRow : FnOk P w K mg base (L2.CX P w) 11 fToRow dToRow _ _ := ok_torow hToRow.F TS TM gLine bLine hLine.m gCan bCan hCan.m gUnder bUnder hUnder.m gModel bModel hModel.m gAgainst bAgainst hAgainst.m
  have gAnsOf : FnOk P w K mg base (L2.CX P w) 12 fAnsOf dAnsOf _ _ := ok_ansof hAnsOf.F TS TM gToRow bToRow hToRow.m hToRow.k gBegins bBegins hBegins.m gDrop bDrop hDrop.m gNames bNames hNames.m gSpare bSpare hSpare.m
  have gCode : FnOk P w K mg base CX0 13 fCode dCode _ _ := ok_code hCode.F T TS TM gAnsOf bAnsOf hAnsOf.m hAnsOf.k
  have gCallEnd : FnOk P w K mg base (L2.CX P w) 1 fCallEnd dCallEnd _ _ := ok_callend hCallEnd.F TM
  exact ok_answers hAnswers.F T TS mkS' gSInit bSInit gCallEnd bCallEnd hCallEnd.m hCallEnd.k gCode bCode hCode.m hCode.k
end Cx
/-! ## CxE2 -/
namespace Cx
open Oc (C)
open PySem PySem.Spec PyProof.Rows L2
theorem with_top1 {K : PySem.W.Frag} {h : Heap} {mg : Str → Option Value} {R : Prop} (X : K.In h) (G : h.Ns mainGlobals mg) {x : Str} {st : Stmt} {f : Addr} {oc : Value} {od an : Option Addr} {osl : Array (Option Value)} {kV doc pm cdv ct : Value}
    (a : PySem.W.nsIn K mainGlobals x = some (some (.ref f))) (l : K.lookup f = some ⟨oc, od, .func (PySem.W.fnOf x x (defArgs st) (defBody st) (defScope st) .none kV doc pm an cdv ct), osl⟩)
    (c : PySem.W.codeIn K cdv x = true) (k : PySem.W.keepIn K (.ref f) = true) (go : ∀ f fd, Top1 K mg x st f fd → R) : R := go _ _ (mk_top1 X G a l c k)
theorem with_int {K : PySem.W.Frag} {h : Heap} {mg : Str → Option Value} {R : Prop} (X : K.In h) (G : h.Ns mainGlobals mg) {x : Str} {i : Int} {t : Tok} (a : PySem.W.nsIn K mainGlobals x = some (some (.int i t))) (go : (∃ u, mg x = some u ∧ RelV (.int i) u) → R) : R := go (int_of X G a)
theorem with_none {K : PySem.W.Frag} {h : Heap} {mg : Str → Option Value} {R : Prop} (X : K.In h) (G : h.Ns mainGlobals mg) {x : Str} (a : PySem.W.nsIn K mainGlobals x = some none) (go : mg x = none → R) : R := go (PySem.W.mg_none_of X G a)
theorem with_tup {K : PySem.W.Frag} {h : Heap} {mg : Str → Option Value} {R : Prop} (X : K.In h) (G : h.Ns mainGlobals mg) {x : Str} {p : Addr} {oc : Value} {od : Option Addr} {n : Nat} {osl : Array (Option Value)} {t0 t1 t2 t3 t4 t5 t6 t7 : Tok} {a0 a1 a2 a3 a4 a5 a6 a7 : Nat}
    (a : PySem.W.nsIn K mainGlobals x = some (some (.ref p))) (l : K.lookup p = some ⟨oc, od, .seq #[.int a0 t0, .int a1 t1, .int a2 t2, .int a3 t3, .int a4 t4, .int a5 t5, .int a6 t6, .int a7 t7] n, osl⟩) (hc : oc = .type "tuple")
    (go : ∀ p, mg x = some (.ref p) → (∀ H, SqT K H p (vn [a0, a1, a2, a3, a4, a5, a6, a7])) → R) : R := go _ (PySem.W.mg_of X G a) (tup8 hc l)
theorem with_exc {K : PySem.W.Frag} {h : Heap} {mg : Str → Option Value} {R : Prop} (X : K.In h) (G : h.Ns mainGlobals mg) {CN CA CT CM CU : Addr}
    (aCN : PySem.W.nsIn K mainGlobals "NotConcepts" = some (some (.ref CN))) (xCN : PySem.W.excIn K CN [.type "ValueError", .type "Exception", .type "BaseException", .type "object"] "ValueError.__new__" = true) (kCN : PySem.W.keepIn K (.ref CN) = true) (bCN : PySem.W.subIn K (.ref CN) (.type "BaseException") = some true) (tCN : PySem.W.typeIn K (.ref CN) = some (.type "type")) (iCN : PySem.W.isClsIn K CN = true)
    (aCA : PySem.W.nsIn K mainGlobals "NoSuchAxiom" = some (some (.ref CA))) (xCA : PySem.W.excIn K CA [.type "ValueError", .type "Exception", .type "BaseException", .type "object"] "ValueError.__new__" = true) (kCA : PySem.W.keepIn K (.ref CA) = true) (bCA : PySem.W.subIn K (.ref CA) (.type "BaseException") = some true) (tCA : PySem.W.typeIn K (.ref CA) = some (.type "type")) (iCA : PySem.W.isClsIn K CA = true)
    (aCT : PySem.W.nsIn K mainGlobals "TooMany" = some (some (.ref CT))) (xCT : PySem.W.excIn K CT [.type "ValueError", .type "Exception", .type "BaseException", .type "object"] "ValueError.__new__" = true) (kCT : PySem.W.keepIn K (.ref CT) = true) (bCT : PySem.W.subIn K (.ref CT) (.type "BaseException") = some true) (tCT : PySem.W.typeIn K (.ref CT) = some (.type "type")) (iCT : PySem.W.isClsIn K CT = true)
    (aCM : PySem.W.nsIn K mainGlobals "NoModel" = some (some (.ref CM))) (xCM : PySem.W.excIn K CM [.type "ValueError", .type "Exception", .type "BaseException", .type "object"] "ValueError.__new__" = true) (kCM : PySem.W.keepIn K (.ref CM) = true) (bCM : PySem.W.subIn K (.ref CM) (.type "BaseException") = some true) (tCM : PySem.W.typeIn K (.ref CM) = some (.type "type")) (iCM : PySem.W.isClsIn K CM = true)
    (aCU : PySem.W.nsIn K mainGlobals "UnknownCall" = some (some (.ref CU))) (xCU : PySem.W.excIn K CU [.type "ValueError", .type "Exception", .type "BaseException", .type "object"] "ValueError.__new__" = true) (kCU : PySem.W.keepIn K (.ref CU) = true) (bCU : PySem.W.subIn K (.ref CU) (.type "BaseException") = some true) (tCU : PySem.W.typeIn K (.ref CU) = some (.type "type")) (iCU : PySem.W.isClsIn K CU = true)
    (sCNCN : PySem.W.subIn K (.ref CN) (.ref CN) = some true)
    (sCACN : PySem.W.subIn K (.ref CA) (.ref CN) = some false)
    (sCACA : PySem.W.subIn K (.ref CA) (.ref CA) = some true)
    (sCMCN : PySem.W.subIn K (.ref CM) (.ref CN) = some false)
    (sCMCA : PySem.W.subIn K (.ref CM) (.ref CA) = some false)
    (sCMCM : PySem.W.subIn K (.ref CM) (.ref CM) = some true)
    (sCTCN : PySem.W.subIn K (.ref CT) (.ref CN) = some false)
    (sCTCA : PySem.W.subIn K (.ref CT) (.ref CA) = some false)
    (sCTCM : PySem.W.subIn K (.ref CT) (.ref CM) = some false)
    (sCTCT : PySem.W.subIn K (.ref CT) (.ref CT) = some true)
    (go : ∀ CN CA CT CM CU : Addr, ExcC K mg "NotConcepts" CN → ExcC K mg "NoSuchAxiom" CA → ExcC K mg "TooMany" CT → ExcC K mg "NoModel" CM → ExcC K mg "UnknownCall" CU → PySem.W.exmOne K (.ref CN) (.ref CN) = some true → PySem.W.exmOne K (.ref CA) (.ref CN) = some false → PySem.W.exmOne K (.ref CA) (.ref CA) = some true → PySem.W.exmOne K (.ref CM) (.ref CN) = some false → PySem.W.exmOne K (.ref CM) (.ref CA) = some false → PySem.W.exmOne K (.ref CM) (.ref CM) = some true → PySem.W.exmOne K (.ref CT) (.ref CN) = some false → PySem.W.exmOne K (.ref CT) (.ref CA) = some false → PySem.W.exmOne K (.ref CT) (.ref CM) = some false → PySem.W.exmOne K (.ref CT) (.ref CT) = some true → R) : R :=
  go CN CA CT CM CU (exc_of X G aCN xCN kCN bCN tCN) (exc_of X G aCA xCA kCA bCA tCA) (exc_of X G aCT xCT kCT bCT tCT) (exc_of X G aCM xCM kCM bCM tCM) (exc_of X G aCU xCU kCU bCU tCU) (exm_mk bCN iCN tCN sCNCN) (exm_mk bCN iCN tCN sCACN) (exm_mk bCA iCA tCA sCACA) (exm_mk bCN iCN tCN sCMCN) (exm_mk bCA iCA tCA sCMCA) (exm_mk bCM iCM tCM sCMCM) (exm_mk bCN iCN tCN sCTCN) (exm_mk bCA iCA tCA sCTCA) (exm_mk bCM iCM tCM sCTCM) (exm_mk bCT iCT tCT sCTCT)
theorem with_clsR {K : PySem.W.Frag} {h : Heap} {mg : Str → Option Value} {R : Prop} (X : K.In h) (G : h.Ns mainGlobals mg) {CR f0 f1 : Addr}
    {od0 an0 od1 an1 : Option Addr} {sl0 sl1 : Array (Option Value)} {oc0 kV0 doc0 pm0 cd0 ct0 oc1 kV1 doc1 pm1 cd1 ct1 : Value}
    (a : PySem.W.nsIn K mainGlobals "Restriction" = some (some (.ref CR))) (pg : PySem.W.plainGet K CR Str.empty = true) (hd : PySem.W.hasDictIn K CR = true) (po : PySem.W.plainOver K CR = true) (sa : PySem.W.findIn K (.ref CR) "__setattr__" = some (some (.builtin "object.__setattr__"))) (mk : PySem.W.makesIn K CR = true) (kc : PySem.W.keepIn K (.ref CR) = true)
    (n_role : PySem.W.findIn K (.ref CR) "role" = some none)
    (n_place : PySem.W.findIn K (.ref CR) "place" = some none)
    (n_demanding : PySem.W.findIn K (.ref CR) "demanding" = some none)
    (n_wanted : PySem.W.findIn K (.ref CR) "wanted" = some none)
    (a0 : PySem.W.findIn K (.ref CR) "__init__" = some (some (.ref f0))) (i0 : PySem.W.isFn K (.ref f0) = true) (l0 : K.lookup f0 = some ⟨oc0, od0, .func (PySem.W.fnOf "__init__" "Restriction.__init__" (defArgs sRInit) (defBody sRInit) (defScope sRInit) .none kV0 doc0 pm0 an0 cd0 ct0), sl0⟩) (c0 : PySem.W.codeIn K cd0 "Restriction.__init__" = true) (k0 : PySem.W.keepIn K (.ref f0) = true)
    (a1 : PySem.W.findIn K (.ref CR) "demands" = some (some (.ref f1))) (i1 : PySem.W.isFn K (.ref f1) = true) (l1 : K.lookup f1 = some ⟨oc1, od1, .func (PySem.W.fnOf "demands" "Restriction.demands" (defArgs sDemands) (defBody sDemands) (defScope sDemands) .none kV1 doc1 pm1 an1 cd1 ct1), sl1⟩) (c1 : PySem.W.codeIn K cd1 "Restriction.demands" = true) (k1 : PySem.W.keepIn K (.ref f1) = true)
    (go : ∀ CR : Addr, mg "Restriction" = some (.ref CR) → Cls K CR → PySem.W.makesIn K CR = true → PySem.W.keepIn K (.ref CR) = true → NoAttr K CR "role" → NoAttr K CR "place" → NoAttr K CR "demanding" → NoAttr K CR "wanted" → (∃ f fd, Met1 K CR "__init__" "Restriction.__init__" sRInit f fd) → (∃ f fd, Met1 K CR "demands" "Restriction.demands" sDemands f fd) → R) : R :=
  go CR (PySem.W.mg_of X G a) ⟨pg, hd, po, sa⟩ mk kc n_role n_place n_demanding n_wanted ⟨_, _, mk_met1 a0 i0 l0 c0 k0⟩ ⟨_, _, mk_met1 a1 i1 l1 c1 k1⟩
theorem with_clsK {K : PySem.W.Frag} {h : Heap} {mg : Str → Option Value} {R : Prop} (X : K.In h) (G : h.Ns mainGlobals mg) {CK f0 f1 f2 f3 f4 f5 f6 f7 f8 f9 f10 : Addr}
    {od0 an0 od1 an1 od2 an2 od3 an3 od4 an4 od5 an5 od6 an6 od7 an7 od8 an8 od9 an9 od10 an10 : Option Addr} {sl0 sl1 sl2 sl3 sl4 sl5 sl6 sl7 sl8 sl9 sl10 : Array (Option Value)} {oc0 kV0 doc0 pm0 cd0 ct0 oc1 kV1 doc1 pm1 cd1 ct1 oc2 kV2 doc2 pm2 cd2 ct2 oc3 kV3 doc3 pm3 cd3 ct3 oc4 kV4 doc4 pm4 cd4 ct4 oc5 kV5 doc5 pm5 cd5 ct5 oc6 kV6 doc6 pm6 cd6 ct6 oc7 kV7 doc7 pm7 cd7 ct7 oc8 kV8 doc8 pm8 cd8 ct8 oc9 kV9 doc9 pm9 cd9 ct9 oc10 kV10 doc10 pm10 cd10 ct10 : Value}
    (a : PySem.W.nsIn K mainGlobals "Kinds" = some (some (.ref CK))) (pg : PySem.W.plainGet K CK Str.empty = true) (hd : PySem.W.hasDictIn K CK = true) (po : PySem.W.plainOver K CK = true) (sa : PySem.W.findIn K (.ref CK) "__setattr__" = some (some (.builtin "object.__setattr__"))) (mk : PySem.W.makesIn K CK = true) (kc : PySem.W.keepIn K (.ref CK) = true)
    (n_atoms : PySem.W.findIn K (.ref CK) "atoms" = some none)
    (n_total : PySem.W.findIn K (.ref CK) "total" = some none)
    (n_every : PySem.W.findIn K (.ref CK) "every" = some none)
    (n_restrictions : PySem.W.findIn K (.ref CK) "restrictions" = some none)
    (n_needs : PySem.W.findIn K (.ref CK) "needs" = some none)
    (a0 : PySem.W.findIn K (.ref CK) "__init__" = some (some (.ref f0))) (i0 : PySem.W.isFn K (.ref f0) = true) (l0 : K.lookup f0 = some ⟨oc0, od0, .func (PySem.W.fnOf "__init__" "Kinds.__init__" (defArgs sKInit) (defBody sKInit) (defScope sKInit) .none kV0 doc0 pm0 an0 cd0 ct0), sl0⟩) (c0 : PySem.W.codeIn K cd0 "Kinds.__init__" = true) (k0 : PySem.W.keepIn K (.ref f0) = true)
    (a1 : PySem.W.findIn K (.ref CK) "read_restrictions" = some (some (.ref f1))) (i1 : PySem.W.isFn K (.ref f1) = true) (l1 : K.lookup f1 = some ⟨oc1, od1, .func (PySem.W.fnOf "read_restrictions" "Kinds.read_restrictions" (defArgs sReadR) (defBody sReadR) (defScope sReadR) .none kV1 doc1 pm1 an1 cd1 ct1), sl1⟩) (c1 : PySem.W.codeIn K cd1 "Kinds.read_restrictions" = true) (k1 : PySem.W.keepIn K (.ref f1) = true)
    (a2 : PySem.W.findIn K (.ref CK) "having" = some (some (.ref f2))) (i2 : PySem.W.isFn K (.ref f2) = true) (l2 : K.lookup f2 = some ⟨oc2, od2, .func (PySem.W.fnOf "having" "Kinds.having" (defArgs sHaving) (defBody sHaving) (defScope sHaving) .none kV2 doc2 pm2 an2 cd2 ct2), sl2⟩) (c2 : PySem.W.codeIn K cd2 "Kinds.having" = true) (k2 : PySem.W.keepIn K (.ref f2) = true)
    (a3 : PySem.W.findIn K (.ref CK) "joined" = some (some (.ref f3))) (i3 : PySem.W.isFn K (.ref f3) = true) (l3 : K.lookup f3 = some ⟨oc3, od3, .func (PySem.W.fnOf "joined" "Kinds.joined" (defArgs sJoined) (defBody sJoined) (defScope sJoined) .none kV3 doc3 pm3 an3 cd3 ct3), sl3⟩) (c3 : PySem.W.codeIn K cd3 "Kinds.joined" = true) (k3 : PySem.W.keepIn K (.ref f3) = true)
    (a4 : PySem.W.findIn K (.ref CK) "names_of" = some (some (.ref f4))) (i4 : PySem.W.isFn K (.ref f4) = true) (l4 : K.lookup f4 = some ⟨oc4, od4, .func (PySem.W.fnOf "names_of" "Kinds.names_of" (defArgs sNamesOf) (defBody sNamesOf) (defScope sNamesOf) .none kV4 doc4 pm4 an4 cd4 ct4), sl4⟩) (c4 : PySem.W.codeIn K cd4 "Kinds.names_of" = true) (k4 : PySem.W.keepIn K (.ref f4) = true)
    (a5 : PySem.W.findIn K (.ref CK) "having_atom" = some (some (.ref f5))) (i5 : PySem.W.isFn K (.ref f5) = true) (l5 : K.lookup f5 = some ⟨oc5, od5, .func (PySem.W.fnOf "having_atom" "Kinds.having_atom" (defArgs sHavAtom) (defBody sHavAtom) (defScope sHavAtom) .none kV5 doc5 pm5 an5 cd5 ct5), sl5⟩) (c5 : PySem.W.codeIn K cd5 "Kinds.having_atom" = true) (k5 : PySem.W.keepIn K (.ref f5) = true)
    (a6 : PySem.W.findIn K (.ref CK) "permitted" = some (some (.ref f6))) (i6 : PySem.W.isFn K (.ref f6) = true) (l6 : K.lookup f6 = some ⟨oc6, od6, .func (PySem.W.fnOf "permitted" "Kinds.permitted" (defArgs sPermit) (defBody sPermit) (defScope sPermit) .none kV6 doc6 pm6 an6 cd6 ct6), sl6⟩) (c6 : PySem.W.codeIn K cd6 "Kinds.permitted" = true) (k6 : PySem.W.keepIn K (.ref f6) = true)
    (a7 : PySem.W.findIn K (.ref CK) "needs_of" = some (some (.ref f7))) (i7 : PySem.W.isFn K (.ref f7) = true) (l7 : K.lookup f7 = some ⟨oc7, od7, .func (PySem.W.fnOf "needs_of" "Kinds.needs_of" (defArgs sNeedsOf) (defBody sNeedsOf) (defScope sNeedsOf) .none kV7 doc7 pm7 an7 cd7 ct7), sl7⟩) (c7 : PySem.W.codeIn K cd7 "Kinds.needs_of" = true) (k7 : PySem.W.keepIn K (.ref f7) = true)
    (a8 : PySem.W.findIn K (.ref CK) "obeying" = some (some (.ref f8))) (i8 : PySem.W.isFn K (.ref f8) = true) (l8 : K.lookup f8 = some ⟨oc8, od8, .func (PySem.W.fnOf "obeying" "Kinds.obeying" (defArgs sObeying) (defBody sObeying) (defScope sObeying) .none kV8 doc8 pm8 an8 cd8 ct8), sl8⟩) (c8 : PySem.W.codeIn K cd8 "Kinds.obeying" = true) (k8 : PySem.W.keepIn K (.ref f8) = true)
    (a9 : PySem.W.findIn K (.ref CK) "supported" = some (some (.ref f9))) (i9 : PySem.W.isFn K (.ref f9) = true) (l9 : K.lookup f9 = some ⟨oc9, od9, .func (PySem.W.fnOf "supported" "Kinds.supported" (defArgs sSupp) (defBody sSupp) (defScope sSupp) .none kV9 doc9 pm9 an9 cd9 ct9), sl9⟩) (c9 : PySem.W.codeIn K cd9 "Kinds.supported" = true) (k9 : PySem.W.keepIn K (.ref f9) = true)
    (a10 : PySem.W.findIn K (.ref CK) "possible" = some (some (.ref f10))) (i10 : PySem.W.isFn K (.ref f10) = true) (l10 : K.lookup f10 = some ⟨oc10, od10, .func (PySem.W.fnOf "possible" "Kinds.possible" (defArgs sPossible) (defBody sPossible) (defScope sPossible) .none kV10 doc10 pm10 an10 cd10 ct10), sl10⟩) (c10 : PySem.W.codeIn K cd10 "Kinds.possible" = true) (k10 : PySem.W.keepIn K (.ref f10) = true)
    (go : ∀ CK : Addr, mg "Kinds" = some (.ref CK) → Cls K CK → PySem.W.makesIn K CK = true → PySem.W.keepIn K (.ref CK) = true → NoAttr K CK "atoms" → NoAttr K CK "total" → NoAttr K CK "every" → NoAttr K CK "restrictions" → NoAttr K CK "needs" → (∃ f fd, Met1 K CK "__init__" "Kinds.__init__" sKInit f fd) → (∃ f fd, Met1 K CK "read_restrictions" "Kinds.read_restrictions" sReadR f fd) → (∃ f fd, Met1 K CK "having" "Kinds.having" sHaving f fd) → (∃ f fd, Met1 K CK "joined" "Kinds.joined" sJoined f fd) → (∃ f fd, Met1 K CK "names_of" "Kinds.names_of" sNamesOf f fd) → (∃ f fd, Met1 K CK "having_atom" "Kinds.having_atom" sHavAtom f fd) → (∃ f fd, Met1 K CK "permitted" "Kinds.permitted" sPermit f fd) → (∃ f fd, Met1 K CK "needs_of" "Kinds.needs_of" sNeedsOf f fd) → (∃ f fd, Met1 K CK "obeying" "Kinds.obeying" sObeying f fd) → (∃ f fd, Met1 K CK "supported" "Kinds.supported" sSupp f fd) → (∃ f fd, Met1 K CK "possible" "Kinds.possible" sPossible f fd) → R) : R :=
  go CK (PySem.W.mg_of X G a) ⟨pg, hd, po, sa⟩ mk kc n_atoms n_total n_every n_restrictions n_needs ⟨_, _, mk_met1 a0 i0 l0 c0 k0⟩ ⟨_, _, mk_met1 a1 i1 l1 c1 k1⟩ ⟨_, _, mk_met1 a2 i2 l2 c2 k2⟩ ⟨_, _, mk_met1 a3 i3 l3 c3 k3⟩ ⟨_, _, mk_met1 a4 i4 l4 c4 k4⟩ ⟨_, _, mk_met1 a5 i5 l5 c5 k5⟩ ⟨_, _, mk_met1 a6 i6 l6 c6 k6⟩ ⟨_, _, mk_met1 a7 i7 l7 c7 k7⟩ ⟨_, _, mk_met1 a8 i8 l8 c8 k8⟩ ⟨_, _, mk_met1 a9 i9 l9 c9 k9⟩ ⟨_, _, mk_met1 a10 i10 l10 c10 k10⟩
theorem with_clsS {K : PySem.W.Frag} {h : Heap} {mg : Str → Option Value} {R : Prop} (X : K.In h) (G : h.Ns mainGlobals mg) {CS f0 f1 f2 f3 f4 f5 f6 f7 f8 f9 f10 f11 f12 f13 f14 : Addr}
    {od0 an0 od1 an1 od2 an2 od3 an3 od4 an4 od5 an5 od6 an6 od7 an7 od8 an8 od9 an9 od10 an10 od11 an11 od12 an12 od13 an13 od14 an14 : Option Addr} {sl0 sl1 sl2 sl3 sl4 sl5 sl6 sl7 sl8 sl9 sl10 sl11 sl12 sl13 sl14 : Array (Option Value)} {oc0 kV0 doc0 pm0 cd0 ct0 oc1 kV1 doc1 pm1 cd1 ct1 oc2 kV2 doc2 pm2 cd2 ct2 oc3 kV3 doc3 pm3 cd3 ct3 oc4 kV4 doc4 pm4 cd4 ct4 oc5 kV5 doc5 pm5 cd5 ct5 oc6 kV6 doc6 pm6 cd6 ct6 oc7 kV7 doc7 pm7 cd7 ct7 oc8 kV8 doc8 pm8 cd8 ct8 oc9 kV9 doc9 pm9 cd9 ct9 oc10 kV10 doc10 pm10 cd10 ct10 oc11 kV11 doc11 pm11 cd11 ct11 oc12 kV12 doc12 pm12 cd12 ct12 oc13 kV13 doc13 pm13 cd13 ct13 oc14 kV14 doc14 pm14 cd14 ct14 : Value}
    (a : PySem.W.nsIn K mainGlobals "Session" = some (some (.ref CS))) (pg : PySem.W.plainGet K CS Str.empty = true) (hd : PySem.W.hasDictIn K CS = true) (po : PySem.W.plainOver K CS = true) (sa : PySem.W.findIn K (.ref CS) "__setattr__" = some (some (.builtin "object.__setattr__"))) (mk : PySem.W.makesIn K CS = true) (kc : PySem.W.keepIn K (.ref CS) = true)
    (n_axioms : PySem.W.findIn K (.ref CS) "axioms" = some none)
    (a0 : PySem.W.findIn K (.ref CS) "__init__" = some (some (.ref f0))) (i0 : PySem.W.isFn K (.ref f0) = true) (l0 : K.lookup f0 = some ⟨oc0, od0, .func (PySem.W.fnOf "__init__" "Session.__init__" (defArgs sSInit) (defBody sSInit) (defScope sSInit) .none kV0 doc0 pm0 an0 cd0 ct0), sl0⟩) (c0 : PySem.W.codeIn K cd0 "Session.__init__" = true) (k0 : PySem.W.keepIn K (.ref f0) = true)
    (a1 : PySem.W.findIn K (.ref CS) "begins" = some (some (.ref f1))) (i1 : PySem.W.isFn K (.ref f1) = true) (l1 : K.lookup f1 = some ⟨oc1, od1, .func (PySem.W.fnOf "begins" "Session.begins" (defArgs sBegins) (defBody sBegins) (defScope sBegins) .none kV1 doc1 pm1 an1 cd1 ct1), sl1⟩) (c1 : PySem.W.codeIn K cd1 "Session.begins" = true) (k1 : PySem.W.keepIn K (.ref f1) = true)
    (a2 : PySem.W.findIn K (.ref CS) "line" = some (some (.ref f2))) (i2 : PySem.W.isFn K (.ref f2) = true) (l2 : K.lookup f2 = some ⟨oc2, od2, .func (PySem.W.fnOf "line" "Session.line" (defArgs sLine) (defBody sLine) (defScope sLine) .none kV2 doc2 pm2 an2 cd2 ct2), sl2⟩) (c2 : PySem.W.codeIn K cd2 "Session.line" = true) (k2 : PySem.W.keepIn K (.ref f2) = true)
    (a3 : PySem.W.findIn K (.ref CS) "drop" = some (some (.ref f3))) (i3 : PySem.W.isFn K (.ref f3) = true) (l3 : K.lookup f3 = some ⟨oc3, od3, .func (PySem.W.fnOf "drop" "Session.drop" (defArgs sDrop) (defBody sDrop) (defScope sDrop) .none kV3 doc3 pm3 an3 cd3 ct3), sl3⟩) (c3 : PySem.W.codeIn K cd3 "Session.drop" = true) (k3 : PySem.W.keepIn K (.ref f3) = true)
    (a4 : PySem.W.findIn K (.ref CS) "can" = some (some (.ref f4))) (i4 : PySem.W.isFn K (.ref f4) = true) (l4 : K.lookup f4 = some ⟨oc4, od4, .func (PySem.W.fnOf "can" "Session.can" (defArgs sCan) (defBody sCan) (defScope sCan) .none kV4 doc4 pm4 an4 cd4 ct4), sl4⟩) (c4 : PySem.W.codeIn K cd4 "Session.can" = true) (k4 : PySem.W.keepIn K (.ref f4) = true)
    (a5 : PySem.W.findIn K (.ref CS) "under" = some (some (.ref f5))) (i5 : PySem.W.isFn K (.ref f5) = true) (l5 : K.lookup f5 = some ⟨oc5, od5, .func (PySem.W.fnOf "under" "Session.under" (defArgs sUnder) (defBody sUnder) (defScope sUnder) .none kV5 doc5 pm5 an5 cd5 ct5), sl5⟩) (c5 : PySem.W.codeIn K cd5 "Session.under" = true) (k5 : PySem.W.keepIn K (.ref f5) = true)
    (a6 : PySem.W.findIn K (.ref CS) "model" = some (some (.ref f6))) (i6 : PySem.W.isFn K (.ref f6) = true) (l6 : K.lookup f6 = some ⟨oc6, od6, .func (PySem.W.fnOf "model" "Session.model" (defArgs sModel) (defBody sModel) (defScope sModel) .none kV6 doc6 pm6 an6 cd6 ct6), sl6⟩) (c6 : PySem.W.codeIn K cd6 "Session.model" = true) (k6 : PySem.W.keepIn K (.ref f6) = true)
    (a7 : PySem.W.findIn K (.ref CS) "against" = some (some (.ref f7))) (i7 : PySem.W.isFn K (.ref f7) = true) (l7 : K.lookup f7 = some ⟨oc7, od7, .func (PySem.W.fnOf "against" "Session.against" (defArgs sAgainst) (defBody sAgainst) (defScope sAgainst) .none kV7 doc7 pm7 an7 cd7 ct7), sl7⟩) (c7 : PySem.W.codeIn K cd7 "Session.against" = true) (k7 : PySem.W.keepIn K (.ref f7) = true)
    (a8 : PySem.W.findIn K (.ref CS) "names" = some (some (.ref f8))) (i8 : PySem.W.isFn K (.ref f8) = true) (l8 : K.lookup f8 = some ⟨oc8, od8, .func (PySem.W.fnOf "names" "Session.names" (defArgs sNames) (defBody sNames) (defScope sNames) .none kV8 doc8 pm8 an8 cd8 ct8), sl8⟩) (c8 : PySem.W.codeIn K cd8 "Session.names" = true) (k8 : PySem.W.keepIn K (.ref f8) = true)
    (a9 : PySem.W.findIn K (.ref CS) "spare" = some (some (.ref f9))) (i9 : PySem.W.isFn K (.ref f9) = true) (l9 : K.lookup f9 = some ⟨oc9, od9, .func (PySem.W.fnOf "spare" "Session.spare" (defArgs sSpare) (defBody sSpare) (defScope sSpare) .none kV9 doc9 pm9 an9 cd9 ct9), sl9⟩) (c9 : PySem.W.codeIn K cd9 "Session.spare" = true) (k9 : PySem.W.keepIn K (.ref f9) = true)
    (a10 : PySem.W.findIn K (.ref CS) "read" = some (some (.ref f10))) (i10 : PySem.W.isFn K (.ref f10) = true) (l10 : K.lookup f10 = some ⟨oc10, od10, .func (PySem.W.fnOf "read" "Session.read" (defArgs sReadS) (defBody sReadS) (defScope sReadS) .none kV10 doc10 pm10 an10 cd10 ct10), sl10⟩) (c10 : PySem.W.codeIn K cd10 "Session.read" = true) (k10 : PySem.W.keepIn K (.ref f10) = true)
    (a11 : PySem.W.findIn K (.ref CS) "model_of" = some (some (.ref f11))) (i11 : PySem.W.isFn K (.ref f11) = true) (l11 : K.lookup f11 = some ⟨oc11, od11, .func (PySem.W.fnOf "model_of" "Session.model_of" (defArgs sModelOf) (defBody sModelOf) (defScope sModelOf) .none kV11 doc11 pm11 an11 cd11 ct11), sl11⟩) (c11 : PySem.W.codeIn K cd11 "Session.model_of" = true) (k11 : PySem.W.keepIn K (.ref f11) = true)
    (a12 : PySem.W.findIn K (.ref CS) "kinds_with" = some (some (.ref f12))) (i12 : PySem.W.isFn K (.ref f12) = true) (l12 : K.lookup f12 = some ⟨oc12, od12, .func (PySem.W.fnOf "kinds_with" "Session.kinds_with" (defArgs sKindsW) (defBody sKindsW) (defScope sKindsW) .none kV12 doc12 pm12 an12 cd12 ct12), sl12⟩) (c12 : PySem.W.codeIn K cd12 "Session.kinds_with" = true) (k12 : PySem.W.keepIn K (.ref f12) = true)
    (a13 : PySem.W.findIn K (.ref CS) "with_axioms" = some (some (.ref f13))) (i13 : PySem.W.isFn K (.ref f13) = true) (l13 : K.lookup f13 = some ⟨oc13, od13, .func (PySem.W.fnOf "with_axioms" "Session.with_axioms" (defArgs sWith) (defBody sWith) (defScope sWith) .none kV13 doc13 pm13 an13 cd13 ct13), sl13⟩) (c13 : PySem.W.codeIn K cd13 "Session.with_axioms" = true) (k13 : PySem.W.keepIn K (.ref f13) = true)
    (a14 : PySem.W.findIn K (.ref CS) "check_atoms" = some (some (.ref f14))) (i14 : PySem.W.isFn K (.ref f14) = true) (l14 : K.lookup f14 = some ⟨oc14, od14, .func (PySem.W.fnOf "check_atoms" "Session.check_atoms" (defArgs sCheck) (defBody sCheck) (defScope sCheck) .none kV14 doc14 pm14 an14 cd14 ct14), sl14⟩) (c14 : PySem.W.codeIn K cd14 "Session.check_atoms" = true) (k14 : PySem.W.keepIn K (.ref f14) = true)
    (go : ∀ CS : Addr, mg "Session" = some (.ref CS) → Cls K CS → PySem.W.makesIn K CS = true → PySem.W.keepIn K (.ref CS) = true → NoAttr K CS "axioms" → (∃ f fd, Met1 K CS "__init__" "Session.__init__" sSInit f fd) → (∃ f fd, Met1 K CS "begins" "Session.begins" sBegins f fd) → (∃ f fd, Met1 K CS "line" "Session.line" sLine f fd) → (∃ f fd, Met1 K CS "drop" "Session.drop" sDrop f fd) → (∃ f fd, Met1 K CS "can" "Session.can" sCan f fd) → (∃ f fd, Met1 K CS "under" "Session.under" sUnder f fd) → (∃ f fd, Met1 K CS "model" "Session.model" sModel f fd) → (∃ f fd, Met1 K CS "against" "Session.against" sAgainst f fd) → (∃ f fd, Met1 K CS "names" "Session.names" sNames f fd) → (∃ f fd, Met1 K CS "spare" "Session.spare" sSpare f fd) → (∃ f fd, Met1 K CS "read" "Session.read" sReadS f fd) → (∃ f fd, Met1 K CS "model_of" "Session.model_of" sModelOf f fd) → (∃ f fd, Met1 K CS "kinds_with" "Session.kinds_with" sKindsW f fd) → (∃ f fd, Met1 K CS "with_axioms" "Session.with_axioms" sWith f fd) → (∃ f fd, Met1 K CS "check_atoms" "Session.check_atoms" sCheck f fd) → R) : R :=
  go CS (PySem.W.mg_of X G a) ⟨pg, hd, po, sa⟩ mk kc n_axioms ⟨_, _, mk_met1 a0 i0 l0 c0 k0⟩ ⟨_, _, mk_met1 a1 i1 l1 c1 k1⟩ ⟨_, _, mk_met1 a2 i2 l2 c2 k2⟩ ⟨_, _, mk_met1 a3 i3 l3 c3 k3⟩ ⟨_, _, mk_met1 a4 i4 l4 c4 k4⟩ ⟨_, _, mk_met1 a5 i5 l5 c5 k5⟩ ⟨_, _, mk_met1 a6 i6 l6 c6 k6⟩ ⟨_, _, mk_met1 a7 i7 l7 c7 k7⟩ ⟨_, _, mk_met1 a8 i8 l8 c8 k8⟩ ⟨_, _, mk_met1 a9 i9 l9 c9 k9⟩ ⟨_, _, mk_met1 a10 i10 l10 c10 k10⟩ ⟨_, _, mk_met1 a11 i11 l11 c11 k11⟩ ⟨_, _, mk_met1 a12 i12 l12 c12 k12⟩ ⟨_, _, mk_met1 a13 i13 l13 c13 k13⟩ ⟨_, _, mk_met1 a14 i14 l14 c14 k14⟩
theorem nat_list : ∀ l : List Int, (∀ z ∈ l, 0 ≤ z) → ∃ L : List Nat, l = zs L
  | [], _ => ⟨[], rfl⟩
  | z :: l, h => by
    obtain ⟨L, hL⟩ := nat_list l fun y hy => h y (List.mem_cons_of_mem _ hy)
    refine ⟨z.toNat :: L, ?_⟩
    rw [hL]
    show z :: zs L = ((z.toNat : Nat) : Int) :: zs L
    rw [Int.toNat_of_nonneg (h z List.mem_cons_self)]
theorem vn_zs (L : List Nat) : vn L = (zs L).map V.int := by
  unfold vn
  rw [List.map_map]
  rfl
end Cx
/-! ## CxE3 -/
open PySem PySem.W PyProof.Rows
set_option maxRecDepth 100000 in
set_option maxHeartbeats 8000000 in
theorem PySem.Challenge.cw_conceptaxioms_s01_answers_holds : PySem.Challenge.rw_conceptaxioms_s01_answers.Holds := by
  w_on; k_headS; (case hw => exact ⟨[.list [.int 0]], by decide +kernel, by decide +kernel⟩)
  k_fillS
  refine L2.walk_specK (r := PySem.Challenge.rw_conceptaxioms_s01_answers) (k := 14) (CX := L2.CX0) (ps := ["calls"]) (sp := Cx.spAnswers) (by decide +kernel) rfl rfl ⟨rfl, by decide, by decide⟩ (fun w h Y => PySem.W.kIn_of Y) ?F ?S (fun _ _ _ _ z => z)
  case F =>
    intro w mg fa h Y KX G hmg
    refine' Cx.with_top1 (x := "head_length") (st := Cx.sHead) KX G ?a ?l ?c ?k ?go
    (case a => k_is); (case l => k_is); (case c => k_is); (case k => k_is)
    case go =>
    intro fHead dHead hHead
    refine' Cx.with_top1 (x := "concept_end") (st := Cx.sEnd) KX G ?a ?l ?c ?k ?go
    (case a => k_is); (case l => k_is); (case c => k_is); (case k => k_is)
    case go =>
    intro fEnd dEnd hEnd
    refine' Cx.with_top1 (x := "read_concepts") (st := Cx.sRead) KX G ?a ?l ?c ?k ?go
    (case a => k_is); (case l => k_is); (case c => k_is); (case k => k_is)
    case go =>
    intro fRead dRead hRead
    refine' Cx.with_top1 (x := "part_starts") (st := Cx.sStarts) KX G ?a ?l ?c ?k ?go
    (case a => k_is); (case l => k_is); (case c => k_is); (case k => k_is)
    case go =>
    intro fStarts dStarts hStarts
    refine' Cx.with_top1 (x := "concept_at") (st := Cx.sAt) KX G ?a ?l ?c ?k ?go
    (case a => k_is); (case l => k_is); (case c => k_is); (case k => k_is)
    case go =>
    intro fAt dAt hAt
    refine' Cx.with_top1 (x := "atoms_of") (st := Cx.sAtoms) KX G ?a ?l ?c ?k ?go
    (case a => k_is); (case l => k_is); (case c => k_is); (case k => k_is)
    case go =>
    intro fAtoms dAtoms hAtoms
    refine' Cx.with_top1 (x := "first_kind") (st := Cx.sFirst) KX G ?a ?l ?c ?k ?go
    (case a => k_is); (case l => k_is); (case c => k_is); (case k => k_is)
    case go =>
    intro fFirst dFirst hFirst
    refine' Cx.with_top1 (x := "relations_of") (st := Cx.sRels) KX G ?a ?l ?c ?k ?go
    (case a => k_is); (case l => k_is); (case c => k_is); (case k => k_is)
    case go =>
    intro fRels dRels hRels
    refine' Cx.with_top1 (x := "members_from") (st := Cx.sMembers) KX G ?a ?l ?c ?k ?go
    (case a => k_is); (case l => k_is); (case c => k_is); (case k => k_is)
    case go =>
    intro fMembers dMembers hMembers
    refine' Cx.with_top1 (x := "reported_model") (st := Cx.sReported) KX G ?a ?l ?c ?k ?go
    (case a => k_is); (case l => k_is); (case c => k_is); (case k => k_is)
    case go =>
    intro fReported dReported hReported
    refine' Cx.with_top1 (x := "is_subsumed") (st := Cx.sIsSub) KX G ?a ?l ?c ?k ?go
    (case a => k_is); (case l => k_is); (case c => k_is); (case k => k_is)
    case go =>
    intro fIsSub dIsSub hIsSub
    refine' Cx.with_top1 (x := "may_have") (st := Cx.sMayH) KX G ?a ?l ?c ?k ?go
    (case a => k_is); (case l => k_is); (case c => k_is); (case k => k_is)
    case go =>
    intro fMayH dMayH hMayH
    refine' Cx.with_top1 (x := "may_lack") (st := Cx.sMayL) KX G ?a ?l ?c ?k ?go
    (case a => k_is); (case l => k_is); (case c => k_is); (case k => k_is)
    case go =>
    intro fMayL dMayL hMayL
    refine' Cx.with_top1 (x := "answers") (st := Cx.sAnswers) KX G ?a ?l ?c ?k ?go
    (case a => k_is); (case l => k_is); (case c => k_is); (case k => k_is)
    case go =>
    intro fAnswers dAnswers hAnswers
    refine' Cx.with_top1 (x := "call_end") (st := Cx.sCallEnd) KX G ?a ?l ?c ?k ?go
    (case a => k_is); (case l => k_is); (case c => k_is); (case k => k_is)
    case go =>
    intro fCallEnd dCallEnd hCallEnd
    refine' Cx.with_top1 (x := "answer_or_code") (st := Cx.sCode) KX G ?a ?l ?c ?k ?go
    (case a => k_is); (case l => k_is); (case c => k_is); (case k => k_is)
    case go =>
    intro fCode dCode hCode
    refine' Cx.with_top1 (x := "answer_of") (st := Cx.sAnsOf) KX G ?a ?l ?c ?k ?go
    (case a => k_is); (case l => k_is); (case c => k_is); (case k => k_is)
    case go =>
    intro fAnsOf dAnsOf hAnsOf
    refine' Cx.with_top1 (x := "answer_to_row") (st := Cx.sToRow) KX G ?a ?l ?c ?k ?go
    (case a => k_is); (case l => k_is); (case c => k_is); (case k => k_is)
    case go =>
    intro fToRow dToRow hToRow
    refine' Cx.with_none (x := "len") KX G ?a ?go
    (case a => k_is)
    case go =>
    intro n_len
    refine' Cx.with_none (x := "tuple") KX G ?a ?go
    (case a => k_is)
    case go =>
    intro n_tuple
    refine' Cx.with_none (x := "range") KX G ?a ?go
    (case a => k_is)
    case go =>
    intro n_range
    refine' Cx.with_none (x := "reversed") KX G ?a ?go
    (case a => k_is)
    case go =>
    intro n_reversed
    refine' Cx.with_none (x := "enumerate") KX G ?a ?go
    (case a => k_is)
    case go =>
    intro n_enumerate
    refine' Cx.with_none (x := "all") KX G ?a ?go
    (case a => k_is)
    case go =>
    intro n_all
    refine' Cx.with_int (x := "TOP") (i := 0) KX G ?a ?go
    (case a => k_is)
    case go =>
    intro z_TOP
    refine' Cx.with_int (x := "BOTTOM") (i := 1) KX G ?a ?go
    (case a => k_is)
    case go =>
    intro z_BOTTOM
    refine' Cx.with_int (x := "NAME") (i := 2) KX G ?a ?go
    (case a => k_is)
    case go =>
    intro z_NAME
    refine' Cx.with_int (x := "BOTH") (i := 3) KX G ?a ?go
    (case a => k_is)
    case go =>
    intro z_BOTH
    refine' Cx.with_int (x := "EITHER") (i := 4) KX G ?a ?go
    (case a => k_is)
    case go =>
    intro z_EITHER
    refine' Cx.with_int (x := "WITHOUT") (i := 5) KX G ?a ?go
    (case a => k_is)
    case go =>
    intro z_WITHOUT
    refine' Cx.with_int (x := "SOME") (i := 6) KX G ?a ?go
    (case a => k_is)
    case go =>
    intro z_SOME
    refine' Cx.with_int (x := "ONLY") (i := 7) KX G ?a ?go
    (case a => k_is)
    case go =>
    intro z_ONLY
    refine' Cx.with_int (x := "MOST_AXIOMS") (i := 6) KX G ?a ?go
    (case a => k_is)
    case go =>
    intro z_MOST_AXIOMS
    refine' Cx.with_int (x := "MOST_ATOMS") (i := 6) KX G ?a ?go
    (case a => k_is)
    case go =>
    intro z_MOST_ATOMS
    refine' Cx.with_int (x := "BEGINS") (i := 0) KX G ?a ?go
    (case a => k_is)
    case go =>
    intro z_BEGINS
    refine' Cx.with_int (x := "LINE") (i := 1) KX G ?a ?go
    (case a => k_is)
    case go =>
    intro z_LINE
    refine' Cx.with_int (x := "DROP") (i := 2) KX G ?a ?go
    (case a => k_is)
    case go =>
    intro z_DROP
    refine' Cx.with_int (x := "CAN") (i := 3) KX G ?a ?go
    (case a => k_is)
    case go =>
    intro z_CAN
    refine' Cx.with_int (x := "UNDER") (i := 4) KX G ?a ?go
    (case a => k_is)
    case go =>
    intro z_UNDER
    refine' Cx.with_int (x := "MODEL") (i := 5) KX G ?a ?go
    (case a => k_is)
    case go =>
    intro z_MODEL
    refine' Cx.with_int (x := "AGAINST") (i := 6) KX G ?a ?go
    (case a => k_is)
    case go =>
    intro z_AGAINST
    refine' Cx.with_int (x := "NAMES") (i := 7) KX G ?a ?go
    (case a => k_is)
    case go =>
    intro z_NAMES
    refine' Cx.with_int (x := "SPARE") (i := 8) KX G ?a ?go
    (case a => k_is)
    case go =>
    intro z_SPARE
    refine' Cx.with_tup (x := "PARTS") (a0 := 0) (a1 := 0) (a2 := 0) (a3 := 2) (a4 := 2) (a5 := 1) (a6 := 1) (a7 := 1) KX G ?a ?l ?htt ?go
    (case a => k_is); (case l => k_is); (case htt => rfl)
    case go =>
    intro pP gpP tpP
    refine' Cx.with_tup (x := "CHOICES") (a0 := 0) (a1 := 0) (a2 := 4) (a3 := 0) (a4 := 0) (a5 := 0) (a6 := 2) (a7 := 2) KX G ?a ?l ?htt ?go
    (case a => k_is); (case l => k_is); (case htt => rfl)
    case go =>
    intro pC gpC tpC
    refine' Cx.with_exc KX G ?aCN ?xCN ?kCN ?bCN ?tCN ?iCN ?aCA ?xCA ?kCA ?bCA ?tCA ?iCA ?aCT ?xCT ?kCT ?bCT ?tCT ?iCT ?aCM ?xCM ?kCM ?bCM ?tCM ?iCM ?aCU ?xCU ?kCU ?bCU ?tCU ?iCU ?sCNCN ?sCACN ?sCACA ?sCMCN ?sCMCA ?sCMCM ?sCTCN ?sCTCA ?sCTCM ?sCTCT ?go
    (case aCN => k_is); (case xCN => k_exc); (case kCN => k_is); (case bCN => k_is); (case tCN => k_is); (case iCN => k_is); (case aCA => k_is); (case xCA => k_exc); (case kCA => k_is); (case bCA => k_is); (case tCA => k_is); (case iCA => k_is); (case aCT => k_is); (case xCT => k_exc); (case kCT => k_is); (case bCT => k_is); (case tCT => k_is); (case iCT => k_is); (case aCM => k_is); (case xCM => k_exc); (case kCM => k_is); (case bCM => k_is); (case tCM => k_is); (case iCM => k_is); (case aCU => k_is); (case xCU => k_exc); (case kCU => k_is); (case bCU => k_is); (case tCU => k_is); (case iCU => k_is); (case sCNCN => first | rfl | k_is); (case sCACN => first | rfl | k_is); (case sCACA => first | rfl | k_is); (case sCMCN => first | rfl | k_is); (case sCMCA => first | rfl | k_is); (case sCMCM => first | rfl | k_is); (case sCTCN => first | rfl | k_is); (case sCTCA => first | rfl | k_is); (case sCTCM => first | rfl | k_is); (case sCTCT => first | rfl | k_is)
    case go =>
    intro CN CA CT CM CU eCN eCA eCT eCM eCU mCNCN mCACN mCACA mCMCN mCMCA mCMCM mCTCN mCTCA mCTCM mCTCT
    refine' Cx.with_clsR KX G ?a ?pg ?hd ?po ?sa ?mk ?kc ?n_role ?n_place ?n_demanding ?n_wanted ?a0 ?i0 ?l0 ?c0 ?k0 ?a1 ?i1 ?l1 ?c1 ?k1 ?go
    (case a => k_is); (case pg => k_is); (case hd => k_is); (case po => k_is); (case sa => k_is); (case mk => k_is); (case kc => k_is); (case n_role => k_is); (case n_place => k_is); (case n_demanding => k_is); (case n_wanted => k_is); (case a0 => k_is); (case i0 => k_is); (case l0 => k_is); (case c0 => k_is); (case k0 => k_is); (case a1 => k_is); (case i1 => k_is); (case l1 => k_is); (case c1 => k_is); (case k1 => k_is)
    case go =>
    rintro CR gCR cCR mkCR kpCR na_role na_place na_demanding na_wanted ⟨fRInit, dRInit, hRInit⟩ ⟨fDemands, dDemands, hDemands⟩
    refine' Cx.with_clsK KX G ?a ?pg ?hd ?po ?sa ?mk ?kc ?n_atoms ?n_total ?n_every ?n_restrictions ?n_needs ?a0 ?i0 ?l0 ?c0 ?k0 ?a1 ?i1 ?l1 ?c1 ?k1 ?a2 ?i2 ?l2 ?c2 ?k2 ?a3 ?i3 ?l3 ?c3 ?k3 ?a4 ?i4 ?l4 ?c4 ?k4 ?a5 ?i5 ?l5 ?c5 ?k5 ?a6 ?i6 ?l6 ?c6 ?k6 ?a7 ?i7 ?l7 ?c7 ?k7 ?a8 ?i8 ?l8 ?c8 ?k8 ?a9 ?i9 ?l9 ?c9 ?k9 ?a10 ?i10 ?l10 ?c10 ?k10 ?go
    (case a => k_is); (case pg => k_is); (case hd => k_is); (case po => k_is); (case sa => k_is); (case mk => k_is); (case kc => k_is); (case n_atoms => k_is); (case n_total => k_is); (case n_every => k_is); (case n_restrictions => k_is); (case n_needs => k_is); (case a0 => k_is); (case i0 => k_is); (case l0 => k_is); (case c0 => k_is); (case k0 => k_is); (case a1 => k_is); (case i1 => k_is); (case l1 => k_is); (case c1 => k_is); (case k1 => k_is); (case a2 => k_is); (case i2 => k_is); (case l2 => k_is); (case c2 => k_is); (case k2 => k_is); (case a3 => k_is); (case i3 => k_is); (case l3 => k_is); (case c3 => k_is); (case k3 => k_is); (case a4 => k_is); (case i4 => k_is); (case l4 => k_is); (case c4 => k_is); (case k4 => k_is); (case a5 => k_is); (case i5 => k_is); (case l5 => k_is); (case c5 => k_is); (case k5 => k_is); (case a6 => k_is); (case i6 => k_is); (case l6 => k_is); (case c6 => k_is); (case k6 => k_is); (case a7 => k_is); (case i7 => k_is); (case l7 => k_is); (case c7 => k_is); (case k7 => k_is); (case a8 => k_is); (case i8 => k_is); (case l8 => k_is); (case c8 => k_is); (case k8 => k_is); (case a9 => k_is); (case i9 => k_is); (case l9 => k_is); (case c9 => k_is); (case k9 => k_is); (case a10 => k_is); (case i10 => k_is); (case l10 => k_is); (case c10 => k_is); (case k10 => k_is)
    case go =>
    rintro CK gCK cCK mkCK kpCK na_atoms na_total na_every na_restrictions na_needs ⟨fKInit, dKInit, hKInit⟩ ⟨fReadR, dReadR, hReadR⟩ ⟨fHaving, dHaving, hHaving⟩ ⟨fJoined, dJoined, hJoined⟩ ⟨fNamesOf, dNamesOf, hNamesOf⟩ ⟨fHavAtom, dHavAtom, hHavAtom⟩ ⟨fPermit, dPermit, hPermit⟩ ⟨fNeedsOf, dNeedsOf, hNeedsOf⟩ ⟨fObeying, dObeying, hObeying⟩ ⟨fSupp, dSupp, hSupp⟩ ⟨fPossible, dPossible, hPossible⟩
    refine' Cx.with_clsS KX G ?a ?pg ?hd ?po ?sa ?mk ?kc ?n_axioms ?a0 ?i0 ?l0 ?c0 ?k0 ?a1 ?i1 ?l1 ?c1 ?k1 ?a2 ?i2 ?l2 ?c2 ?k2 ?a3 ?i3 ?l3 ?c3 ?k3 ?a4 ?i4 ?l4 ?c4 ?k4 ?a5 ?i5 ?l5 ?c5 ?k5 ?a6 ?i6 ?l6 ?c6 ?k6 ?a7 ?i7 ?l7 ?c7 ?k7 ?a8 ?i8 ?l8 ?c8 ?k8 ?a9 ?i9 ?l9 ?c9 ?k9 ?a10 ?i10 ?l10 ?c10 ?k10 ?a11 ?i11 ?l11 ?c11 ?k11 ?a12 ?i12 ?l12 ?c12 ?k12 ?a13 ?i13 ?l13 ?c13 ?k13 ?a14 ?i14 ?l14 ?c14 ?k14 ?go
    (case a => k_is); (case pg => k_is); (case hd => k_is); (case po => k_is); (case sa => k_is); (case mk => k_is); (case kc => k_is); (case n_axioms => k_is); (case a0 => k_is); (case i0 => k_is); (case l0 => k_is); (case c0 => k_is); (case k0 => k_is); (case a1 => k_is); (case i1 => k_is); (case l1 => k_is); (case c1 => k_is); (case k1 => k_is); (case a2 => k_is); (case i2 => k_is); (case l2 => k_is); (case c2 => k_is); (case k2 => k_is); (case a3 => k_is); (case i3 => k_is); (case l3 => k_is); (case c3 => k_is); (case k3 => k_is); (case a4 => k_is); (case i4 => k_is); (case l4 => k_is); (case c4 => k_is); (case k4 => k_is); (case a5 => k_is); (case i5 => k_is); (case l5 => k_is); (case c5 => k_is); (case k5 => k_is); (case a6 => k_is); (case i6 => k_is); (case l6 => k_is); (case c6 => k_is); (case k6 => k_is); (case a7 => k_is); (case i7 => k_is); (case l7 => k_is); (case c7 => k_is); (case k7 => k_is); (case a8 => k_is); (case i8 => k_is); (case l8 => k_is); (case c8 => k_is); (case k8 => k_is); (case a9 => k_is); (case i9 => k_is); (case l9 => k_is); (case c9 => k_is); (case k9 => k_is); (case a10 => k_is); (case i10 => k_is); (case l10 => k_is); (case c10 => k_is); (case k10 => k_is); (case a11 => k_is); (case i11 => k_is); (case l11 => k_is); (case c11 => k_is); (case k11 => k_is); (case a12 => k_is); (case i12 => k_is); (case l12 => k_is); (case c12 => k_is); (case k12 => k_is); (case a13 => k_is); (case i13 => k_is); (case l13 => k_is); (case c13 => k_is); (case k13 => k_is); (case a14 => k_is); (case i14 => k_is); (case l14 => k_is); (case c14 => k_is); (case k14 => k_is)
    case go =>
    rintro CS gCS cCS mkCS kpCS na_axioms ⟨fSInit, dSInit, hSInit⟩ ⟨fBegins, dBegins, hBegins⟩ ⟨fLine, dLine, hLine⟩ ⟨fDrop, dDrop, hDrop⟩ ⟨fCan, dCan, hCan⟩ ⟨fUnder, dUnder, hUnder⟩ ⟨fModel, dModel, hModel⟩ ⟨fAgainst, dAgainst, hAgainst⟩ ⟨fNames, dNames, hNames⟩ ⟨fSpare, dSpare, hSpare⟩ ⟨fReadS, dReadS, hReadS⟩ ⟨fModelOf, dModelOf, hModelOf⟩ ⟨fKindsW, dKindsW, hKindsW⟩ ⟨fWith, dWith, hWith⟩ ⟨fCheck, dCheck, hCheck⟩
    cases hAnswers.m.symm.trans hmg
    have T : Cx.TxA _ mg pP pC CN := ⟨n_len, n_tuple, gpP, tpP, gpC, tpC, eCN.g, eCN.x, eCN.k, eCN.b, eCN.t, z_NAME, z_SOME, z_ONLY⟩
    have TK : Cx.TxK _ mg CK CR := ⟨n_range, n_reversed, n_enumerate, n_all, cCK, cCR, gCK, gCR, na_atoms, na_total, na_every, na_restrictions, na_needs, na_role, na_place, na_demanding, na_wanted, z_TOP, z_BOTTOM, z_BOTH, z_EITHER, z_WITHOUT⟩
    have TS : Cx.TxS _ mg CS CA CT CM := ⟨cCS, gCS, na_axioms, eCA, eCT, eCM, z_MOST_AXIOMS, z_MOST_ATOMS⟩
    have TM : Cx.TxM _ mg CN CA CT CM CU := ⟨z_BEGINS, z_LINE, z_DROP, z_CAN, z_UNDER, z_MODEL, z_AGAINST, z_NAMES, z_SPARE, eCU, mCNCN, mCACN, mCACA, mCMCN, mCMCA, mCMCM, mCTCN, mCTCA, mCTCM, mCTCT⟩
    have fin := Cx.all_ok (P := PySem.Challenge.rw_conceptaxioms_s01_answers.prog) (w := w) T TK TS TM mkCK mkCR mkCS kpCK kpCR kpCS hHead hEnd hRead hStarts hAt hAtoms hFirst hRels hMembers hReported hIsSub hMayH hMayL hAnswers hCallEnd hCode hAnsOf hToRow hRInit hDemands hKInit hReadR hHaving hJoined hNamesOf hHavAtom hPermit hNeedsOf hObeying hSupp hPossible hSInit hBegins hLine hDrop hCan hUnder hModel hAgainst hNames hSpare hReadS hModelOf hKindsW hWith hCheck
    exact ⟨_, fin.1, fun base _ _ => fin.2 base⟩
  case S =>
    intro K H xs a hO hwi hask hx
    cases hx with
    | cons h1 h2 =>
      cases h2
      cases h1 with
      | lst hs ha =>
        have e := L2.ints_dw a.1 _ ha
        subst e
        have q : ((Codec.inLen 0 2000 a.1 && a.1.all (Codec.inInt 0 4294967295)) && true) = true := hwi
        rw [Bool.and_eq_true, Bool.and_eq_true] at q
        have hnn : ∀ z ∈ a.1, 0 ≤ z := fun z hz => (Codec.inInt_iff.mp (List.all_eq_true.mp q.1.2 z hz)).1
        obtain ⟨L, hL⟩ := Cx.nat_list a.1 hnn
        have hask' : PyOc01.answers_asked a.1 = true := hask
        rw [hL] at hask'
        refine ⟨_, L, rfl, ?_, hask', fun H' p s hp => ?_⟩
        · have := hs
          rw [hL] at this
          rw [Cx.vn_zs]
          exact this
        · show L2.Dw K H' (.ref p) (WData.list ((PyOc01.answers a.1).map WData.int))
          rw [hL]
          exact .lst (L2.SqL.of hp) (L2.dw_ints _)
#print axioms PySem.Challenge.cw_conceptaxioms_s01_answers_holds

