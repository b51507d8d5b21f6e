/- The other engine takes a byte, and is closed: plain mathematics. -/
import Derived.Test.YteflpladkmihdaaRunIToRunJ
import Derived.Test.YteflpladkmihdaaRunZ
set_option linter.unusedVariables false
set_option linter.unusedSimpArgs false
namespace Go.Proofs.Yteflpladkmihdaa
open Go.RowKit

theorem Rs.held_count (r : Rs) (t : Tb) (P : Nat) (ok : t.Ok) (h : r.Oth t P) (ho : r.opn = true) (hl : r.taken < r.count) : (r.heldStep t).1.count ≤ r.count := by
  obtain ⟨_, h2, h3, _⟩ := r.held_inv t P ok h ho hl
  rcases h3 with h3 | h3
  · rw [h3] at h2
    have : opnN true = 1 := rfl
    omega
  · have := List.length_pos_iff.2 h3
    omega
/-- What holds behind any number of steps. -/
theorem Rs.heldN_inv (r : Rs) (t : Tb) (P : Nat) (ok : t.Ok) (h : r.Oth t P) (n : Nat) :
    (r.heldN t n).1.Oth t P ∧ (r.heldN t n).2.length + (r.heldN t n).1.count + opnN (r.heldN t n).1.opn ≤ r.count + opnN r.opn ∧ ((r.heldN t n).1.opn = r.opn ∨ (r.heldN t n).2 ≠ []) ∧ (r.heldN t n).1.count ≤ r.count ∧ (¬ ((r.heldN t n).1.taken < (r.heldN t n).1.count ∧ (r.heldN t n).1.opn = true) ∨ (r.heldN t n).1.todo + n ≤ r.todo) ∧ ((r.heldN t n).1.opn = true → r.opn = true) := by
  induction n with
  | zero => exact ⟨h, by simp [Rs.heldN], .inl rfl, Nat.le_refl _, .inr (Nat.le_refl _), id⟩
  | succ n ih =>
    obtain ⟨i1, i2, i3, i4, i5, i6⟩ := ih
    rw [Rs.heldN]
    split
    · rename_i hc
      obtain ⟨a1, a2, a3, a4⟩ := (r.heldN t n).1.held_inv t P ok i1 hc.2 hc.1
      have a5 := (r.heldN t n).1.held_count t P ok i1 hc.2 hc.1
      have hro := i6 hc.2
      refine ⟨a1, ?_, ?_, Nat.le_trans a5 i4, .inr ?_, fun _ => hro⟩
      · show ((r.heldN t n).2 ++ ((r.heldN t n).1.heldStep t).2).length + ((r.heldN t n).1.heldStep t).1.count + opnN ((r.heldN t n).1.heldStep t).1.opn ≤ _
        rw [hc.2] at i2
        have : opnN true = 1 := rfl
        rw [List.length_append]
        omega
      · rcases a3 with a3 | a3
        · left
          show ((r.heldN t n).1.heldStep t).1.opn = r.opn
          rw [a3, hro]
        · right
          show (r.heldN t n).2 ++ ((r.heldN t n).1.heldStep t).2 ≠ []
          intro e
          exact a3 (List.append_eq_nil_iff.1 e).2
      · show ((r.heldN t n).1.heldStep t).1.todo + (n + 1) ≤ r.todo
        rcases i5 with i5 | i5
        · exact absurd hc i5
        · omega
    · rename_i hc
      exact ⟨i1, i2, i3, i4, .inl hc, i6⟩
theorem Rs.heldN_stop (r : Rs) (t : Tb) (n m : Nat) (h : ¬ ((r.heldN t n).1.taken < (r.heldN t n).1.count ∧ (r.heldN t n).1.opn = true)) (hm : n ≤ m) : r.heldN t m = r.heldN t n := by
  induction m with
  | zero => rw [show n = 0 by omega]
  | succ m ih =>
    by_cases e : n = m + 1
    · rw [e]
    · rw [Rs.heldN, ih (by omega), if_neg h]
/-- All that is held is taken. -/
def Rs.heldAll (r : Rs) (t : Tb) : Rs × List Ev := r.heldN t (r.todo + 1)
theorem Rs.heldAll_eq (r : Rs) (t : Tb) (P : Nat) (ok : t.Ok) (h : r.Oth t P) (n : Nat) (hs : ¬ ((r.heldN t n).1.taken < (r.heldN t n).1.count ∧ (r.heldN t n).1.opn = true)) : r.heldN t n = r.heldAll t := by
  have h1 := (r.heldN_inv t P ok h (r.todo + 1)).2.2.2.2.1
  have h2 : ¬ ((r.heldAll t).1.taken < (r.heldAll t).1.count ∧ (r.heldAll t).1.opn = true) := by
    rcases h1 with h1 | h1
    · exact h1
    · omega
  rcases Nat.le_total n (r.todo + 1) with hl | hl
  · exact (r.heldN_stop t n _ hs hl).symm
  · exact r.heldN_stop t _ n h2 hl
theorem Rs.heldAll_inv (r : Rs) (t : Tb) (P : Nat) (ok : t.Ok) (h : r.Oth t P) :
    (r.heldAll t).1.Oth t P ∧ (r.heldAll t).2.length + (r.heldAll t).1.count + opnN (r.heldAll t).1.opn ≤ r.count + opnN r.opn ∧ ((r.heldAll t).1.opn = r.opn ∨ (r.heldAll t).2 ≠ []) ∧ (r.heldAll t).1.count ≤ r.count ∧ ((r.heldAll t).1.opn = true → r.opn = true) := by
  obtain ⟨a1, a2, a3, a4, _, a6⟩ := r.heldN_inv t P ok h (r.todo + 1)
  exact ⟨a1, a2, a3, a4, a6⟩

/-- A byte comes. -/
def Rs.takeO (r : Rs) (t : Tb) (c : Nat) : Rs × List Ev :=
  if t.hold ≤ r.count then ({ r with opn := false }, [r.lastEv 6]) else (r.added c).heldAll t
theorem Rs.added_oth (r : Rs) (t : Tb) (P c : Nat) (h : r.Oth t P) (hc : c < 256) (hn : r.count < 64) : (r.added c).Oth t (P + 1) := by
  have h1 := h.len
  have h2 := h.tak
  have h3 := h.pos
  exact ⟨r.added_ok t c h.ok hc hn, h1, Nat.le_succ_of_le h2, h.rule, by show r.bAt + (r.count + 1) ≤ P + 1; omega, h.line, h.col1, h.col⟩
theorem Rs.takeO_inv (r : Rs) (t : Tb) (P c : Nat) (ok : t.Ok) (h : r.Oth t P) (hc : c < 256) (ho : r.opn = true) :
    (r.takeO t c).1.Oth t (P + 1) ∧ (r.takeO t c).2.length + (r.takeO t c).1.count + opnN (r.takeO t c).1.opn ≤ r.count + 2 ∧ ((r.takeO t c).1.opn = true ∨ (r.takeO t c).2 ≠ []) := by
  unfold Rs.takeO
  split
  · refine ⟨⟨⟨h.ok.d1, h.ok.d4, h.ok.st, h.ok.state, h.ok.first, h.ok.count, h.ok.bytes⟩, h.len, h.tak, h.rule, Nat.le_succ_of_le h.pos, h.line, h.col1, h.col⟩, ?_, .inr (by simp)⟩
    show 1 + r.count + 0 ≤ r.count + 2
    omega
  · rename_i hh
    have hlt : r.count < 64 := by have := ok.hold; omega
    obtain ⟨a1, a2, a3, a4, a5⟩ := (r.added c).heldAll_inv t (P + 1) ok (r.added_oth t P c h hc hlt)
    have e1 : (r.added c).count = r.count + 1 := rfl
    have e2 : (r.added c).opn = true := ho
    rw [e1, e2] at a2
    rw [e2] at a3
    have : opnN true = 1 := rfl
    exact ⟨a1, by omega, a3⟩

/-- At the text's end: a token more. -/
def Rs.endO (r : Rs) (t : Tb) : Rs × List Ev := (((r.long t).1.heldAll t).1, (r.long t).2 ++ ((r.long t).1.heldAll t).2)
def Rs.endN (r : Rs) (t : Tb) : Nat → Rs × List Ev
  | 0 => (r, [])
  | n + 1 => if 0 < (r.endN t n).1.count ∧ (r.endN t n).1.opn = true then (((r.endN t n).1.endO t).1, (r.endN t n).2 ++ ((r.endN t n).1.endO t).2) else r.endN t n
theorem Rs.endO_inv (r : Rs) (t : Tb) (P : Nat) (ok : t.Ok) (h : r.Oth t P) (ho : r.opn = true) (hc : 0 < r.count) :
    (r.endO t).1.Oth t P ∧ (r.endO t).2.length + (r.endO t).1.count + opnN (r.endO t).1.opn ≤ r.count + 1 ∧ ((r.endO t).1.opn = true ∨ (r.endO t).2 ≠ []) ∧ (r.endO t).1.count + opnN (r.endO t).1.opn < r.count + 1 := by
  obtain ⟨a1, a2, a3, a4⟩ := r.long_inv t P ok h ho hc
  obtain ⟨b1, b2, b3, b4, b5⟩ := (r.long t).1.heldAll_inv t P ok a1
  unfold Rs.endO
  have o1 : opnN true = 1 := rfl
  have o0 : opnN false = 0 := rfl
  refine ⟨b1, ?_, ?_, ?_⟩
  · show ((r.long t).2 ++ ((r.long t).1.heldAll t).2).length + ((r.long t).1.heldAll t).1.count + opnN ((r.long t).1.heldAll t).1.opn ≤ _
    rw [List.length_append]
    omega
  · by_cases e : ((r.long t).1.heldAll t).1.opn = true
    · exact .inl e
    · right
      show (r.long t).2 ++ ((r.long t).1.heldAll t).2 ≠ []
      intro e2
      obtain ⟨e3, e4⟩ := List.append_eq_nil_iff.1 e2
      have h1 : (r.long t).1.opn = true := a3.resolve_right (fun h => h e3)
      have h2 : ((r.long t).1.heldAll t).1.opn = (r.long t).1.opn := b3.resolve_right (fun h => h e4)
      exact e (by rw [h2, h1])
  · show ((r.long t).1.heldAll t).1.count + opnN ((r.long t).1.heldAll t).1.opn < r.count + 1
    rcases a4 with a4 | ⟨a4, a5, _⟩
    · have : opnN ((r.long t).1.heldAll t).1.opn ≤ 1 := by unfold opnN; split <;> omega
      omega
    · have e : ((r.long t).1.heldAll t).1.opn = false := by
        cases h : ((r.long t).1.heldAll t).1.opn with
        | false => rfl
        | true => rw [b5 h] at a4; cases a4
      rw [e]
      omega
theorem Rs.endN_inv (r : Rs) (t : Tb) (P : Nat) (ok : t.Ok) (h : r.Oth t P) (n : Nat) :
    (r.endN t n).1.Oth t P ∧ (r.endN t n).2.length + (r.endN t n).1.count + opnN (r.endN t n).1.opn ≤ r.count + opnN r.opn ∧ ((r.endN t n).1.opn = r.opn ∨ (r.endN t n).2 ≠ []) ∧ (¬ (0 < (r.endN t n).1.count ∧ (r.endN t n).1.opn = true) ∨ (r.endN t n).1.count + opnN (r.endN t n).1.opn + n ≤ r.count + opnN r.opn) ∧ ((r.endN t n).1.opn = true → r.opn = true) := by
  induction n with
  | zero => exact ⟨h, by simp [Rs.endN], .inl rfl, .inr (Nat.le_refl _), id⟩
  | succ n ih =>
    obtain ⟨i1, i2, i3, i4, i6⟩ := ih
    rw [Rs.endN]
    split
    · rename_i hc
      obtain ⟨a1, a2, a3, a4⟩ := (r.endN t n).1.endO_inv t P ok i1 hc.2 hc.1
      have hro := i6 hc.2
      have o1 : opnN true = 1 := rfl
      refine ⟨a1, ?_, ?_, .inr ?_, fun _ => hro⟩
      · show ((r.endN t n).2 ++ ((r.endN t n).1.endO t).2).length + ((r.endN t n).1.endO t).1.count + opnN ((r.endN t n).1.endO t).1.opn ≤ _
        rw [hc.2] at i2
        rw [List.length_append]
        omega
      · rcases a3 with a3 | a3
        · left
          show ((r.endN t n).1.endO t).1.opn = r.opn
          rw [a3, hro]
        · right
          show (r.endN t n).2 ++ ((r.endN t n).1.endO t).2 ≠ []
          intro e
          exact a3 (List.append_eq_nil_iff.1 e).2
      · show ((r.endN t n).1.endO t).1.count + opnN ((r.endN t n).1.endO t).1.opn + (n + 1) ≤ _
        rcases i4 with i4 | i4
        · exact absurd hc i4
        · rw [hc.2] at i4
          omega
    · rename_i hc
      exact ⟨i1, i2, i3, .inl hc, i6⟩
theorem Rs.endN_stop (r : Rs) (t : Tb) (n m : Nat) (h : ¬ (0 < (r.endN t n).1.count ∧ (r.endN t n).1.opn = true)) (hm : n ≤ m) : r.endN t m = r.endN t n := by
  induction m with
  | zero => rw [show n = 0 by omega]
  | succ m ih =>
    by_cases e : n = m + 1
    · rw [e]
    · rw [Rs.endN, ih (by omega), if_neg h]
def Rs.endAll (r : Rs) (t : Tb) : Rs × List Ev := r.endN t (r.count + 2)
theorem Rs.endAll_eq (r : Rs) (t : Tb) (P : Nat) (ok : t.Ok) (h : r.Oth t P) (n : Nat) (hs : ¬ (0 < (r.endN t n).1.count ∧ (r.endN t n).1.opn = true)) : r.endN t n = r.endAll t := by
  have h1 := (r.endN_inv t P ok h (r.count + 2)).2.2.2.1
  have h2 : ¬ (0 < (r.endAll t).1.count ∧ (r.endAll t).1.opn = true) := by
    rcases h1 with h1 | h1
    · exact h1
    · have : opnN r.opn ≤ 1 := by unfold opnN; split <;> omega
      omega
  rcases Nat.le_total n (r.count + 2) with hl | hl
  · exact (r.endN_stop t n _ hs hl).symm
  · exact r.endN_stop t _ n h2 hl
/-- The text's end. -/
def Rs.closeO (r : Rs) (t : Tb) : Rs × List Ev := if (r.endAll t).1.opn then ({ (r.endAll t).1 with opn := false }, (r.endAll t).2 ++ [(r.endAll t).1.lastEv 2]) else r.endAll t
theorem Rs.closeO_end (r : Rs) (t : Tb) (P : Nat) (ok : t.Ok) (h : r.Oth t P) (ho : r.opn = true) : (r.closeO t).1.opn = false ∧ (r.closeO t).2 ≠ [] := by
  have h3 := (r.endN_inv t P ok h (r.count + 2)).2.2.1
  unfold Rs.closeO
  split
  · exact ⟨rfl, by simp⟩
  · rename_i he
    have he' : (r.endAll t).1.opn = false := by simpa using he
    refine ⟨he', ?_⟩
    rcases h3 with h3 | h3
    · have : (r.endAll t).1.opn = r.opn := h3
      rw [he', ho] at this
      cases this
    · exact h3
end Go.Proofs.Yteflpladkmihdaa
