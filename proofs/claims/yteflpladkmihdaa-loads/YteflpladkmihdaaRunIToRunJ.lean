/- The longest token of the other engine. -/
import Derived.Test.YteflpladkmihdaaRunGToRunH
set_option linter.unusedVariables false
set_option linter.unusedSimpArgs false
namespace Go.Proofs.Yteflpladkmihdaa
open Go.RowKit

/-- The longest token so far is the longest one. -/
def Rs.long (r : Rs) (t : Tb) : Rs × List Ev :=
  if r.length = 0 then ({ r with opn := false }, [r.lastEv 3])
  else r.cut.tok t r.rule.toNat (r.bAt + r.length) (r.lineTo r.length) (r.colTo r.length)

set_option maxHeartbeats 2000000 in
set_option maxRecDepth 100000 in
theorem longest_calls (b H : Nat) (S : Nat → Prop) (t : Tb) (w : World) (r : Rs) {v0 : Value} (es : List Ev) (hC : Cv H b S t w r v0 es) (hn : es.length ≤ 4194304) (ok : t.Ok) (hact : ∀ i, i < t.nrule → t.act i < 4) (hok : r.Ok t) (hl : r.length ≤ r.count) (hrule : r.length = 0 ∨ (0 ≤ r.rule ∧ r.rule < t.nrule))
    (p1 : r.bAt + 64 < 2147483648) (p2 : r.bLine + 64 < 2147483648) (p3 : r.bCol + 65 < 2147483648) :
    Calls Try.prog 50 #[.pointer (some ⟨b, 0, none⟩)] w fun e w' =>
      e = .returned (.tuple #[]) ∧ ∃ v, Cv H b S t w' (r.long t).1 v (es ++ (r.long t).2) ∧ Keep H b w w' := by
  have HC : Hid (Cv H b S t w r v0 es) := hC
  have y83 : w.cell? ⟨b, 83, none⟩ = some (.int .i64 r.length) := hC.run.get_length
  clear hC
  by_cases h0 : r.length = 0
  · have hb : ((r.length : Int) == 0) = true := by rw [beq_iff_eq]; omega
    have HF : Hid (r.long t = ({ r with opn := false }, [r.lastEv 3])) := by show r.long t = _; unfold Rs.long; rw [if_pos h0]
    clear h0 hrule
    go_enter Try.func50, Try.ntmps50
    go_wp2_with fail
    refine (last_calls b H S t 3 _ r v0 _ _ HC.out hn).mono ?_
    rintro e w2 ⟨rfl, ao, cap, c2, k2⟩
    have C2 : Hid (Cx _ _ _ _ _ _ _ _ _) := c2
    clear c2
    go_wp2_with fail
    refine bodyPost_ret (results_none rfl _ _ _) rfl ?_
    refine ⟨rfl, .slice ao (es.length + 1) cap, ?_, k2⟩
    rw [HF.out]
    unfold Cv
    rw [evsCells_snoc, List.length_append]
    exact C2.out
  · have hb : ((r.length : Int) == 0) = false := by rw [beq_eq_false_iff_ne]; omega
    obtain ⟨k, hk0⟩ := Int.eq_ofNat_of_zero_le (show 0 ≤ r.rule by omega)
    have hkr : k < t.nrule := by omega
    have HR : Hid (r.rule = k) := hk0
    have HF : Hid (r.long t = r.cut.tok t k (r.bAt + r.length) (r.lineTo r.length) (r.colTo r.length)) := by show r.long t = _; unfold Rs.long; rw [if_neg h0, hk0]; rfl
    have y8 : w.cell? ⟨b, 8, none⟩ = some (.int .i64 r.bAt) := HC.out.run.get_bAt
    have y9 : w.cell? ⟨b, 9, none⟩ = some (.int .i64 r.bLine) := HC.out.run.get_bLine
    have y10 : w.cell? ⟨b, 10, none⟩ = some (.int .i64 r.bCol) := HC.out.run.get_bCol
    clear h0 hrule hk0
    go_enter Try.func50, Try.ntmps50
    refine wp_seq_k ?_
    intro K hK
    have H0 : Hid (∀ a w, _ → K a w) := hK
    clear hK
    go_wp2_with fail
    refine H0.out _ _ ?_
    clear H0
    refine wp_seq_k ?_
    intro K hK
    have H1 : Hid (∀ a w, _ → K a w) := hK
    clear hK
    go_wp2_with fail
    refine H1.out _ _ ?_
    exact long_loop b H S t w _ r es (Cx.alloc HC.out _) hn ok hact hok hl k HR.out hkr (Keep.alloc _ _ HC.out.HH) p1 p2 p3 w.heap.size HC.out.HH (fun e => by have := (HC.out.own.lt _ e).2; omega) (heap_alloc_new w _) _ HF.out
end Go.Proofs.Yteflpladkmihdaa

/- The other engine: what a step does, as plain mathematics. -/
namespace Go.Proofs.Yteflpladkmihdaa
open Go.RowKit

/-- One more byte of those that are held is taken; a token that ends there is marked; where none can end any more the longest is told. -/
def Rs.ate (r : Rs) (t : Tb) : Rs := { r with taken := r.taken + 1, state := t.next r.state (t.kind (r.byte ((r.first + r.taken) % 64))) }
def Rs.marked (r : Rs) (t : Tb) : Rs := if t.ends r.state = -1 then r else { r with rule := t.ends r.state, length := r.taken }
def Rs.judged (r : Rs) (t : Tb) : Rs × List Ev := if t.live r.state then (r, []) else r.long t
def Rs.heldStep (r : Rs) (t : Tb) : Rs × List Ev := ((r.ate t).marked t).judged t
/-- As long as there are bytes. -/
def Rs.heldN (r : Rs) (t : Tb) : Nat → Rs × List Ev
  | 0 => (r, [])
  | n + 1 => if (r.heldN t n).1.taken < (r.heldN t n).1.count ∧ (r.heldN t n).1.opn = true then (((r.heldN t n).1.heldStep t).1, (r.heldN t n).2 ++ ((r.heldN t n).1.heldStep t).2) else r.heldN t n

/-- What holds of a run of the other engine; P: how many bytes have come. -/
structure Rs.Oth (r : Rs) (t : Tb) (P : Nat) : Prop where
  ok : r.Ok t
  len : r.length ≤ r.taken
  tak : r.taken ≤ r.count
  rule : r.length = 0 ∨ (0 ≤ r.rule ∧ r.rule < t.nrule)
  pos : r.bAt + r.count ≤ P
  line : r.bLine ≤ r.bAt + 1
  col1 : 1 ≤ r.bCol
  col : r.bCol ≤ r.bAt + 1
def opnN (b : Bool) : Nat := if b then 1 else 0
/-- How much there is to do. -/
def Rs.todo (r : Rs) : Nat := r.count * 65 + (r.count - r.taken)

theorem Rs.colTo_le2 (r : Rs) (h : 1 ≤ r.bCol) (i : Nat) : 1 ≤ r.colTo i ∧ r.colTo i ≤ r.bCol + i := by
  induction i with
  | zero => exact ⟨h, Nat.le_refl _⟩
  | succ i ih => simp only [Rs.colTo]; unfold colB; split <;> omega

theorem Rs.ate_oth (r : Rs) (t : Tb) (P : Nat) (ok : t.Ok) (h : r.Oth t P) (hl : r.taken < r.count) : (r.ate t).Oth t P :=
  ⟨⟨h.ok.d1, h.ok.d4, h.ok.st, ok.next _ _ h.ok.state (ok.kind _ (h.ok.bytes _ (Nat.mod_lt _ (by decide)))), h.ok.first, h.ok.count, h.ok.bytes⟩, Nat.le_succ_of_le h.len, hl, h.rule, h.pos, h.line, h.col1, h.col⟩
theorem Rs.marked_oth (r : Rs) (t : Tb) (P : Nat) (ok : t.Ok) (h : r.Oth t P) : (r.marked t).Oth t P := by
  unfold Rs.marked
  split
  · exact h
  · rename_i he
    have e := ok.ends r.state h.ok.state
    exact ⟨⟨h.ok.d1, h.ok.d4, h.ok.st, h.ok.state, h.ok.first, h.ok.count, h.ok.bytes⟩, Nat.le_refl _, h.tak, .inr ⟨by show 0 ≤ t.ends r.state; omega, by show t.ends r.state < t.nrule; omega⟩, h.pos, h.line, h.col1, h.col⟩
theorem Rs.marked_same (r : Rs) (t : Tb) : (r.marked t).count = r.count ∧ (r.marked t).taken = r.taken ∧ (r.marked t).opn = r.opn ∧ (r.marked t).state = r.state := by
  unfold Rs.marked
  split <;> exact ⟨rfl, rfl, rfl, rfl⟩

/-- A token: nothing of the bytes that are held turns. -/
theorem Rs.tok_opn (r : Rs) (t : Tb) (rule a l c : Nat) : ((r.tok t rule a l c).1.opn = r.opn ∨ (r.tok t rule a l c).2 ≠ []) ∧ ((r.tok t rule a l c).1.opn = true → r.opn = true) ∧ ((r.tok t rule a l c).1.taken = r.taken ∧ (r.tok t rule a l c).1.length = r.length) ∧ (((r.tok t rule a l c).1.bAt = r.bAt ∧ (r.tok t rule a l c).1.bLine = r.bLine ∧ (r.tok t rule a l c).1.bCol = r.bCol ∧ (r.tok t rule a l c).1.opn = false) ∨ ((r.tok t rule a l c).1.bAt = a ∧ (r.tok t rule a l c).1.bLine = l ∧ (r.tok t rule a l c).1.bCol = c)) := by
  unfold Rs.tok Rs.moved
  split
  · exact ⟨.inr (by simp), (fun h => by cases h), ⟨rfl, rfl⟩, .inl ⟨rfl, rfl, rfl, rfl⟩⟩
  · split
    · exact ⟨.inr (by simp), (fun h => by cases h), ⟨rfl, rfl⟩, .inl ⟨rfl, rfl, rfl, rfl⟩⟩
    · split
      · exact ⟨.inl rfl, id, ⟨rfl, rfl⟩, .inr ⟨rfl, rfl, rfl⟩⟩
      · split <;> exact ⟨.inl rfl, id, ⟨rfl, rfl⟩, .inr ⟨rfl, rfl, rfl⟩⟩

theorem Rs.long_inv (r : Rs) (t : Tb) (P : Nat) (ok : t.Ok) (h : r.Oth t P) (ho : r.opn = true) (hc : 1 ≤ r.count) :
    (r.long t).1.Oth t P ∧ (r.long t).2.length + (r.long t).1.count + opnN (r.long t).1.opn ≤ r.count + 1 ∧ ((r.long t).1.opn = true ∨ (r.long t).2 ≠ []) ∧ ((r.long t).1.count < r.count ∨ ((r.long t).1.opn = false ∧ (r.long t).1.count = r.count ∧ (r.long t).1.taken = r.taken)) := by
  unfold Rs.long
  have hlt := h.len
  have htk := h.tak
  split
  · refine ⟨⟨⟨h.ok.d1, h.ok.d4, h.ok.st, h.ok.state, h.ok.first, h.ok.count, h.ok.bytes⟩, h.len, h.tak, h.rule, h.pos, h.line, h.col1, h.col⟩, ?_, .inr (by simp), .inr ⟨rfl, rfl, rfl⟩⟩
    show 1 + r.count + 0 ≤ r.count + 1
    omega
  · rename_i h0
    have hrule : 0 ≤ r.rule ∧ r.rule < t.nrule := h.rule.resolve_left h0
    have hr : r.rule.toNat < t.nrule := by omega
    have hcut : r.cut.Ok t := ⟨h.ok.d1, h.ok.d4, h.ok.st, h.ok.state, Nat.mod_lt _ (by decide), Nat.le_trans (Nat.sub_le _ _) h.ok.count, h.ok.bytes⟩
    have hk := r.cut.tok_ok t r.rule.toNat (r.bAt + r.length) (r.lineTo r.length) (r.colTo r.length) ok hcut hr
    have hs := r.cut.tok_same t r.rule.toNat (r.bAt + r.length) (r.lineTo r.length) (r.colTo r.length)
    have h1 := r.cut.tok_one t r.rule.toNat (r.bAt + r.length) (r.lineTo r.length) (r.colTo r.length)
    obtain ⟨o1, o2, ⟨o3, o4⟩, o5⟩ := r.cut.tok_opn t r.rule.toNat (r.bAt + r.length) (r.lineTo r.length) (r.colTo r.length)
    generalize r.cut.tok t r.rule.toNat (r.bAt + r.length) (r.lineTo r.length) (r.colTo r.length) = f at *
    have e1 : f.1.count = r.count - r.length := hs.count
    have e2 : f.1.taken = 0 := o3
    have e3 : f.1.length = 0 := o4
    have hp := h.pos
    have hl := h.line
    have hc1 := h.col1
    have hc2 := h.col
    have q1 := r.lineTo_le r.length
    have q2 := r.colTo_le2 hc1 r.length
    refine ⟨⟨hk, by omega, by omega, .inl e3, ?_, ?_, ?_, ?_⟩, ?_, ?_, .inl (by omega)⟩
    · rcases o5 with ⟨e, _⟩ | ⟨e, _⟩
      · have e' : f.1.bAt = r.bAt := e
        omega
      · omega
    · rcases o5 with ⟨e, e5, _⟩ | ⟨e, e5, _⟩
      · have e' : f.1.bAt = r.bAt := e
        have e6 : f.1.bLine = r.bLine := e5
        omega
      · omega
    · rcases o5 with ⟨_, _, e, _⟩ | ⟨_, _, e⟩
      · have e' : f.1.bCol = r.bCol := e
        omega
      · omega
    · rcases o5 with ⟨e, _, e5, _⟩ | ⟨e, _, e5⟩
      · have e' : f.1.bAt = r.bAt := e
        have e6 : f.1.bCol = r.bCol := e5
        omega
      · omega
    · have : opnN f.1.opn ≤ 1 := by unfold opnN; split <;> omega
      omega
    · rcases o1 with o1 | o1
      · left
        rw [o1]
        exact ho
      · exact .inr o1

theorem Rs.held_inv (r : Rs) (t : Tb) (P : Nat) (ok : t.Ok) (h : r.Oth t P) (ho : r.opn = true) (hl : r.taken < r.count) :
    (r.heldStep t).1.Oth t P ∧ (r.heldStep t).2.length + (r.heldStep t).1.count + opnN (r.heldStep t).1.opn ≤ r.count + 1 ∧ ((r.heldStep t).1.opn = true ∨ (r.heldStep t).2 ≠ []) ∧ (r.heldStep t).1.todo < r.todo := by
  have h1 := (r.ate t).marked_oth t P ok (r.ate_oth t P ok h hl)
  obtain ⟨m1, m2, m3, m4⟩ := (r.ate t).marked_same t
  have ho1 : ((r.ate t).marked t).opn = true := by rw [m3]; exact ho
  have c1 : ((r.ate t).marked t).count = r.count := m1
  have c2 : ((r.ate t).marked t).taken = r.taken + 1 := m2
  have h64 := h.ok.count
  unfold Rs.heldStep Rs.judged
  split
  · refine ⟨h1, ?_, .inl ho1, ?_⟩
    · show 0 + ((r.ate t).marked t).count + opnN ((r.ate t).marked t).opn ≤ r.count + 1
      rw [ho1, c1]
      show 0 + r.count + 1 ≤ r.count + 1
      omega
    · show ((r.ate t).marked t).todo < r.todo
      unfold Rs.todo
      rw [c1, c2]
      omega
  · obtain ⟨a1, a2, a3, a4⟩ := ((r.ate t).marked t).long_inv t P ok h1 ho1 (by omega)
    refine ⟨a1, by rw [c1] at a2; exact a2, a3, ?_⟩
    unfold Rs.todo
    have := a1.tak
    rcases a4 with a4 | ⟨_, a4, a5⟩
    · rw [c1] at a4
      omega
    · rw [a4, a5, c1, c2]
      omega
end Go.Proofs.Yteflpladkmihdaa
