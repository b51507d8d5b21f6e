/- A stream takes a byte. -/
import Derived.Test.YteflpladkmihdaaRunYToRunP
set_option linter.unusedVariables false
set_option linter.unusedSimpArgs false
namespace Go.Proofs.Yteflpladkmihdaa
open Go.RowKit

/-- A byte that is held too. -/
def Rs.added (r : Rs) (c : Nat) : Rs := { r with byte := fun j => if j = (r.first + r.count) % 64 then c else r.byte j, count := r.count + 1 }
def Rs.looked (r : Rs) (t : Tb) (d : Nat) : Rs := { r with ahead := t.further r.ahead d }
def Rs.due (r : Rs) (t : Tb) : Rs × List Ev := if t.ahead < r.count then r.step t else (r, [])
def Rs.take (r : Rs) (t : Tb) (c : Nat) : Rs × List Ev := ((r.added c).looked t (t.kind c)).due t
theorem Rs.added_ok (r : Rs) (t : Tb) (c : Nat) (h : r.Ok t) (hc : c < 256) (hn : r.count < 64) : (r.added c).Ok t :=
  ⟨h.d1, h.d4, h.st, h.state, h.first, hn, fun j hj => by
    show (if j = (r.first + r.count) % 64 then c else r.byte j) < 256
    split
    · exact hc
    · exact h.bytes j hj⟩

set_option maxHeartbeats 2000000 in
set_option maxRecDepth 100000 in
theorem take_rest (b H : Nat) (S : Nat → Prop) (t : Tb) (w0 w : World) (r : Rs) {v0 : Value} (es : List Ev) (hC : Cv H b S t w r v0 es) (hn : es.length ≤ 4194304) (ok : t.Ok) (hact : ∀ i, i < t.nrule → t.act i < 4) (hok : r.Ok t) (ha : r.ahead < t.rows) (hc : 1 ≤ r.count)
    (p1 : r.hAt < 2147483648) (p2 : r.hLine < 2147483648) (p3 : r.hCol < 2147483648) (hk : Keep H b w0 w) (f : Rs × List Ev) (hf : f = r.due t)
    {u1 u2 u3 u4 u5 u6 u7 u8 u9 u10 u11 u12 u13 u14 u15 u16 u17 u18 u19 u20 u21 u22 u23 u24 u25 u26 u27 u28 u29 u30 u31 u32 u33 u34 u35 u36 u37 u38 u39 u40 u41 u42 u43 u44 u45 : Value} :
    Code.wp Try.prog (dropSeq 2 ((Try.f31.body).getD .skip)) (bodyPost Try.prog Try.f31 fun e w' =>
      e = .returned (.tuple #[]) ∧ ∃ v, Cv H b S t w' f.1 v (es ++ f.2) ∧ Keep H b w0 w')
      ⟨(.pointer (some ⟨b, 0, none⟩) :: u1 :: u2 :: u3 :: u4 :: u5 :: u6 :: u7 :: u8 :: u9 :: u10 :: u11 :: u12 :: u13 :: u14 :: u15 :: u16 :: u17 :: u18 :: u19 :: u20 :: u21 :: u22 :: u23 :: u24 :: u25 :: u26 :: u27 :: u28 :: u29 :: u30 :: u31 :: u32 :: u33 :: u34 :: u35 :: u36 :: u37 :: u38 :: u39 :: u40 :: u41 :: u42 :: u43 :: u44 :: u45 :: []).toArray, []⟩ w := by
  conv => arg 2; whnf
  have HC : Hid (Cv H b S t w r v0 es) := hC
  have HK0 : Hid (Keep H b w0 w) := hk
  have HF : Hid (f = r.due t) := hf
  have y0 : w.cell? ⟨b, 0, none⟩ = some (.pointer (some ⟨r.tp, 0, none⟩)) := HC.out.run.get_tp
  have y77 : w.cell? ⟨b, 77, none⟩ = some (.int .i64 r.count) := HC.out.run.get_count
  have x1 : w.cell? ⟨r.tp, 1, none⟩ = some (.int .i64 t.ahead) := HC.out.tab.c1
  clear hC hk hf
  by_cases hlt : t.ahead < r.count
  · have hl1 : (t.ahead : Int) < (r.count : Int) := by omega
    go_wp2_with fail
    go_quiet (fail)
    go_wp2_with fail
    refine (step_run b H S t _ r es (Cx.alike (w' := w.drewN nq) HC.out ⟨rfl, rfl, rfl⟩) hn ok hact hok hc ha p1 p2 p3).mono ?_
    rintro e w2 ⟨rfl, v, c2, k2⟩
    have C2 : Hid (Cv H b S t w2 f.1 v (es ++ f.2)) := by
      show Cv H b S t w2 f.1 v (es ++ f.2)
      rw [HF.out, Rs.due, if_pos hlt]
      exact c2
    clear c2
    go_wp2_with fail
    go_end0
    exact ⟨rfl, v, C2.out, (HK0.out.trans (Keep.alike (w' := w.drewN nq) ⟨rfl, rfl, rfl⟩)).trans k2⟩
  · have hl1 : (r.count : Int) ≤ (t.ahead : Int) := by omega
    go_wp2_with fail
    go_quiet (fail)
    go_wp2_with fail
    go_end0
    refine ⟨rfl, v0, ?_, HK0.out.trans (Keep.alike (w' := w.drewN nq) ⟨rfl, rfl, rfl⟩)⟩
    rw [HF.out, Rs.due, if_neg hlt, List.append_nil]
    exact Cx.alike (w' := w.drewN nq) HC.out ⟨rfl, rfl, rfl⟩

set_option maxHeartbeats 4000000 in
set_option maxRecDepth 100000 in
theorem take_calls (b H : Nat) (S : Nat → Prop) (t : Tb) (w : World) (r : Rs) {v0 : Value} (es : List Ev) (c : Nat) (hC : Cv H b S t w r v0 es) (hn : es.length ≤ 4194304) (ok : t.Ok) (hact : ∀ i, i < t.nrule → t.act i < 4) (hok : r.Ok t) (ha : r.ahead < t.rows) (hc : r.count < 64) (hcb : c < 256)
    (p1 : r.hAt < 2147483648) (p2 : r.hLine < 2147483648) (p3 : r.hCol < 2147483648) :
    Calls Try.prog 31 #[.pointer (some ⟨b, 0, none⟩), .int .u8 c] w fun e w' =>
      e = .returned (.tuple #[]) ∧ ∃ v, Cv H b S t w' (r.take t c).1 v (es ++ (r.take t c).2) ∧ Keep H b w w' := by
  have HC : Hid (Cv H b S t w r v0 es) := hC
  clear hC
  go_enter Try.func31, Try.ntmps31
  refine wp_seq_k ?_
  intro K hK
  have H0 : Hid (∀ a w, _ → K a w) := hK
  clear hK
  go_wp2_with fail
  refine (add_calls b c _ r HC.out.run hok.first hc).mono ?_
  rintro e w1 ⟨rfl, hR1, hk1⟩
  have c1 : Hid (Cv H b S t w1 (r.added c) v0 es) := Cx.kept HC.out hk1 hR1 rfl
  have k1 : Hid (Keep H b w w1) := hk1 H
  clear hk1 hR1
  go_wp2_with fail
  refine H0.out _ _ ?_
  clear H0
  refine wp_seq_k ?_
  intro K hK
  have H1 : Hid (∀ a w, _ → K a w) := hK
  clear hK
  have y0 : w1.cell? ⟨b, 0, none⟩ = some (.pointer (some ⟨r.tp, 0, none⟩)) := c1.out.run.get_tp
  have y81 : w1.cell? ⟨b, 81, none⟩ = some (.int .i64 r.ahead) := c1.out.run.get_ahead
  have z81 := c1.out.run.frozen 81
  have h6e := c1.out.tab.c6
  obtain ⟨vv, h6, b6, o6, cap6, hb6, rfl, hcap6, hml6, hL6⟩ := h6e
  have h6' : w1.cell? ⟨r.tp, 6, none⟩ = some (.slice (some ⟨b6, o6, none⟩) 256 cap6) := h6
  have hx6 : w1.cell? ⟨b6, o6 + c, none⟩ = some (.int .i64 (t.kind c : Nat)) := hL6 _ hcb
  have i1 : (c : Int) < 256 := by omega
  have hkd := ok.kind c hcb
  have hct := ok.count
  have hrw := ok.rows
  have tb4 : Hid (TabAt w1.drew S r.tp t) := (Cx.alike (w' := w1.drew) c1.out ⟨rfl, rfl, rfl⟩).tab
  clear hL6 h6
  go_wp2_with fail
  go_region_with ((go_at_call 45; go_must ((refine (further_calls r.tp _ S t tb4.out ok r.ahead (t.kind c) (by omega) (by omega)).mono ?_; rintro e w5 ⟨rfl, ha5⟩; have q81 : w5.cell? ⟨b, 81, none⟩ = some (.int .i64 r.ahead) := (ha5.cell ⟨b, 81, none⟩).trans y81; have z5 : w5.frozen? ⟨b, 81, none⟩ = false := (ha5.frozen ⟨b, 81, none⟩).trans z81))))
  all_goals
    have c5 : Hid (Cv H b S t w5 (r.added c) v0 es) := Cx.alike c1.out ha5
    have k5 : Hid (Keep H b w w5) := k1.out.trans (Keep.alike ha5)
    have c6 : Hid (Cv H b S t (w5.setCell ⟨b, 81, none⟩ (.int .i64 (t.further r.ahead (t.kind c) : Nat))) ((r.added c).looked t (t.kind c)) v0 es) := Cx.stored c5.out 81 _ (c5.out.run.set_ahead (t.further r.ahead (t.kind c))) rfl
    clear c1 k1 tb4 ha5 c5
    go_wp2_with fail
    refine H1.out _ _ ?_
    exact take_rest b H S t w _ ((r.added c).looked t (t.kind c)) es c6.out hn ok hact (let h := r.added_ok t c hok hcb hc; ⟨h.d1, h.d4, h.st, h.state, h.first, h.count, h.bytes⟩) (Nat.mod_lt _ ok.rows0) (Nat.succ_le_succ (Nat.zero_le _)) p1 p2 p3 (k5.out.trans (Keep.set _ _ _)) _ rfl
end Go.Proofs.Yteflpladkmihdaa
