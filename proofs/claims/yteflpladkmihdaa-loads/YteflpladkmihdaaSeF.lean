/- A lexer scans a text; it is loaded; its bytes. -/
import Derived.Test.YteflpladkmihdaaSeDToSeE
import Derived.Laws.AppendOwnNone
set_option linter.unusedVariables false
set_option linter.unusedSimpArgs false
namespace Go.Proofs.Yteflpladkmihdaa
open Go.RowKit

/-- All events of a text. -/
def Tb.events (t : Tb) (p : Nat) (s : ByteArray) : List Ev := (Rs.feed t (nats s) (Rs.born t p)).2 ++ ((Rs.feed t (nats s) (Rs.born t p)).1.shut t).2
theorem Tb.events_some (t : Tb) (ft : t.Fine) (p : Nat) (s : ByteArray) : t.events p s ≠ [] := by
  obtain ⟨h1, h2, h3⟩ := Rs.feed_inv t ft.ok (nats s) (Rs.born t p) 0 (Rs.born_good t p ft) (nats_lt s)
  unfold Tb.events
  by_cases ho : (Rs.feed t (nats s) (Rs.born t p)).1.opn = true
  · have := ((Rs.feed t (nats s) (Rs.born t p)).1.shut_end t _ ft.ok h1 ho).2
    simp [this]
  · rcases h3 with h3 | h3
    · exact absurd h3 ho
    · simp [h3]
theorem evsCells_length (es : List Ev) : (evsCells es).length = es.length * 6 := by
  induction es with
  | nil => rfl
  | cons e es ih => simp only [evsCells, List.flatMap_cons, List.length_append, List.length_cons] at *; rw [ih]; simp [Ev.cells, evCells]; omega
theorem evsCells_one (es : List Ev) : ∀ u ∈ evsCells es, u.oneCell' = true := by
  intro u hu
  obtain ⟨e, _, hu⟩ := List.mem_flatMap.1 hu
  simp [Ev.cells, evCells] at hu
  rcases hu with rfl | rfl | rfl | rfl | rfl | rfl <;> rfl
theorem evsCells_append (a b : List Ev) : evsCells (a ++ b) = evsCells a ++ evsCells b := by simp [evsCells]
theorem Rs.shut_len (r : Rs) (t : Tb) (P : Nat) (ok : t.Ok) (h : r.Good t P) : (r.shut t).2.length ≤ r.count + 1 := by
  unfold Rs.shut
  split
  · rename_i ho
    split
    · exact (r.closed_end t ho).2.2
    · rename_i hs
      have hO := h.oth (by simpa using hs)
      have h2 := (r.endN_inv t P ok hO (r.count + 2)).2.1
      have o1 : opnN r.opn ≤ 1 := by unfold opnN; split <;> omega
      have o2 : opnN r.opn = 1 := by rw [ho]; rfl
      unfold Rs.closeO
      split
      · rename_i he
        have e : opnN (r.endAll t).1.opn = 1 := by rw [he]; rfl
        show ((r.endAll t).2 ++ [_]).length ≤ _
        rw [List.length_append]
        have h3 : (r.endAll t).2.length + (r.endAll t).1.count + opnN (r.endAll t).1.opn ≤ r.count + opnN r.opn := h2
        simp only [List.length_cons, List.length_nil]
        omega
      · have h3 : (r.endAll t).2.length + (r.endAll t).1.count + opnN (r.endAll t).1.opn ≤ r.count + opnN r.opn := h2
        omega
  · exact Nat.zero_le _

/-- Its tables stay. -/
theorem Rs.long_tp (r : Rs) (t : Tb) : (r.long t).1.tp = r.tp := by
  unfold Rs.long
  split
  · rfl
  · exact (r.cut.tok_same t _ _ _ _).tp
theorem Rs.heldStep_tp (r : Rs) (t : Tb) : (r.heldStep t).1.tp = r.tp := by
  have h : ((r.ate t).marked t).tp = r.tp := by unfold Rs.marked; split <;> rfl
  unfold Rs.heldStep Rs.judged
  split
  · exact h
  · rw [Rs.long_tp]; exact h
theorem Rs.heldN_tp (r : Rs) (t : Tb) (n : Nat) : (r.heldN t n).1.tp = r.tp := by
  induction n with
  | zero => rfl
  | succ n ih =>
    rw [Rs.heldN]
    split
    · show ((r.heldN t n).1.heldStep t).1.tp = r.tp
      rw [Rs.heldStep_tp, ih]
    · exact ih
theorem Rs.eat_tp (r : Rs) (t : Tb) (c : Nat) : (r.eat t c).1.tp = r.tp := by
  unfold Rs.eat
  split
  · unfold Rs.take Rs.due
    split
    · exact ((((r.added c).looked t (t.kind c)).took t).fin_same t).tp
    · rfl
  · unfold Rs.takeO
    split
    · rfl
    · exact (r.added c).heldN_tp t _
theorem Rs.feed_tp (t : Tb) (cs : List Nat) (r : Rs) : (Rs.feed t cs r).1.tp = r.tp := by
  induction cs generalizing r with
  | nil => rfl
  | cons c cs ih =>
    rw [Rs.feed]
    split
    · show (Rs.feed t cs (r.eat t c).1).1.tp = r.tp
      rw [ih, Rs.eat_tp]
    · rfl

/-- 'append' of events to events, both of the call's own. -/
theorem Keep.less {H b G c : Nat} {w w' : World} (h : Keep H b w w') (hG : G ≤ H) (hb : G ≤ b) : Keep G c w w' := ⟨h.os, h.output, h.size, fun k hk _ => h.block k (by omega) (by omega)⟩
theorem Keep.grownEnd {G c : Nat} {w w' : World} {row : Option Nat} (hg : w.grownBy w' row) (hG : G ≤ w.heap.size) (hr : ∀ k, row = some k → G ≤ k) : Keep G c w w' := Keep.grown hg hG hr

set_option maxHeartbeats 4000000 in
set_option maxRecDepth 100000 in
theorem scan_calls (x p : Nat) (S : Nat → Prop) (t : Tb) (w : World) (s : ByteArray) (hx : w.cell? ⟨x, 0, none⟩ = some (.pointer (some ⟨p, 0, none⟩))) (hT : TabAt w S p t) (hS : ∀ k, S k → k < w.heap.size) (ft : t.Fine) (hs : s.size ≤ 1048576) :
    Calls Try.prog 5 #[.pointer (some ⟨x, 0, none⟩), .string s] w fun e w' => ∃ v, e = .returned v ∧ w'.ownsRow w.heap.size 105 6 v (t.events p s).length (evsCells (t.events p s)) ∧ Keep w.heap.size w.heap.size w w' := by
  have HB : Hid (Calls Try.prog 9 #[.pointer (some ⟨x, 0, none⟩)] w fun e w' => ∃ b, e = .returned (.pointer (some ⟨b, 0, none⟩)) ∧ w.heap.size ≤ b ∧ b < w'.heap.size ∧ RunAt w' b (Rs.born t p) (.slice none 0 0) ∧ Keep w.heap.size w.heap.size w w') := lexBegin_calls x p S t w hx hT hS ft
  have HT : Hid (TabAt w S p t ∧ ∀ k, S k → k < w.heap.size) := ⟨hT, hS⟩
  have HI : Hid ((Rs.feed t (nats s) (Rs.born t p)).1.Good t (0 + (nats s).length) ∧ (Rs.feed t (nats s) (Rs.born t p)).2.length + (Rs.feed t (nats s) (Rs.born t p)).1.count ≤ 1 + s.size) := by
    obtain ⟨h1, h2, _⟩ := Rs.feed_inv t ft.ok (nats s) (Rs.born t p) 0 (Rs.born_good t p ft) (nats_lt s)
    rw [nats_length] at h2
    have e1 : (Rs.born t p).count = 0 := rfl
    have e2 : opnN (Rs.born t p).opn = 1 := rfl
    exact ⟨h1, by omega⟩
  clear hx hT hS
  go_enter Try.func5, Try.ntmps5
  go_wp2_with fail
  refine HB.out.mono ?_
  rintro e w1 ⟨b, rfl, hb1, hb2, hR, hk1⟩
  have C1 : Hid (Cv w1.heap.size b S t w1 (Rs.born t p) (.slice none 0 0) []) := by
    refine ⟨hR, World.ownsRow_nil _ _ _ _, HT.out.1.keep fun k hk => ?_, hb2, Nat.le_refl _, fun k hk => ?_⟩
    · have := HT.out.2 k hk
      exact hk1.block k this (by omega)
    · have := HT.out.2 k hk
      omega
  have K1 : Hid (Keep w.heap.size w.heap.size w w1) := hk1
  have hb1' := hb1
  clear hR hk1 HB
  go_wp2_with fail
  refine (scanPush_calls b w1.heap.size S t w1 (Rs.born t p) s 0 C1.out ft (Rs.born_good t p ft) (by omega)).mono ?_
  rintro e w2 ⟨v1, rfl, hR2, hO2, hk2⟩
  have C2 : Hid (Cv w2.heap.size b S t w2 (Rs.feed t (nats s) (Rs.born t p)).1 (.slice none 0 0) []) := by
    have hsz := hk2.size
    refine ⟨hR2, World.ownsRow_nil _ _ _ _, ?_, by omega, Nat.le_refl _, fun k hk => ?_⟩
    · have htp : (Rs.feed t (nats s) (Rs.born t p)).1.tp = p := Rs.feed_tp t (nats s) (Rs.born t p)
      rw [htp]
      refine C1.out.tab.keep fun k hk => ?_
      have := HT.out.2 k hk
      exact hk2.block k (by omega) (by omega)
    · have := HT.out.2 k hk
      omega
  have K2 : Hid (Keep w.heap.size w.heap.size w w2) := K1.out.trans (hk2.less (by omega) (by omega))
  have O2 : Hid (w2.ownsRow w1.heap.size 105 6 v1 (Rs.feed t (nats s) (Rs.born t p)).2.length (evsCells (Rs.feed t (nats s) (Rs.born t p)).2)) := hO2
  clear hR2 hO2 hk2 C1
  go_wp2_with fail
  refine (scanClose_calls b w2.heap.size S t w2 _ _ C2.out ft HI.out.1 (by rw [nats_length]; omega)).mono ?_
  rintro e w3 ⟨v2, rfl, hR3, hO3, hk3⟩
  have K3 : Hid (Keep w.heap.size w.heap.size w w3) := K2.out.trans (hk3.less K2.out.size (by omega))
  have O3 : Hid (w3.ownsRow w.heap.size 105 6 v1 (Rs.feed t (nats s) (Rs.born t p)).2.length (evsCells (Rs.feed t (nats s) (Rs.born t p)).2)) := by
    have h := O2.out
    refine ⟨h.1, h.2.imp id ?_⟩
    rintro ⟨g, cap, cur, hv, hg, hh, rest⟩
    have hlt := (Array.getElem?_eq_some_iff.1 hh).1
    exact ⟨g, cap, cur, hv, by omega, (hk3.block g hlt (by omega)).trans hh, rest⟩
  have hLen : (Rs.feed t (nats s) (Rs.born t p)).2.length + ((Rs.feed t (nats s) (Rs.born t p)).1.shut t).2.length ≤ 2 + s.size := by
    have h1 := Rs.shut_len _ t _ ft.ok HI.out.1
    have h2 := HI.out.2
    omega
  have HL : Hid (w3.ownsRow w2.heap.size 105 6 v2 ((Rs.feed t (nats s) (Rs.born t p)).1.shut t).2.length (evsCells ((Rs.feed t (nats s) (Rs.born t p)).1.shut t).2)) := hO3
  have HE : Hid (t.events p s = (Rs.feed t (nats s) (Rs.born t p)).2 ++ ((Rs.feed t (nats s) (Rs.born t p)).1.shut t).2) := rfl
  have hsz3 : w.heap.size ≤ w3.heap.size := K3.out.size
  clear hR3 hO3 hk3 C2 O2
  generalize (Rs.feed t (nats s) (Rs.born t p)).2 = l1 at *
  generalize ((Rs.feed t (nats s) (Rs.born t p)).1.shut t).2 = l2 at *
  obtain ⟨i0, hi0, hz0, hz1, hz2⟩ := info_parts Try.infoEv
  rcases HL.out.2 with ⟨hv2, hn2⟩ | ⟨g, cap, cur, hv2, _, hg2, _, _, _, htk⟩
  · have HN : Hid (l2 = []) := List.length_eq_zero_iff.1 hn2
    subst hv2
    clear hn2 HL
    go_wp2_with (first | (at_builtin; refine wpList_append_own_none rfl _ _ 32 rfl w.heap.size 105 i0 6 Try.underlying32 hi0 _ _ _ rfl O3.out rfl ?_))
    go_ret
    refine ⟨v1, rfl, ?_, K3.out⟩
    rw [HE.out, HN.out, List.append_nil]
    exact O3.out
  · have hl2 : (evsCells l2).length = l2.length * 6 := evsCells_length l2
    have hcells : ∀ j u, (evsCells l2)[j]? = some u → w3.cell? ((⟨g, 0, none⟩ : Addr).add j) = some u := by
      rw [hv2] at HL
      exact HL.out.cells rfl
    have HC : Hid (∀ j u, (evsCells l2)[j]? = some u → w3.cell? ((⟨g, 0, none⟩ : Addr).add j) = some u) := hcells
    subst hv2
    clear hcells HL hg2 htk
    go_wp2_with (first | (at_builtin; refine wpList_append_own _ rfl _ _ 32 rfl w.heap.size 105 i0 _ 6 48 Try.underlying32 hi0 hz0 hz1 hz2 rfl (by decide) _ _ _ rfl O3.out ⟨g, 0, none⟩ l2.length cap (evsCells l2) rfl hl2 HC.out (evsCells_one l2) (by unfold maxLen; omega) (by omega) hsz3 ?_; intro v4 w4 hown hgrow hnil))
    have HO : Hid _ := hown
    have HG : Hid _ := hgrow
    clear hown hgrow hnil
    go_wp2_with fail
    go_ret
    refine ⟨v4, rfl, ?_, K3.out.trans (Keep.grownEnd HG.out hsz3 fun k hk => (O3.out.lt k hk).1)⟩
    rw [HE.out, List.length_append, evsCells_append]
    exact HO.out
end Go.Proofs.Yteflpladkmihdaa
