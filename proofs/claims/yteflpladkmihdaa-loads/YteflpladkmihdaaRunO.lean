/- The other engine takes a byte, and is closed. -/
import Derived.Test.YteflpladkmihdaaRunK
import Derived.Test.YteflpladkmihdaaRunL
set_option linter.unusedVariables false
set_option linter.unusedSimpArgs false
namespace Go.Proofs.Yteflpladkmihdaa
open Go.RowKit

theorem held_calls (b H : Nat) (S : Nat → Prop) (t : Tb) (w : World) (r : Rs) {v0 : Value} (es : List Ev) (P C : Nat) (hC : Cv H b S t w r v0 es) (ok : t.Ok) (hact : ∀ i, i < t.nrule → t.act i < 4) (hO : r.Oth t P) (hP : P ≤ 1073741824) (hn : es.length + r.count + opnN r.opn ≤ C) (hC4 : C ≤ 4194304) :
    Calls Try.prog 48 #[.pointer (some ⟨b, 0, none⟩)] w fun e w' =>
      e = .returned (.tuple #[]) ∧ ∃ v, Cv H b S t w' (r.heldAll t).1 v (es ++ (r.heldAll t).2) ∧ Keep H b w w' :=
  (takeHeld_calls b H S t w r es P C hC ok hact hO hP hn hC4).mono fun e w' ⟨he, v, n, h1, h2, _, _, h5⟩ => by
    rw [r.heldAll_eq t P ok hO n h5] at h1
    exact ⟨he, v, h1, h2⟩

set_option maxHeartbeats 4000000 in
set_option maxRecDepth 100000 in
theorem takeO_calls (b H : Nat) (S : Nat → Prop) (t : Tb) (w : World) (r : Rs) {v0 : Value} (es : List Ev) (P C c : Nat) (hC : Cv H b S t w r v0 es) (ok : t.Ok) (hact : ∀ i, i < t.nrule → t.act i < 4) (hO : r.Oth t P) (hP : P < 1073741824) (hn : es.length + r.count + opnN r.opn ≤ C) (hC4 : C < 4194304) (hcb : c < 256) :
    Calls Try.prog 32 #[.pointer (some ⟨b, 0, none⟩), .int .u8 c] w fun e w' =>
      e = .returned (.tuple #[]) ∧ ∃ v, Cv H b S t w' (r.takeO t c).1 v (es ++ (r.takeO t c).2) ∧ Keep H b w w' := by
  have HC : Hid (Cv H b S t w r v0 es) := hC
  have y0 : w.cell? ⟨b, 0, none⟩ = some (.pointer (some ⟨r.tp, 0, none⟩)) := hC.run.get_tp
  have y77 : w.cell? ⟨b, 77, none⟩ = some (.int .i64 r.count) := hC.run.get_count
  have x2 : w.cell? ⟨r.tp, 2, none⟩ = some (.int .i64 t.hold) := hC.tab.c2
  have hh := ok.hold
  clear hC
  by_cases hf : t.hold ≤ r.count
  · have i1 : (t.hold : Int) ≤ (r.count : Int) := by omega
    have HF : Hid (r.takeO t c = ({ r with opn := false }, [r.lastEv 6])) := if_pos hf
    clear hf
    go_enter Try.func32, Try.ntmps32
    go_wp2_with fail
    go_quiet (fail)
    go_wp2_with fail
    refine (last_calls b H S t 6 _ r v0 _ _ (Cx.alike (w' := w.drewN nq) HC.out ⟨rfl, rfl, rfl⟩) (by omega)).mono ?_
    rintro e w2 ⟨rfl, ao, cap, c2, k2⟩
    have C2 : Hid (Cx _ _ _ _ _ _ _ _ _) := c2
    clear c2
    go_wp2_with fail
    refine bodyPost_ret (results_none rfl _ _ _) rfl ?_
    refine ⟨rfl, .slice ao (es.length + 1) cap, ?_, Keep.trans (w := w) (w' := w.drewN nq) (Keep.alike ⟨rfl, rfl, rfl⟩) k2⟩
    rw [HF.out]
    unfold Cv
    rw [evsCells_snoc, List.length_append]
    exact C2.out
  · have i1 : (r.count : Int) < (t.hold : Int) := by omega
    have hlt : r.count < 64 := by omega
    have HF : Hid (r.takeO t c = (r.added c).heldAll t) := if_neg hf
    have HO2 : Hid ((r.added c).Oth t (P + 1)) := r.added_oth t P c hO hcb hlt
    have hfst := hO.ok.first
    clear hf
    go_enter Try.func32, Try.ntmps32
    go_wp2_with fail
    go_quiet (fail)
    obtain ⟨w1, hw1, C1, K1⟩ : ∃ w1, w1 = w.drewN nq ∧ Hid (Cv H b S t w1 r v0 es) ∧ Hid (Keep H b w w1) := ⟨_, rfl, Cx.alike (w' := w.drewN nq) HC.out ⟨rfl, rfl, rfl⟩, Keep.alike ⟨rfl, rfl, rfl⟩⟩
    rw [← hw1]
    clear hw1 y0 y77 x2
    go_wp2_with fail
    refine (add_calls b c _ r C1.out.run hfst hlt).mono ?_
    rintro e w2 ⟨rfl, hR2, hk2⟩
    have C2 : Hid (Cv H b S t w2 (r.added c) v0 es) := Cx.kept C1.out hk2 hR2 rfl
    have K2 : Hid (Keep H b w w2) := K1.out.trans (hk2 H)
    clear hk2 hR2 C1 K1
    go_wp2_with fail
    refine (held_calls b H S t w2 (r.added c) es (P + 1) (C + 1) C2.out ok hact HO2.out (by omega) (by show es.length + (r.count + 1) + opnN r.opn ≤ C + 1; omega) (by omega)).mono ?_
    rintro e w3 ⟨rfl, v3, c3, k3⟩
    have C3 : Hid (Cv H b S t w3 (r.takeO t c).1 v3 (es ++ (r.takeO t c).2) ∧ Keep H b w w3) := ⟨by rw [HF.out]; exact c3, K2.out.trans k3⟩
    clear c3 k3
    go_wp2_with fail
    go_end0
    exact ⟨rfl, v3, C3.out.1, C3.out.2⟩

set_option maxHeartbeats 4000000 in
set_option maxRecDepth 100000 in
theorem closeO_calls (b H : Nat) (S : Nat → Prop) (t : Tb) (w : World) (r0 : Rs) {v0 : Value} (es0 : List Ev) (P C : Nat) (hC : Cv H b S t w r0 v0 es0) (ok : t.Ok) (hact : ∀ i, i < t.nrule → t.act i < 4) (hO : r0.Oth t P) (hP : P ≤ 1073741824) (hn : es0.length + r0.count + opnN r0.opn ≤ C) (hC4 : C ≤ 4194304) :
    Calls Try.prog 35 #[.pointer (some ⟨b, 0, none⟩)] w fun e w' =>
      e = .returned (.tuple #[]) ∧ ∃ v, Cv H b S t w' (r0.closeO t).1 v (es0 ++ (r0.closeO t).2) ∧ Keep H b w w' := by
  have HC0 : Hid (Cv H b S t w r0 v0 es0 ∧ r0.Oth t P ∧ es0.length + r0.count + opnN r0.opn ≤ C) := ⟨hC, hO, hn⟩
  clear hC hO hn
  go_enter Try.func35, Try.ntmps35
  refine wp_seq_k ?_
  intro K hK0
  have HK : Hid (∀ a w, _ → K a w) := hK0
  clear hK0
  go_wp2_with fail
  go_loopg [] (r0.count + opnN r0.opn) (fun q wr => ∃ (n : Nat) (r : Rs) (es : List Ev) (v : Value), q = r.count + opnN r.opn ∧ r0.endN t n = (r, es) ∧ Cv H b S t wr r v (es0 ++ es) ∧ Keep H b w wr ∧ r.Oth t P ∧ (es0 ++ es).length + r.count + opnN r.opn ≤ C)
  case atStart => exact ⟨0, r0, [], v0, rfl, rfl, by rw [List.append_nil]; exact HC0.out.1, Keep.refl _ _ _, HC0.out.2.1, by rw [List.append_nil]; exact HC0.out.2.2⟩
  case round =>
    obtain ⟨n, r, es, v, hgk, hN, hC, hk, hO, hn⟩ := hrel
    have AA : Hid (gk = r.count + opnN r.opn ∧ r0.endN t n = (r, es) ∧ Cv H b S t wr r v (es0 ++ es) ∧ Keep H b w wr ∧ r.Oth t P ∧ (es0 ++ es).length + r.count + opnN r.opn ≤ C) := ⟨hgk, hN, hC, hk, hO, hn⟩
    have y1 : wr.cell? ⟨b, 1, none⟩ = some (.bool r.opn) := hC.run.get_opn
    have y77 : wr.cell? ⟨b, 77, none⟩ = some (.int .i64 r.count) := hC.run.get_count
    have hct := hO.ok.count
    have htk := hO.tak
    have hpp := hO.pos
    have hll := hO.line
    have hcl := hO.col
    clear hgk hN hC hk hO hn
    by_cases hcond : 0 < r.count ∧ r.opn = true
    · obtain ⟨hlt, hop⟩ := hcond
      have i1 : (0 : Int) < (r.count : Int) := by omega
      rw [hop] at y1
      have HOP : Hid (r.opn = true) := hop
      have INV := r.endO_inv t P ok AA.out.2.2.2.2.1 hop hlt
      have hB := AA.out.2.2.2.2.2
      rw [hop] at hB
      have hB2 : (es0 ++ es).length + r.count + 1 ≤ C := hB
      obtain ⟨l1, l2, l3, l4⟩ := r.long_inv t P ok AA.out.2.2.2.2.1 hop hlt
      have HNX : Hid (r0.endN t (n + 1) = ((r.endO t).1, es ++ (r.endO t).2)) := by show _ = _; rw [Rs.endN, AA.out.2.1, if_pos ⟨hlt, hop⟩]
      have HI : Hid ((r.endO t).1.Oth t P ∧ (r.endO t).2.length + (r.endO t).1.count + opnN (r.endO t).1.opn ≤ r.count + 1 ∧ ((r.endO t).1.opn = true ∨ (r.endO t).2 ≠ []) ∧ (r.endO t).1.count + opnN (r.endO t).1.opn < r.count + 1) := INV
      have HLG : Hid (Calls Try.prog 50 #[.pointer (some ⟨b, 0, none⟩)] wr fun e w' => e = .returned (.tuple #[]) ∧ ∃ v, Cv H b S t w' (r.long t).1 v ((es0 ++ es) ++ (r.long t).2) ∧ Keep H b wr w') := longest_calls b H S t wr r (es0 ++ es) AA.out.2.2.1 (by omega) ok hact AA.out.2.2.2.2.1.ok (Nat.le_trans AA.out.2.2.2.2.1.len htk) AA.out.2.2.2.2.1.rule (by omega) (by omega) (by omega)
      have HL : Hid ((r.long t).1.Oth t P ∧ ((es0 ++ es) ++ (r.long t).2).length + (r.long t).1.count + opnN (r.long t).1.opn ≤ C) := ⟨l1, by rw [List.length_append]; omega⟩
      clear hop INV hB l1 l2 l3 l4
      go_wp2_with fail
      refine Calls.mono HLG.out ?_
      rintro e w1 ⟨rfl, v1, c1, k1⟩
      have C1 : Hid (Cv H b S t w1 (r.long t).1 v1 ((es0 ++ es) ++ (r.long t).2)) := c1
      clear c1 HLG
      go_wp2_with fail
      refine (held_calls b H S t w1 (r.long t).1 ((es0 ++ es) ++ (r.long t).2) P C C1.out ok hact HL.out.1 hP HL.out.2 hC4).mono ?_
      rintro e w2 ⟨rfl, v2, c2, k2⟩
      have CZ : Hid (Cv H b S t w2 (r.endO t).1 v2 (es0 ++ (es ++ (r.endO t).2)) ∧ Keep H b w w2) := by
        refine ⟨?_, (AA.out.2.2.2.1.trans k1).trans k2⟩
        rw [List.append_assoc, List.append_assoc] at c2
        exact c2
      clear c2 k2 k1
      go_wp2_with fail
      go_roundg ((r.endO t).1.count + opnN (r.endO t).1.opn)
      case measure => rw [AA.out.1, HOP.out]; exact HI.out.2.2.2
      case rel => exact ⟨n + 1, (r.endO t).1, es ++ (r.endO t).2, v2, rfl, HNX.out, CZ.out.1, CZ.out.2, HI.out.1, by have h2 := HI.out.2.1; rw [List.length_append, List.length_append]; rw [List.length_append] at hB2; omega⟩
    · have HE : Hid (r0.endAll t = (r, es)) := by
        show _ = _
        rw [← r0.endAll_eq t P ok HC0.out.2.1 n (by rw [AA.out.2.1]; exact hcond), AA.out.2.1]
      by_cases hop : r.opn = true
      · have hc0 : ¬ 0 < r.count := fun h => hcond ⟨h, hop⟩
        have i1 : (r.count : Int) ≤ 0 := by omega
        rw [hop] at y1
        have HF : Hid (r0.closeO t = ({ r with opn := false }, es ++ [r.lastEv 2])) := by
          show _ = _
          unfold Rs.closeO
          rw [HE.out, if_pos hop]
        clear hcond
        go_wp2_with fail
        refine HK.out _ _ ?_
        clear HK
        go_wp2_with fail
        refine (last_calls b H S t 2 _ r v _ _ AA.out.2.2.1 (by have := AA.out.2.2.2.2.2; omega)).mono ?_
        rintro e w2 ⟨rfl, ao, cap, c2, k2⟩
        have C2 : Hid (Cx _ _ _ _ _ _ _ _ _) := c2
        clear c2
        go_wp2_with fail
        go_end0
        refine ⟨rfl, .slice ao ((es0 ++ es).length + 1) cap, ?_, AA.out.2.2.2.1.trans k2⟩
        rw [HF.out]
        show Cv H b S t w2 _ _ (es0 ++ (es ++ [r.lastEv 2]))
        unfold Cv
        rw [← List.append_assoc, evsCells_snoc, List.length_append (bs := [r.lastEv 2])]
        exact C2.out
      · have hop' : r.opn = false := by simpa using hop
        rw [hop'] at y1
        have HF : Hid (r0.closeO t = (r, es)) := by
          show _ = _
          unfold Rs.closeO
          rw [HE.out, if_neg hop]
        clear hcond hop hop'
        by_cases hc0 : 0 < r.count
        · have i1 : (0 : Int) < (r.count : Int) := by omega
          go_wp2_with fail
          refine HK.out _ _ ?_
          clear HK
          go_wp2_with fail
          go_end0
          exact ⟨rfl, v, by rw [HF.out]; exact AA.out.2.2.1, AA.out.2.2.2.1⟩
        · have i1 : (r.count : Int) ≤ 0 := by omega
          go_wp2_with fail
          refine HK.out _ _ ?_
          clear HK
          go_wp2_with fail
          go_end0
          exact ⟨rfl, v, by rw [HF.out]; exact AA.out.2.2.1, AA.out.2.2.2.1⟩
end Go.Proofs.Yteflpladkmihdaa
