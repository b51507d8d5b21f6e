/- The other engine takes what is held. -/
import Derived.Test.YteflpladkmihdaaRunIToRunJ
set_option linter.unusedVariables false
set_option linter.unusedSimpArgs false
namespace Go.Proofs.Yteflpladkmihdaa
open Go.RowKit

set_option maxHeartbeats 400000 in
theorem at_quiet (b i : Nat) (w : World) (r : Rs) {v0 : Value} (hR : RunAt w b r v0) (hf : r.first < 64) (hi : i < 64) :
    Calls Try.prog 54 #[.pointer (some ⟨b, 12, none⟩), .int .i64 i] w fun e w' => e = .returned (.int .u8 (r.byte ((r.first + i) % 64))) ∧ ∃ m, w' = w.drewN m := by
  have h1 := hR.get_first
  have hx := hR.get_byte ((r.first + i) % 64) (Nat.mod_lt _ (by decide))
  clear hR
  generalize r.first = f at *
  go_enter Try.func54, Try.ntmps54
  go_wp2
  go_quiet (fail)
  go_wp2
  go_ret
  exact ⟨rfl, _, rfl⟩

set_option maxHeartbeats 8000000 in
set_option maxRecDepth 100000 in
theorem takeHeld_calls (b H : Nat) (S : Nat → Prop) (t : Tb) (w : World) (r0 : Rs) {v0 : Value} (es0 : List Ev) (P C : Nat) (hC : Cv H b S t w r0 v0 es0) (ok : t.Ok) (hact : ∀ i, i < t.nrule → t.act i < 4) (hO : r0.Oth t P) (hP : P ≤ 1073741824) (hn : es0.length + r0.count + opnN r0.opn ≤ C) (hC4 : C ≤ 4194304) :
    Calls Try.prog 48 #[.pointer (some ⟨b, 0, none⟩)] w fun e w' =>
      e = .returned (.tuple #[]) ∧ ∃ v n, Cv H b S t w' (r0.heldN t n).1 v (es0 ++ (r0.heldN t n).2) ∧ Keep H b w w' ∧ (r0.heldN t n).1.Oth t P ∧ (es0 ++ (r0.heldN t n).2).length + (r0.heldN t n).1.count + opnN (r0.heldN t n).1.opn ≤ C ∧ ¬ ((r0.heldN t n).1.taken < (r0.heldN t n).1.count ∧ (r0.heldN t n).1.opn = true) := by
  have HC0 : Hid (Cv H b S t w r0 v0 es0 ∧ r0.Oth t P ∧ es0.length + r0.count + opnN r0.opn ≤ C) := ⟨hC, hO, hn⟩
  clear hC hO hn
  go_enter Try.func48, Try.ntmps48
  go_wp2_with fail
  go_loopg [] r0.todo (fun q wr => ∃ (n : Nat) (r : Rs) (es : List Ev) (v : Value), q = r.todo ∧ r0.heldN t n = (r, es) ∧ Cv H b S t wr r v (es0 ++ es) ∧ Keep H b w wr ∧ r.Oth t P ∧ (es0 ++ es).length + r.count + opnN r.opn ≤ C)
  case atStart => exact ⟨0, r0, [], v0, rfl, rfl, by rw [List.append_nil]; exact HC0.out.1, Keep.refl _ _ _, HC0.out.2.1, by rw [List.append_nil]; exact HC0.out.2.2⟩
  case round =>
    obtain ⟨n, r, es, v, hgk, hN, hC, hk, hO, hn⟩ := hrel
    have AA : Hid (gk = r.todo ∧ r0.heldN t n = (r, es) ∧ Cv H b S t wr r v (es0 ++ es) ∧ Keep H b w wr ∧ r.Oth t P ∧ (es0 ++ es).length + r.count + opnN r.opn ≤ C) := ⟨hgk, hN, hC, hk, hO, hn⟩
    have y1 : wr.cell? ⟨b, 1, none⟩ = some (.bool r.opn) := hC.run.get_opn
    have y77 : wr.cell? ⟨b, 77, none⟩ = some (.int .i64 r.count) := hC.run.get_count
    have y82 : wr.cell? ⟨b, 82, none⟩ = some (.int .i64 r.taken) := hC.run.get_taken
    have hok := hO.ok
    have htk := hO.tak
    have hct := hO.ok.count
    clear hgk hN hC hk hO hn
    by_cases hcond : r.taken < r.count ∧ r.opn = true
    · obtain ⟨hlt, hop⟩ := hcond
      have i1 : (r.taken : Int) < (r.count : Int) := by omega
      rw [hop] at y1
      have HOP : Hid (r.opn = true) := hop
      clear hop
      go_wp2_with fail
      go_quiet (fail)
      obtain ⟨w1, hw1, C1, K1⟩ : ∃ w1, w1 = wr.drewN nq ∧ Hid (Cv H b S t w1 r v (es0 ++ es)) ∧ Hid (Keep H b w w1) := ⟨_, rfl, Cx.alike (w' := wr.drewN nq) AA.out.2.2.1 ⟨rfl, rfl, rfl⟩, AA.out.2.2.2.1.trans (Keep.alike ⟨rfl, rfl, rfl⟩)⟩
      rw [← hw1]
      clear hw1 y1 y77 y82
      have y82 : w1.cell? ⟨b, 82, none⟩ = some (.int .i64 r.taken) := C1.out.run.get_taken
      have HAT : Hid (∀ q, Calls Try.prog 54 #[.pointer (some ⟨b, 12, none⟩), .int .i64 r.taken] (w1.drewN q) fun e w' => e = .returned (.int .u8 (r.byte ((r.first + r.taken) % 64))) ∧ ∃ m, w' = (w1.drewN q).drewN m) := fun q => at_quiet b r.taken _ r (Cx.alike (w' := w1.drewN q) C1.out ⟨rfl, rfl, rfl⟩).run hok.first (by omega)
      have hcb := hok.bytes ((r.first + r.taken) % 64) (Nat.mod_lt _ (by decide))
      have HST : Hid (r.ate t = { r with taken := r.taken + 1, state := t.next r.state (t.kind (r.byte ((r.first + r.taken) % 64))) }) := rfl
      generalize r.byte ((r.first + r.taken) % 64) = c at *
      have hst := hok.state
      have HOT : Hid (r.Oth t P) := AA.out.2.2.2.2.1
      go_wp2_with fail
      go_quiet ((go_at_call 54; exact Calls.quiet_of (HAT.out _)))
      obtain ⟨w2, hw2, C2, K2⟩ : ∃ w2, w2 = w1.drewN nq ∧ Hid (Cv H b S t w2 r v (es0 ++ es)) ∧ Hid (Keep H b w w2) := ⟨_, rfl, Cx.alike (w' := w1.drewN nq) C1.out ⟨rfl, rfl, rfl⟩, K1.out.trans (Keep.alike ⟨rfl, rfl, rfl⟩)⟩
      rw [← hw2]
      clear hw2 y82 C1 K1 HAT
      have y82 : w2.cell? ⟨b, 82, none⟩ = some (.int .i64 r.taken) := C2.out.run.get_taken
      have z82 := C2.out.run.frozen 82
      have y0 : w2.cell? ⟨b, 0, none⟩ = some (.pointer (some ⟨r.tp, 0, none⟩)) := C2.out.run.get_tp
      have y11 : w2.cell? ⟨b, 11, none⟩ = some (.int .i64 r.state) := C2.out.run.get_state
      go_wp2_with fail
      obtain ⟨w3, hw3, C3, K3⟩ : ∃ w3, w3 = w2.setCell ⟨b, 82, none⟩ (.int .i64 ((r.taken : Int) + 1)) ∧ Hid (Cv H b S t w3 { r with taken := r.taken + 1 } v (es0 ++ es)) ∧ Hid (Keep H b w w3) := ⟨_, rfl, Cx.stored C2.out 82 _ (C2.out.run.set_taken (r.taken + 1)) rfl, K2.out.trans (Keep.set _ _ _)⟩
      rw [← hw3]
      clear hw3 y82 z82 y0 y11 C2 K2
      have y0 : w3.cell? ⟨b, 0, none⟩ = some (.pointer (some ⟨r.tp, 0, none⟩)) := C3.out.run.get_tp
      have y11 : w3.cell? ⟨b, 11, none⟩ = some (.int .i64 r.state) := C3.out.run.get_state
      have z11 := C3.out.run.frozen 11
      have tb3 : Hid (TabAt w3.drew S r.tp t) := (Cx.alike (w' := w3.drew) C3.out ⟨rfl, rfl, rfl⟩).tab
      have HRA : Hid ((r.ate t).Oth t P ∧ True) := ⟨r.ate_oth t P ok HOT.out hlt, trivial⟩
      have HSTEP : Hid (r.heldStep t = if t.live ((r.ate t).marked t).state then ((r.ate t).marked t, []) else ((r.ate t).marked t).long t) := rfl
      have INV : Hid ((r.heldStep t).1.Oth t P ∧ (r.heldStep t).2.length + (r.heldStep t).1.count + opnN (r.heldStep t).1.opn ≤ r.count + 1 ∧ ((r.heldStep t).1.opn = true ∨ (r.heldStep t).2 ≠ []) ∧ (r.heldStep t).1.todo < r.todo) := r.held_inv t P ok HOT.out HOP.out hlt
      have HNX : Hid (r0.heldN t (n + 1) = ((r.heldStep t).1, es ++ (r.heldStep t).2)) := by show _ = _; rw [Rs.heldN, AA.out.2.1, if_pos ⟨hlt, HOP.out⟩]
      generalize r.ate t = ra at *
      go_wp2_with fail
      go_region_with ((go_at_call 57; go_must ((refine (step_calls r.tp _ S t tb3.out ok r.state c hst hcb).mono ?_; rintro e w5 ⟨rfl, ha5⟩; have q11 : w5.cell? ⟨b, 11, none⟩ = some (.int .i64 r.state) := (ha5.cell ⟨b, 11, none⟩).trans y11; have z5 : w5.frozen? ⟨b, 11, none⟩ = false := (ha5.frozen ⟨b, 11, none⟩).trans z11))))
      all_goals
        have c5 : Hid (Cv H b S t w5 { r with taken := r.taken + 1 } v (es0 ++ es)) := Cx.alike C3.out ha5
        have k5 : Hid (Keep H b w w5) := K3.out.trans (Keep.alike ha5)
        obtain ⟨w6, hw6, C6, K6⟩ : ∃ w6, w6 = w5.setCell ⟨b, 11, none⟩ (.int .i64 (t.next r.state (t.kind c) : Nat)) ∧ Hid (Cv H b S t w6 ra v (es0 ++ es)) ∧ Hid (Keep H b w w6) := ⟨_, rfl, by rw [HST.out]; exact Cx.stored c5.out 11 _ (c5.out.run.set_state (t.next r.state (t.kind c))) rfl, k5.out.trans (Keep.set _ _ _)⟩
        clear c5 k5 ha5
        go_wp2_with fail
        rw [← hw6]
        clear hw6 q11 z5 y0 y11 z11
        have y0 : w6.cell? ⟨b, 0, none⟩ = some (.pointer (some ⟨ra.tp, 0, none⟩)) := C6.out.run.get_tp
        have y11 : w6.cell? ⟨b, 11, none⟩ = some (.int .i64 ra.state) := C6.out.run.get_state
        obtain ⟨_, h9, b9, o9, cap9, hb9, rfl, hcap9, hml9, hL9⟩ := C6.out.tab.c9
        have hsa := HRA.out.1.ok.state
        have hx9 : w6.cell? ⟨b9, o9 + ra.state, none⟩ = some (.int .i64 (t.ends ra.state)) := hL9 _ hsa
        have ia : (ra.state : Int) < (t.nst : Int) := by omega
        clear hL9
        by_cases hen : t.ends ra.state = -1
        · have ie : (t.ends ra.state != -1) = false := by rw [hen]; rfl
          have HMR : Hid (ra.marked t = ra) := by show _ = _; unfold Rs.marked; rw [if_pos hen]
          clear hen
          generalize t.ends ra.state = ee at *
          go_wp2_with fail
          go_quiet (fail)
          obtain ⟨wm, hwm, CM, KM⟩ : ∃ wm, wm = w6.drewN nq ∧ Hid (Cv H b S t wm (ra.marked t) v (es0 ++ es)) ∧ Hid (Keep H b w wm) := ⟨_, rfl, by show Cv _ _ _ _ _ _ _ _; rw [HMR.out]; exact Cx.alike (w' := w6.drewN nq) C6.out ⟨rfl, rfl, rfl⟩, K6.out.trans (Keep.alike ⟨rfl, rfl, rfl⟩)⟩
          rw [← hwm]
          clear hwm y0 y11 h9 hx9 C6 K6
          have HM : Hid ((ra.marked t).Oth t P ∧ True) := ⟨ra.marked_oth t P ok HRA.out.1, trivial⟩
          generalize ra.marked t = rm at *
          go_wp2_with fail
          have y0 : wm.cell? ⟨b, 0, none⟩ = some (.pointer (some ⟨rm.tp, 0, none⟩)) := CM.out.run.get_tp
          have y11 : wm.cell? ⟨b, 11, none⟩ = some (.int .i64 rm.state) := CM.out.run.get_state
          obtain ⟨_, h10, b10, o10, cap10, hb10, rfl, hcap10, hml10, hL10⟩ := CM.out.tab.c10
          have hsm := HM.out.1.ok.state
          have hx10 : wm.cell? ⟨b10, o10 + rm.state, none⟩ = some (.bool (t.live rm.state)) := hL10 _ hsm
          have im : (rm.state : Int) < (t.nst : Int) := by omega
          clear hL10
          cases hlv : t.live rm.state with
          | true =>
            rw [hlv] at hx10
            have HE : Hid (r.heldStep t = (rm, [])) := by show _ = _; rw [HSTEP.out, if_pos hlv]
            clear hlv
            go_wp2_with fail
            go_quiet (fail)
            obtain ⟨w9, hw9, C9, K9⟩ : ∃ w9, w9 = wm.drewN nq ∧ Hid (Cv H b S t w9 rm v (es0 ++ es)) ∧ Hid (Keep H b w w9) := ⟨_, rfl, Cx.alike (w' := wm.drewN nq) CM.out ⟨rfl, rfl, rfl⟩, KM.out.trans (Keep.alike ⟨rfl, rfl, rfl⟩)⟩
            rw [← hw9]
            clear hw9
            go_wp2_with fail
            have hI := INV.out
            rw [HE.out] at hI
            have hB := AA.out.2.2.2.2.2
            rw [HOP.out] at hB
            go_roundg rm.todo
            case measure => rw [AA.out.1]; exact hI.2.2.2
            case rel => exact ⟨n + 1, rm, es, v, rfl, by rw [HNX.out, HE.out, List.append_nil], C9.out, K9.out, hI.1, by have h2 : 0 + rm.count + opnN rm.opn ≤ r.count + 1 := hI.2.1; have h3 : (es0 ++ es).length + r.count + 1 ≤ C := hB; omega⟩
          | false =>
            rw [hlv] at hx10
            have HE : Hid (r.heldStep t = rm.long t) := by show _ = _; rw [HSTEP.out, if_neg (by rw [hlv]; decide)]
            clear hlv
            go_wp2_with fail
            go_quiet (fail)
            obtain ⟨w9, hw9, C9, K9⟩ : ∃ w9, w9 = wm.drewN nq ∧ Hid (Cv H b S t w9 rm v (es0 ++ es)) ∧ Hid (Keep H b w w9) := ⟨_, rfl, Cx.alike (w' := wm.drewN nq) CM.out ⟨rfl, rfl, rfl⟩, KM.out.trans (Keep.alike ⟨rfl, rfl, rfl⟩)⟩
            rw [← hw9]
            clear hw9 y0 y11 h10 hx10
            have hI := INV.out
            rw [HE.out] at hI
            have hB := AA.out.2.2.2.2.2
            rw [HOP.out] at hB
            have hB2 : (es0 ++ es).length + r.count + 1 ≤ C := hB
            have hpp := HM.out.1.pos
            have hll := HM.out.1.line
            have hcl := HM.out.1.col
            have HLG : Hid (Calls Try.prog 50 #[.pointer (some ⟨b, 0, none⟩)] w9 fun e w' => e = .returned (.tuple #[]) ∧ ∃ v, Cv H b S t w' (rm.long t).1 v ((es0 ++ es) ++ (rm.long t).2) ∧ Keep H b w9 w') := longest_calls b H S t w9 rm (es0 ++ es) C9.out (by omega) ok hact HM.out.1.ok (Nat.le_trans HM.out.1.len HM.out.1.tak) HM.out.1.rule (by omega) (by omega) (by omega)
            have HI : Hid ((rm.long t).1.Oth t P ∧ (rm.long t).2.length + (rm.long t).1.count + opnN (rm.long t).1.opn ≤ r.count + 1 ∧ ((rm.long t).1.opn = true ∨ (rm.long t).2 ≠ []) ∧ (rm.long t).1.todo < r.todo) := hI
            clear hI hB hpp hll hcl
            go_wp2_with fail
            refine Calls.mono HLG.out ?_
            rintro e w10 ⟨rfl, v10, c10, k10⟩
            have CZ : Hid (Cv H b S t w10 (rm.long t).1 v10 (es0 ++ (es ++ (rm.long t).2)) ∧ Keep H b w w10) := ⟨by rw [← List.append_assoc]; exact c10, K9.out.trans k10⟩
            clear c10 k10 HLG
            go_wp2_with fail
            go_roundg (rm.long t).1.todo
            case measure => rw [AA.out.1]; exact HI.out.2.2.2
            case rel => exact ⟨n + 1, (rm.long t).1, es ++ (rm.long t).2, v10, rfl, by rw [HNX.out, HE.out], CZ.out.1, CZ.out.2, HI.out.1, by have h2 := HI.out.2.1; rw [List.length_append, List.length_append]; rw [List.length_append] at hB2; omega⟩
        · have ie : (t.ends ra.state != -1) = true := by rw [bne_iff_ne]; exact hen
          have HMR : Hid (ra.marked t = { ra with rule := t.ends ra.state, length := ra.taken }) := by show _ = _; unfold Rs.marked; rw [if_neg hen]
          clear hen
          obtain ⟨ee, hee⟩ : ∃ ee, ee = t.ends ra.state := ⟨_, rfl⟩
          rw [← hee] at hx9 ie HMR
          clear hee
          go_wp2_with fail
          go_quiet (fail)
          obtain ⟨w7, hw7, C7, K7⟩ : ∃ w7, w7 = w6.drewN nq ∧ Hid (Cv H b S t w7 ra v (es0 ++ es)) ∧ Hid (Keep H b w w7) := ⟨_, rfl, Cx.alike (w' := w6.drewN nq) C6.out ⟨rfl, rfl, rfl⟩, K6.out.trans (Keep.alike ⟨rfl, rfl, rfl⟩)⟩
          have x9 : w7.cell? ⟨b9, o9 + ra.state, none⟩ = some (.int .i64 ee) := by rw [hw7]; exact hx9
          have x9' : w7.cell? ⟨ra.tp, 9, none⟩ = some (.slice (some ⟨b9, o9, none⟩) t.nst cap9) := by rw [hw7]; exact h9
          rw [← hw7]
          clear hw7 y0 y11 h9 hx9 C6 K6
          have y0 : w7.cell? ⟨b, 0, none⟩ = some (.pointer (some ⟨ra.tp, 0, none⟩)) := C7.out.run.get_tp
          have y11 : w7.cell? ⟨b, 11, none⟩ = some (.int .i64 ra.state) := C7.out.run.get_state
          have y84 : w7.cell? ⟨b, 84, none⟩ = some (.int .i64 ra.rule) := C7.out.run.get_rule
          have z84 := C7.out.run.frozen 84
          have y82 : w7.cell? ⟨b, 82, none⟩ = some (.int .i64 ra.taken) := C7.out.run.get_taken
          have y83 : w7.cell? ⟨b, 83, none⟩ = some (.int .i64 ra.length) := C7.out.run.get_length
          have z83 := C7.out.run.frozen 83
          have nb9 : b9 ≠ b := (C7.out.safe _ hb9).2
          have ntp : ra.tp ≠ b := (C7.out.safe _ C7.out.tab.safe).2
          go_wp2_with fail
          go_region
          all_goals
            go_wp2_with fail
            obtain ⟨wm, hwm, CM, KM⟩ : ∃ wm, wm = ((w7.setCell ⟨b, 84, none⟩ (.int .i64 ee)).setCell ⟨b, 83, none⟩ (.int .i64 (ra.taken : Nat))).drew ∧ Hid (Cv H b S t wm (ra.marked t) v (es0 ++ es)) ∧ Hid (Keep H b w wm) := by
              have d1 := Cx.stored C7.out 84 _ (C7.out.run.set_rule ee) rfl
              have d2 := d1.stored 83 _ (d1.run.set_length ra.taken) rfl
              exact ⟨_, rfl, by show Cv _ _ _ _ _ _ _ _; rw [HMR.out]; exact Cx.alike d2 ⟨rfl, rfl, rfl⟩, ((K7.out.trans (Keep.set _ _ _)).trans (Keep.set _ _ _)).trans (Keep.drew _)⟩
            rw [← hwm]
            clear hwm y0 y11 y84 z84 y82 y83 z83 x9 x9' C7 K7
            have HM : Hid ((ra.marked t).Oth t P ∧ True) := ⟨ra.marked_oth t P ok HRA.out.1, trivial⟩
            generalize ra.marked t = rm at *
            have y0 : wm.cell? ⟨b, 0, none⟩ = some (.pointer (some ⟨rm.tp, 0, none⟩)) := CM.out.run.get_tp
            have y11 : wm.cell? ⟨b, 11, none⟩ = some (.int .i64 rm.state) := CM.out.run.get_state
            obtain ⟨_, h10, b10, o10, cap10, hb10, rfl, hcap10, hml10, hL10⟩ := CM.out.tab.c10
            have hsm := HM.out.1.ok.state
            have hx10 : wm.cell? ⟨b10, o10 + rm.state, none⟩ = some (.bool (t.live rm.state)) := hL10 _ hsm
            have im : (rm.state : Int) < (t.nst : Int) := by omega
            clear hL10
            cases hlv : t.live rm.state with
            | true =>
              rw [hlv] at hx10
              have HE : Hid (r.heldStep t = (rm, [])) := by show _ = _; rw [HSTEP.out, if_pos hlv]
              clear hlv
              go_wp2_with fail
              go_quiet (fail)
              obtain ⟨w9, hw9, C9, K9⟩ : ∃ w9, w9 = wm.drewN nq ∧ Hid (Cv H b S t w9 rm v (es0 ++ es)) ∧ Hid (Keep H b w w9) := ⟨_, rfl, Cx.alike (w' := wm.drewN nq) CM.out ⟨rfl, rfl, rfl⟩, KM.out.trans (Keep.alike ⟨rfl, rfl, rfl⟩)⟩
              rw [← hw9]
              clear hw9
              go_wp2_with fail
              have hI := INV.out
              rw [HE.out] at hI
              have hB := AA.out.2.2.2.2.2
              rw [HOP.out] at hB
              go_roundg rm.todo
              case measure => rw [AA.out.1]; exact hI.2.2.2
              case rel => exact ⟨n + 1, rm, es, v, rfl, by rw [HNX.out, HE.out, List.append_nil], C9.out, K9.out, hI.1, by have h2 : 0 + rm.count + opnN rm.opn ≤ r.count + 1 := hI.2.1; have h3 : (es0 ++ es).length + r.count + 1 ≤ C := hB; omega⟩
            | false =>
              rw [hlv] at hx10
              have HE : Hid (r.heldStep t = rm.long t) := by show _ = _; rw [HSTEP.out, if_neg (by rw [hlv]; decide)]
              clear hlv
              go_wp2_with fail
              go_quiet (fail)
              obtain ⟨w9, hw9, C9, K9⟩ : ∃ w9, w9 = wm.drewN nq ∧ Hid (Cv H b S t w9 rm v (es0 ++ es)) ∧ Hid (Keep H b w w9) := ⟨_, rfl, Cx.alike (w' := wm.drewN nq) CM.out ⟨rfl, rfl, rfl⟩, KM.out.trans (Keep.alike ⟨rfl, rfl, rfl⟩)⟩
              rw [← hw9]
              clear hw9 y0 y11 h10 hx10
              have hI := INV.out
              rw [HE.out] at hI
              have hB := AA.out.2.2.2.2.2
              rw [HOP.out] at hB
              have hB2 : (es0 ++ es).length + r.count + 1 ≤ C := hB
              have hpp := HM.out.1.pos
              have hll := HM.out.1.line
              have hcl := HM.out.1.col
              have HLG : Hid (Calls Try.prog 50 #[.pointer (some ⟨b, 0, none⟩)] w9 fun e w' => e = .returned (.tuple #[]) ∧ ∃ v, Cv H b S t w' (rm.long t).1 v ((es0 ++ es) ++ (rm.long t).2) ∧ Keep H b w9 w') := longest_calls b H S t w9 rm (es0 ++ es) C9.out (by omega) ok hact HM.out.1.ok (Nat.le_trans HM.out.1.len HM.out.1.tak) HM.out.1.rule (by omega) (by omega) (by omega)
              have HI : Hid ((rm.long t).1.Oth t P ∧ (rm.long t).2.length + (rm.long t).1.count + opnN (rm.long t).1.opn ≤ r.count + 1 ∧ ((rm.long t).1.opn = true ∨ (rm.long t).2 ≠ []) ∧ (rm.long t).1.todo < r.todo) := hI
              clear hI hB hpp hll hcl
              go_wp2_with fail
              refine Calls.mono HLG.out ?_
              rintro e w10 ⟨rfl, v10, c10, k10⟩
              have CZ : Hid (Cv H b S t w10 (rm.long t).1 v10 (es0 ++ (es ++ (rm.long t).2)) ∧ Keep H b w w10) := ⟨by rw [← List.append_assoc]; exact c10, K9.out.trans k10⟩
              clear c10 k10 HLG
              go_wp2_with fail
              go_roundg (rm.long t).1.todo
              case measure => rw [AA.out.1]; exact HI.out.2.2.2
              case rel => exact ⟨n + 1, (rm.long t).1, es ++ (rm.long t).2, v10, rfl, by rw [HNX.out, HE.out], CZ.out.1, CZ.out.2, HI.out.1, by have h2 := HI.out.2.1; rw [List.length_append, List.length_append]; rw [List.length_append] at hB2; omega⟩
    · have HE : Hid (¬ (r.taken < r.count ∧ r.opn = true)) := hcond
      have fin_ : Hid (∃ v m, Cv H b S t wr (r0.heldN t m).1 v (es0 ++ (r0.heldN t m).2) ∧ Keep H b w wr ∧ (r0.heldN t m).1.Oth t P ∧ (es0 ++ (r0.heldN t m).2).length + (r0.heldN t m).1.count + opnN (r0.heldN t m).1.opn ≤ C ∧ ¬ ((r0.heldN t m).1.taken < (r0.heldN t m).1.count ∧ (r0.heldN t m).1.opn = true)) := by
        refine ⟨v, n, ?_⟩
        rw [AA.out.2.1]
        exact ⟨AA.out.2.2.1, AA.out.2.2.2.1, AA.out.2.2.2.2.1, AA.out.2.2.2.2.2, HE.out⟩
      by_cases hlt : r.taken < r.count
      · have i1 : (r.taken : Int) < (r.count : Int) := by omega
        have hop : r.opn = false := by
          cases h : r.opn with
          | false => rfl
          | true => exact absurd ⟨hlt, h⟩ hcond
        rw [hop] at y1
        clear hop hcond
        go_wp2_with fail
        go_quiet (fail)
        obtain ⟨w1, hw1, FN⟩ : ∃ w1, w1 = wr.drewN nq ∧ Hid (∃ v m, Cv H b S t w1 (r0.heldN t m).1 v (es0 ++ (r0.heldN t m).2) ∧ Keep H b w w1 ∧ (r0.heldN t m).1.Oth t P ∧ (es0 ++ (r0.heldN t m).2).length + (r0.heldN t m).1.count + opnN (r0.heldN t m).1.opn ≤ C ∧ ¬ ((r0.heldN t m).1.taken < (r0.heldN t m).1.count ∧ (r0.heldN t m).1.opn = true)) := by
          obtain ⟨v, m, f1, f2, f3⟩ := fin_.out
          exact ⟨_, rfl, v, m, Cx.alike (w' := wr.drewN nq) f1 ⟨rfl, rfl, rfl⟩, f2.trans (Keep.alike ⟨rfl, rfl, rfl⟩), f3⟩
        rw [← hw1]
        clear hw1 fin_
        go_wp2_with fail
        go_end0
        exact ⟨rfl, FN.out⟩
      · have i1 : (r.count : Int) ≤ (r.taken : Int) := by omega
        clear hcond
        go_wp2_with fail
        go_quiet (fail)
        obtain ⟨w1, hw1, FN⟩ : ∃ w1, w1 = wr.drewN nq ∧ Hid (∃ v m, Cv H b S t w1 (r0.heldN t m).1 v (es0 ++ (r0.heldN t m).2) ∧ Keep H b w w1 ∧ (r0.heldN t m).1.Oth t P ∧ (es0 ++ (r0.heldN t m).2).length + (r0.heldN t m).1.count + opnN (r0.heldN t m).1.opn ≤ C ∧ ¬ ((r0.heldN t m).1.taken < (r0.heldN t m).1.count ∧ (r0.heldN t m).1.opn = true)) := by
          obtain ⟨v, m, f1, f2, f3⟩ := fin_.out
          exact ⟨_, rfl, v, m, Cx.alike (w' := wr.drewN nq) f1 ⟨rfl, rfl, rfl⟩, f2.trans (Keep.alike ⟨rfl, rfl, rfl⟩), f3⟩
        rw [← hw1]
        clear hw1 fin_
        go_wp2_with fail
        go_end0
        exact ⟨rfl, FN.out⟩
end Go.Proofs.Yteflpladkmihdaa
