/- tables.Load. -/
import Derived.Test.YteflpladkmihdaaLoRToSmA
import Derived.Test.YteflpladkmihdaaSmBToSmC
set_option linter.unusedVariables false
set_option linter.unusedSimpArgs false
namespace Go.Proofs.Yteflpladkmihdaa
open Go.RowKit

/-- Tables of noughts. -/
def zeroTc : Tc := ⟨.bool false, .int .i64 0, .int .i64 0, .slice none 0 0, .slice none 0 0, .slice none 0 0, .slice none 0 0, .int .i64 0, .slice none 0 0, .slice none 0 0, .slice none 0 0, .int .i64 0, .slice none 0 0⟩

/-- What the body has read are the tables that bytes are. -/
theorem P1.mem {H a b : Nat} {s : ByteArray} {w : World} {c : Tc} {k : Bool} (h : P1 H a b s (hModes s) (hRules s) (hStates s) (hKinds s) (hWays s) w c 13 k) (hbH : b < H) (hHH : H ≤ w.heap.size)
    (c0 : c.stream = .bool (decide (hStream s = 1))) (c1 : c.ahead = .int .i64 (hAhead s : Nat)) (c2 : c.hold = .int .i64 (hHold s : Nat)) (c7 : c.count = .int .i64 (hKinds s : Nat)) (c11 : c.rows = .int .i64 (hWays s : Nat)) (c10 : c.live = .slice none 0 0) :
    ∃ c', MemB w H b c' (tbOf s) ∧ c'.live = .slice none 0 0 ∧ ∃ p, RdAt w a s p (k && restK s) := by
  obtain ⟨v3, r3, v4, v5, r4, r5, v6, r6, v8, rv, r8, r8', v9, r9, v12, r12, hrd, htp⟩ := h
  refine ⟨_, ⟨htp, c0, c1, c2, c7, c11, r3, r4, r5, r6, ⟨rv, r8, r8'⟩, r9, r12, hbH, hHH⟩, c10, _, hrd.to rfl ?_⟩
  unfold restK q6 q5 q4 q3 q2 nbit
  simp only [Bool.and_assoc]

theorem Rt.still {H a b : Nat} {w0 w w' : World} {s : ByteArray} {p : Nat} {k : Bool} {c : Tc} {L : List (Nat × Obj)} (h : Rt H a b w0 w s p k c L) (e : Keep w.heap.size w.heap.size w w') : Rt H a b w0 w' s p k c L := by
  have hb : ∀ k, k < w.heap.size → w'.heap[k]? = w.heap[k]? := fun k hk => e.block k hk (by omega)
  have hH := h.HH
  exact ⟨h.rd.of_block (hb _ h.rd.lt), h.tb.of_block (hb _ h.tb.lt), fun x hx => ⟨(hb _ (Array.getElem?_eq_some_iff.1 (h.own x hx).1).1).trans (h.own x hx).1, (h.own x hx).2⟩, h.kept.trans ⟨e.os, e.output, e.size, fun k hk _ _ => hb k (by omega)⟩, h.ab, h.aH, h.bH, Nat.le_trans h.HH e.size⟩
/-- From a new beginning. -/
theorem Rt.anew {H a b : Nat} {w0 w : World} {s : ByteArray} {p : Nat} {k : Bool} {c : Tc} {L : List (Nat × Obj)} (h : Rt H a b w0 w s p k c L) : Rt H a b w w s p k c [] :=
  ⟨h.rd, h.tb, fun x hx => absurd hx (List.not_mem_nil), Kept.refl _ _ _ _, h.ab, h.aH, h.bH, h.HH⟩
/-- What was there before the two blocks is as it was. -/
theorem Kept.old {w w2 w3 : World} {H a b : Nat} (h : Kept H a b w2 w3) (h2 : Keep w.heap.size w.heap.size w w2) (ha : w.heap.size ≤ a) (hb : w.heap.size ≤ b) (hH : w.heap.size ≤ H) : Keep w.heap.size w.heap.size w w3 :=
  h2.trans ⟨h.os, h.output, h.size, fun k hk _ => h.block k (by omega) (by omega) (by omega)⟩

set_option maxHeartbeats 4000000 in
set_option maxRecDepth 100000 in
theorem tload_calls (s : ByteArray) (w : World) (hs : s.size ≤ 1048576) :
    Calls Try.prog 12 #[.string s] w fun e w' => Keep w.heap.size w.heap.size w w' ∧
      (validB s = false → e = .returned (.tuple #[.pointer none, .bool false])) ∧
      (validB s = true → ∃ b H c n, e = .returned (.tuple #[.pointer (some ⟨b, 0, none⟩), .bool true]) ∧ w.heap.size ≤ b ∧ Mem w' H b c ((tbOf s).first.itr n) ∧ (((tbOf s).first.itr n).spreadTo (hStates s)).2 = false) := by
  have HV : Hid (validB s = (headOk s && fitsB s && sumOk s && restK s)) := valid_same s
  go_enter Try.func12, Try.ntmps12
  go_wp2_with fail
  obtain ⟨w2, hw2, R2, KW⟩ : ∃ w2, w2 = (w.alloc (.cells #[.string s, .int .i64 0, .bool true] 66)).alloc (.cells #[.bool false, .int .i64 0, .int .i64 0, .slice none 0 0, .slice none 0 0, .slice none 0 0, .slice none 0 0, .int .i64 0, .slice none 0 0, .slice none 0 0, .slice none 0 0, .int .i64 0, .slice none 0 0] 72) ∧
      Hid (Rt (w.heap.size + 2) w.heap.size (w.heap.size + 1) w2 w2 s 0 true zeroTc []) ∧ Hid (Keep w.heap.size w.heap.size w w2) := by
    refine ⟨_, rfl, ⟨?_, ?_, fun x hx => absurd hx (List.not_mem_nil), Kept.refl _ _ _ _, by omega, by omega, by omega, by simp⟩, ?_⟩
    · exact (Below.heap_alloc _ _ _ (by simp)).trans (heap_alloc_new w _)
    · have h := heap_alloc_new (w.alloc (.cells #[.string s, .int .i64 0, .bool true] 66)) (.cells #[.bool false, .int .i64 0, .int .i64 0, .slice none 0 0, .slice none 0 0, .slice none 0 0, .slice none 0 0, .int .i64 0, .slice none 0 0, .slice none 0 0, .slice none 0 0, .int .i64 0, .slice none 0 0] 72)
      rw [show (w.alloc (.cells #[.string s, .int .i64 0, .bool true] 66)).heap.size = w.heap.size + 1 by simp] at h
      exact h
    · exact (Keep.alloc _ _ (Nat.le_refl _)).trans (Keep.alloc _ _ (by simp))
  rw [← hw2]
  clear hw2
  refine (head_calls w.heap.size (w.heap.size + 1) (w.heap.size + 2) w2 s zeroTc R2.out hs).mono ?_
  rintro e w3 ⟨rfl, R3⟩
  have K3 : Hid (Keep w.heap.size w.heap.size w w3) := R3.kept.old KW.out (by omega) (by omega) (by omega)
  have R3a : Hid (Rt (w.heap.size + 2) w.heap.size (w.heap.size + 1) w2 w3 s 13 (headOk s) _ []) := R3
  have xk := R3.rd.c2
  have la := R3.rd.lt
  have lb := R3.tb.lt
  clear R3 R2 KW
  cases hh : headOk s with
  | false =>
    rw [hh] at xk
    go_wp2_with fail
    go_ret2
    refine ⟨K3.out.trans (Keep.alloc _ _ K3.out.size), fun _ => rfl, fun hv => ?_⟩
    rw [HV.out] at hv
    simp [hh] at hv
  | true =>
    rw [hh] at xk
    have hhi := (headOk_iff s).1 hh
    have g1 : hModes s ≤ 3 := within_le _ _ _ (by decide)
    have g2 : hRules s ≤ 8 := within_le _ _ _ (by decide)
    have g3 : hStates s ≤ 200 := within_le _ _ _ (by decide)
    have g4 : hKinds s ≤ 256 := within_le _ _ _ (by decide)
    have g5 : hWays s ≤ 3000 := hhi.2.2.2.2.2.2.2.2.2.1
    clear hhi
    go_wp2_with fail
    refine (length_calls (hModes s) (hRules s) (hStates s) (hKinds s) (hWays s) _ g1 g2 g3 g4 g5).mono ?_
    rintro e w4 ⟨rfl, hB4⟩
    have R4 : Hid (Rt (w.heap.size + 2) w.heap.size (w.heap.size + 1) w2 w4 s 13 (headOk s) _ [(w3.heap.size, .cells #[.int .i64 (hModes s : Nat), .int .i64 (hRules s : Nat), .int .i64 (hStates s : Nat), .int .i64 (hKinds s : Nat), .int .i64 (hWays s : Nat)] 74)]) := (R3a.out.alloc _).below hB4
    have K4 : Hid (Keep w.heap.size w.heap.size w w4) := (K3.out.trans (Keep.alloc _ _ K3.out.size)).trans (Keep.below hB4 (by have := K3.out.size; simp; omega))
    clear hB4 xk R3a K3 la lb
    by_cases hfit : s.size = sizeOf_ (hModes s) (hRules s) (hStates s) (hKinds s) (hWays s) + 4
    · have i1 : ((s.size : Int) != ((sizeOf_ (hModes s) (hRules s) (hStates s) (hKinds s) (hWays s) + 4 : Nat) : Int)) = false := by rw [bne_eq_false_iff_eq]; omega
      have hf : fitsB s = true := decide_eq_true hfit
      have h4 : 4 ≤ s.size := by omega
      clear hfit
      generalize sizeOf_ (hModes s) (hRules s) (hStates s) (hKinds s) (hWays s) + 4 = nn at *
      go_wp2_with fail
      refine (hasSum_calls s w4 h4 hs).mono ?_
      rintro e w5 ⟨rfl, hk5⟩
      rw [show (sumB (s.extract 0 (s.size - 4)) == bigB (s.extract (s.size - 4) s.size)) = sumOk s from rfl]
      have R5 : Hid (Rt (w.heap.size + 2) w.heap.size (w.heap.size + 1) w2 w5 s 13 (headOk s) _ [(w3.heap.size, .cells #[.int .i64 (hModes s : Nat), .int .i64 (hRules s : Nat), .int .i64 (hStates s : Nat), .int .i64 (hKinds s : Nat), .int .i64 (hWays s : Nat)] 74)]) := R4.out.still hk5
      have K5 : Hid (Keep w.heap.size w.heap.size w w5) := K4.out.trans ⟨hk5.os, hk5.output, hk5.size, fun k hk _ => hk5.block k (by have := K4.out.size; omega) (by have := K4.out.size; omega)⟩
      clear hk5 R4 K4 i1
      cases hsm : sumOk s with
      | false =>
        go_wp2_with fail
        go_ret2
        refine ⟨K5.out, fun _ => rfl, fun hv => ?_⟩
        rw [HV.out] at hv
        simp [hsm] at hv
      | true =>
        have xb : w5.heap[w3.heap.size]? = some (.cells #[.int .i64 (hModes s : Nat), .int .i64 (hRules s : Nat), .int .i64 (hStates s : Nat), .int .i64 (hKinds s : Nat), .int .i64 (hWays s : Nat)] 74) := (R5.out.own _ List.mem_cons_self).1
        have x0 : w5.cell? ⟨w3.heap.size, 0, none⟩ = some (.int .i64 (hModes s : Nat)) := by simp [World.cell?, xb]
        have x1 : w5.cell? ⟨w3.heap.size, 1, none⟩ = some (.int .i64 (hRules s : Nat)) := by simp [World.cell?, xb]
        have x2 : w5.cell? ⟨w3.heap.size, 2, none⟩ = some (.int .i64 (hStates s : Nat)) := by simp [World.cell?, xb]
        have x3 : w5.cell? ⟨w3.heap.size, 3, none⟩ = some (.int .i64 (hKinds s : Nat)) := by simp [World.cell?, xb]
        have x4 : w5.cell? ⟨w3.heap.size, 4, none⟩ = some (.int .i64 (hWays s : Nat)) := by simp [World.cell?, xb]
        clear xb
        go_wp2_with fail
        refine (body_calls w.heap.size (w.heap.size + 1) (w.heap.size + 2) w5 s 13 (headOk s) _ (hModes s) (hRules s) (hStates s) (hKinds s) (hWays s) R5.out.anew hs ⟨le_within _ _ _, g1⟩ ⟨le_within _ _ _, g2⟩ ⟨le_within _ _ _, g3⟩ ⟨le_within _ _ _, g4⟩ g5 rfl rfl rfl rfl rfl).mono ?_
        rintro e w6 ⟨rfl, hP, hk6⟩
        have hs6 : w.heap.size + 2 ≤ w6.heap.size := Nat.le_trans R5.out.HH hk6.size
        have K6 : Hid (Keep w.heap.size w.heap.size w w6) := K5.out.trans ⟨hk6.os, hk6.output, hk6.size, fun k hk _ => hk6.block k (by have := R5.out.HH; omega) (by omega) (by omega)⟩
        obtain ⟨c6, hM6, hl6, p6, hrd⟩ := hP.mem (by omega) hs6 rfl rfl rfl rfl rfl rfl
        have xk := hrd.c2
        rw [hh, Bool.true_and] at xk
        have M6 : Hid (MemB w6 (w.heap.size + 2) (w.heap.size + 1) c6 (tbOf s) ∧ c6.live = .slice none 0 0) := ⟨hM6, hl6⟩
        clear hP hk6 hM6 hl6 hrd R5 K5 x0 x1 x2 x3 x4
        cases hr : restK s with
        | false =>
          rw [hr] at xk
          go_wp2_with fail
          go_ret2
          refine ⟨K6.out, fun _ => rfl, fun hv => ?_⟩
          rw [HV.out] at hv
          simp [hr] at hv
        | true =>
          rw [hr] at xk
          have hmk : metF s (q3 s) 256 = hKinds s := by
            have h := hr
            unfold restK at h
            simp only [Bool.and_eq_true, decide_eq_true_iff] at h
            exact h.1.1.1.2.2
          have hok := tbOf_ok s hh hmk
          clear hmk
          go_wp2_with fail
          refine (findLive_calls w6 (w.heap.size + 2) (w.heap.size + 1) c6 (tbOf s) M6.out.1 M6.out.2 hok (le_within _ _ _) (le_within _ _ _)).mono ?_
          rintro e w7 ⟨rfl, v, n, hM7, hsp, hk7⟩
          have A7 : Hid (Mem w7 (w.heap.size + 2) (w.heap.size + 1) { c6 with live := v } ((tbOf s).first.itr n) ∧ (((tbOf s).first.itr n).spreadTo (hStates s)).2 = false ∧ Keep w.heap.size w.heap.size w w7) := ⟨hM7, hsp, K6.out.trans ⟨hk7.os, hk7.output, hk7.size, fun k hk _ => hk7.block k (by omega) (by omega)⟩⟩
          clear hM7 hsp hk7
          go_wp2_with fail
          go_ret2
          refine ⟨A7.out.2.2, fun hv => ?_, fun _ => ⟨w.heap.size + 1, w.heap.size + 2, _, n, rfl, by omega, A7.out.1, A7.out.2.1⟩⟩
          rw [HV.out, hh, hf, hsm, hr] at hv
          cases hv
    · have i1 : ((s.size : Int) != ((sizeOf_ (hModes s) (hRules s) (hStates s) (hKinds s) (hWays s) + 4 : Nat) : Int)) = true := by rw [bne_iff_ne]; omega
      have hf : fitsB s = false := decide_eq_false hfit
      clear hfit
      generalize sizeOf_ (hModes s) (hRules s) (hStates s) (hKinds s) (hWays s) + 4 = nn at *
      go_wp2_with fail
      go_ret2
      refine ⟨K4.out, fun _ => rfl, fun hv => ?_⟩
      rw [HV.out] at hv
      simp [hf] at hv
end Go.Proofs.Yteflpladkmihdaa
