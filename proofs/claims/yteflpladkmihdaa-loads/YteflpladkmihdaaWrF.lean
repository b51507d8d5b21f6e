/- Tables as bytes. -/
import Derived.Test.YteflpladkmihdaaWrE
set_option linter.unusedVariables false
set_option linter.unusedSimpArgs false
namespace Go.Proofs.Yteflpladkmihdaa
open Go.RowKit

set_option maxHeartbeats 4000000 in
set_option maxRecDepth 100000 in
theorem tbytes_calls (b : Nat) (S : Nat → Prop) (t : Tb) (w : World) (hT : TabAt w S b t) (hS : ∀ k, S k → k < w.heap.size) (ok : t.Ok) (hn1 : 1 ≤ t.nst) (hc1 : 1 ≤ t.count) (hl1 : 1 ≤ t.nlong) (hl2 : t.nlong ≤ 75000) (hr1 : 1 ≤ t.nrule) (hr2 : t.nrule ≤ 8) (hm2 : t.nmode ≤ 3) (hact : ∀ i, i < t.nrule → t.act i < 4) :
    Calls Try.prog 15 #[.pointer (some ⟨b, 0, none⟩)] w fun e w' => (∃ r : ByteArray, e = .returned (.string r) ∧ r.data.toList = sealed t.bytesL) ∧ Keep w.heap.size w.heap.size w w' := by
  have HT : Hid (TabAt w S b t) := hT
  have HS : Hid (∀ k, S k → k < w.heap.size) := hS
  clear hT hS
  go_enter Try.func15, Try.ntmps15
  refine wp_seq_k ?_
  intro K0 hK0
  have HK0 : Hid (∀ a w, _ → K0 a w) := hK0
  clear hK0
  go_wp2_with fail
  refine HK0.out _ _ ?_
  clear HK0
  refine wp_seq_k ?_
  intro K1 hK1
  have HK1 : Hid (∀ a w, _ → K1 a w) := hK1
  clear hK1
  go_wp2_with fail
  refine HK1.out _ _ ?_
  clear HK1
  obtain ⟨w1, hw1, A1⟩ : ∃ w1, w1 = w.alloc (.cells #[.slice none 0 0] 81) ∧ Hid (Wx (w.heap.size + 1) w.heap.size S b t w1 [] ∧ Keep w.heap.size w.heap.size w w1) :=
    ⟨_, rfl, ⟨⟨⟨.slice none 0 0, heap_alloc_new w _, World.ownsRow_nil _ _ _ _⟩, Nat.lt_succ_self _, by simp⟩, HT.out.keep fun k hk => Below.heap_alloc _ _ _ (HS.out k hk), fun k hk => by have := HS.out k hk; omega⟩, Keep.alloc _ _ (Nat.le_refl _)⟩
  rw [← hw1]
  clear hw1
  refine wp_seq_k ?_
  intro K2 hK2
  have HK2 : Hid (∀ a w, _ → K2 a w) := hK2
  clear hK2
  go_wp2_with fail
  refine (whead_calls (w.heap.size + 1) w.heap.size b S t w1 A1.out.1 ok hr2 hm2).mono ?_
  rintro e w2 ⟨rfl, hW2, hk2⟩
  have A2 : Hid (Wx (w.heap.size + 1) w.heap.size S b t w2 t.headL ∧ Keep w.heap.size w.heap.size w w2) := ⟨hW2, A1.out.2.trans ⟨hk2.os, hk2.output, hk2.size, fun k hk hne => hk2.block k (by omega) hne⟩⟩
  clear hW2 hk2 A1
  go_wp2_with fail
  refine HK2.out _ _ (body_mono (by_3 (w.heap.size + 1) w.heap.size b S t w2 _ A2.out.1 ok (by simp [Tb.headL, two]) (fun x hx => ?_) hn1 hc1 hl1 hl2 hr1 hr2 hm2 hact) ?_)
  · have h1 : streamN t < 256 := by unfold streamN; split <;> omega
    have h2 : t.ahead % 256 < 256 := Nat.mod_lt _ (by decide)
    have h3 : t.hold % 256 < 256 := Nat.mod_lt _ (by decide)
    unfold Tb.headL at hx
    simp only [List.mem_append] at hx
    rcases hx with (((hx | hx) | hx) | hx) | hx
    · simp at hx
      rcases hx with rfl | rfl | rfl | rfl | rfl <;> omega
    · exact two_lt _ _ hx
    · exact two_lt _ _ hx
    · exact two_lt _ _ hx
    · exact two_lt _ _ hx
  · rintro e w' ⟨he, hK⟩
    exact ⟨he, A2.out.2.trans ⟨hK.os, hK.output, hK.size, fun k hk hne => hK.block k (by omega) hne⟩⟩

/-- A run of bytes, as numbers. -/
def seg (s : ByteArray) (p n : Nat) : List Nat := (List.range n).map fun i => byt s (p + i)
theorem seg_add (s : ByteArray) (p n m : Nat) : seg s p (n + m) = seg s p n ++ seg s (p + n) m := by
  induction m with
  | zero => simp [seg]
  | succ m ih =>
    unfold seg at *
    rw [← Nat.add_assoc, range_snoc, ih, range_snoc, List.append_assoc, Nat.add_assoc]
theorem two_byt2 (s : ByteArray) (p : Nat) : two (byt2 s p) = seg s p 2 := by
  have h1 := byt_lt s p
  have h2 := byt_lt s (p + 1)
  have e1 : (256 * byt s p + byt s (p + 1)) / 256 % 256 = byt s p := by omega
  have e2 : (256 * byt s p + byt s (p + 1)) % 256 = byt s (p + 1) := by omega
  show [byt2 s p / 256 % 256, byt2 s p % 256] = [byt s (p + 0), byt s (p + 1)]
  unfold byt2
  rw [e1, e2]
  rfl
theorem flat_seg (s : ByteArray) (p n : Nat) (f : Nat → Nat) (h : ∀ i, i < n → f i = byt2 s (p + 2 * i)) : (List.range n).flatMap (fun i => two (f i)) = seg s p (2 * n) := by
  induction n with
  | zero => rfl
  | succ n ih => rw [flat_snoc, ih fun i hi => h i (by omega), h n (by omega), two_byt2, Nat.mul_succ, seg_add]
theorem map_seg (s : ByteArray) (p n : Nat) (f : Nat → Nat) (h : ∀ i, i < n → f i = byt s (p + i)) : (List.range n).map f = seg s p n := List.map_congr_left fun i hi => h i (List.mem_range.1 hi)

theorem bytes_same (s : ByteArray) (h : headOk s = true) (hr : restK s = true) (hfit : s.size = sizeOf_ (hModes s) (hRules s) (hStates s) (hKinds s) (hWays s) + 4) : (tbOf s).bytesL = seg s 0 (s.size - 4) := by
  have hh := (headOk_iff s).1 h
  unfold restK at hr
  simp only [Bool.and_eq_true, decide_eq_true_iff] at hr
  obtain ⟨⟨⟨⟨⟨r1, r2⟩, r3, r4⟩, r5⟩, r6⟩, r7⟩ := hr
  rw [toK_iff] at r1
  rw [ruleK_iff] at r2
  rw [kindsK_iff] at r3
  rw [nextK_iff] at r5
  rw [endK_iff] at r6
  rw [bitK_iff] at r7
  have e0 : (tbOf s).headL = seg s 0 13 := by
    have m1 : hModes s = byt2 s 5 := within_yes (by omega)
    have m2 : hRules s = byt2 s 7 := within_yes (by omega)
    have m3 : hStates s = byt2 s 9 := within_yes (by omega)
    have m4 : hKinds s = byt2 s 11 := within_yes (by omega)
    have m5 : hAhead s = byt s 3 := within_yes (by have := byt_lt s 3; omega)
    have m6 : hStream s = byt s 2 := within_yes (by omega)
    have m7 : hHold s = byt s 4 := within_yes (by omega)
    have hs : streamN (tbOf s) = byt s 2 := by
      show (if decide (hStream s = 1) then 1 else 0) = byt s 2
      rw [m6]
      by_cases e : byt s 2 = 1
      · rw [decide_eq_true e, e]; rfl
      · rw [decide_eq_false e]; show 0 = _; omega
    have h3 := byt_lt s 3
    have h4 := byt_lt s 4
    unfold Tb.headL
    show [76, 88, streamN (tbOf s), hAhead s % 256, hHold s % 256] ++ two (hModes s) ++ two (hRules s) ++ two (hStates s) ++ two (hKinds s) = _
    rw [hs, m1, m2, m3, m4, m5, m7, two_byt2, two_byt2, two_byt2, two_byt2, Nat.mod_eq_of_lt h3, Nat.mod_eq_of_lt h4]
    rw [show (13 : Nat) = 5 + 2 + 2 + 2 + 2 from rfl, seg_add, seg_add, seg_add, seg_add]
    rw [show seg s 0 5 = [76, 88, byt s 2, byt s 3, byt s 4] from ?_]
    show [byt s (0 + 0), byt s (0 + 1), byt s (0 + 2), byt s (0 + 3), byt s (0 + 4)] = _
    simp only [Nat.zero_add]
    rw [hh.2.1, hh.2.2.1]
  have e1 : (tbOf s).startsL (tbOf s).nmode = seg s 13 (2 * hModes s) := flat_seg s 13 (hModes s) _ fun i hi => within_yes ⟨Nat.zero_le _, (r1 i hi).2⟩
  have e2 : (tbOf s).rulesL (tbOf s).nrule = seg s (q2 s) (2 * hRules s) := by
    show (List.range (hRules s)).flatMap (fun i => [actF s (q2 s) i % 256, pushF s (q2 s) (hModes s) i % 256]) = _
    have key : ∀ n, n ≤ hRules s → (List.range n).flatMap (fun i => [actF s (q2 s) i % 256, pushF s (q2 s) (hModes s) i % 256]) = seg s (q2 s) (2 * n) := by
      intro n
      induction n with
      | zero => intro _; rfl
      | succ n ih =>
        intro hn
        have f1 : actF s (q2 s) n = byt s (q2 s + 2 * n) := within_yes ⟨Nat.zero_le _, (r2 n (by omega)).2.1⟩
        have f2 : pushF s (q2 s) (hModes s) n = byt s (q2 s + 2 * n + 1) := within_yes ⟨Nat.zero_le _, (r2 n (by omega)).2.2⟩
        have g1 := byt_lt s (q2 s + 2 * n)
        have g2 := byt_lt s (q2 s + 2 * n + 1)
        rw [flat_snoc, ih (by omega), f1, f2, Nat.mod_eq_of_lt g1, Nat.mod_eq_of_lt g2, Nat.mul_succ, seg_add]
        rfl
    exact key _ (Nat.le_refl _)
  have e3 : (tbOf s).kindsL 256 = seg s (q3 s) 256 := by
    refine map_seg s (q3 s) 256 _ fun i hi => ?_
    have f1 : kindF s (q3 s) i = byt s (q3 s + i) := within_yes ⟨Nat.zero_le _, (r3 i hi).2⟩
    show kindF s (q3 s) i % 256 = _
    rw [f1, Nat.mod_eq_of_lt (byt_lt _ _)]
  have e4 : (tbOf s).nextL (tbOf s).nst = seg s (q4 s) (2 * hKinds s * hStates s) := by
    show (List.range (hStates s)).flatMap (fun i => (tbOf s).rowL i (hKinds s)) = _
    have key : ∀ n, n ≤ hStates s → (List.range n).flatMap (fun i => (tbOf s).rowL i (hKinds s)) = seg s (q4 s) (2 * hKinds s * n) := by
      intro n
      induction n with
      | zero => intro _; rfl
      | succ n ih =>
        intro hn
        rw [flat_snoc, ih (by omega), Nat.mul_succ, seg_add]
        congr 1
        exact flat_seg s (q4 s + 2 * hKinds s * n) (hKinds s) _ fun m hm => within_yes ⟨Nat.zero_le _, (r5 n (by omega) m hm).2⟩
    exact key _ (Nat.le_refl _)
  have e5 : (tbOf s).endsL (tbOf s).nst = seg s (q5 s) (hStates s) := by
    refine map_seg s (q5 s) (hStates s) _ fun i hi => ?_
    have f1 : endF s (q5 s) (hRules s) i = byt s (q5 s + i) := within_yes ⟨Nat.zero_le _, (r6 i hi).2⟩
    show (((endF s (q5 s) (hRules s) i : Nat) : Int) - 1 + 1).toNat % 256 = _
    rw [f1]
    have := byt_lt s (q5 s + i)
    omega
  have e6 : (tbOf s).longL = seg s (q6 s) ((nbit s + 7) / 8) := map_seg s (q6 s) _ _ fun i hi => within_yes ⟨Nat.zero_le _, (r7 i hi).2⟩
  unfold Tb.bytesL
  rw [e0, e1, e2, e3, e4, e5, e6]
  have hsz : s.size - 4 = 13 + 2 * hModes s + 2 * hRules s + 256 + 2 * hKinds s * hStates s + hStates s + (nbit s + 7) / 8 := by
    have e7 : 2 * hKinds s * hStates s = 2 * hStates s * hKinds s := by rw [Nat.mul_assoc, Nat.mul_comm (hKinds s), ← Nat.mul_assoc]
    have e8 : nbit s = hWays s * hStates s := Nat.mul_comm _ _
    rw [hfit, e7, e8]
    unfold sizeOf_
    omega
  rw [hsz, seg_add, seg_add, seg_add, seg_add, seg_add, seg_add]
  have p1 : 0 + 13 = 13 := rfl
  have p2 : 0 + (13 + 2 * hModes s) = q2 s := by unfold q2; omega
  have p3 : 0 + (13 + 2 * hModes s + 2 * hRules s) = q3 s := by unfold q3 q2; omega
  have p4 : 0 + (13 + 2 * hModes s + 2 * hRules s + 256) = q4 s := by unfold q4 q3 q2; omega
  have p5 : 0 + (13 + 2 * hModes s + 2 * hRules s + 256 + 2 * hKinds s * hStates s) = q5 s := by unfold q5 q4 q3 q2; omega
  have p6 : 0 + (13 + 2 * hModes s + 2 * hRules s + 256 + 2 * hKinds s * hStates s + hStates s) = q6 s := by unfold q6 q5 q4 q3 q2; omega
  rw [p6, p5, p4, p3, p2, p1]

theorem u8s_seg (s : ByteArray) (n : Nat) (h : n ≤ s.size) : u8s (seg s 0 n) = s.data.toList.take n := by
  apply List.ext_getElem?
  intro i
  unfold u8s seg
  rw [List.getElem?_take]
  by_cases hi : i < n
  · rw [if_pos hi]
    have h' : i < s.data.size := by show i < s.size; omega
    simp [hi, byt]
    rw [Array.getElem?_eq_getElem h']
    simp
  · rw [if_neg hi]
    simp [hi]

theorem sealed_same (s : ByteArray) (hv : validB s = true) : sealed (tbOf s).bytesL = s.data.toList := by
  rw [valid_same] at hv
  simp only [Bool.and_eq_true] at hv
  obtain ⟨⟨⟨h1, h2⟩, h3⟩, h4⟩ := hv
  have hfit : s.size = sizeOf_ (hModes s) (hRules s) (hStates s) (hKinds s) (hWays s) + 4 := of_decide_eq_true h2
  have hs4 : 4 ≤ s.size := by omega
  unfold sealed
  rw [bytes_same s h1 h4 hfit, u8s_seg s _ (by omega)]
  have hsum := sum_same s hs4
  rw [show (sumB (s.extract 0 (s.size - 4)) == bigB (s.extract (s.size - 4) s.size)) = sumOk s from rfl, h3, beq_iff_eq, ByteArray.toList_eq] at hsum
  rw [← hsum]
  have e : (s.extract (s.size - 4) s.size).data.toList = s.data.toList.drop (s.size - 4) := by
    simp [List.take_of_length_le]
  rw [e, List.take_append_drop]
end Go.Proofs.Yteflpladkmihdaa
