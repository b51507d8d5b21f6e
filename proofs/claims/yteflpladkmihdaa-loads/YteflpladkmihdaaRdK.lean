/- What lies behind the head of tables is read: all of it. -/
import Derived.Test.YteflpladkmihdaaRdJ
set_option linter.unusedVariables false
set_option linter.unusedSimpArgs false
namespace Go.Proofs.Yteflpladkmihdaa
open Go.RowKit

set_option maxHeartbeats 4000000 in
set_option maxRecDepth 100000 in
theorem body_1 (a b H g : Nat) (w : World) (s : ByteArray) (p : Nat) (k : Bool) (c : Tc) (modes rules states kinds ways : Nat)
    (hR : Rt H a b w w s p k c [(g, .cells #[.int .i64 modes, .int .i64 rules, .int .i64 states, .int .i64 kinds, .int .i64 ways] 74)]) (hs : s.size ≤ 1048576) (h1 : 1 ≤ modes ∧ modes ≤ 3) (h2 : 1 ≤ rules ∧ rules ≤ 8) (h3 : 1 ≤ states ∧ states ≤ 200) (h4 : 1 ≤ kinds ∧ kinds ≤ 256) (h5 : ways ≤ 3000) (n3 : c.starts = .slice none 0 0) (n4 : c.acts = .slice none 0 0) (n5 : c.pushed = .slice none 0 0) (n8 : c.next = .slice none 0 0) (n9 : c.ends = .slice none 0 0)
    {u2 u3 u4 u6 u7 u8 u9 u10 u11 u12 u13 u14 u15 u16 u17 u18 u19 u20 u21 u22 u23 u24 u25 u26 u27 u28 u29 u30 u31 u32 u33 u34 u35 u36 u37 u38 u39 u40 u41 u42 u43 u44 u45 u46 u47 u48 u49 u50 u51 u52 u53 u54 u55 u56 u57 u58 u59 u60 u61 u62 u63 u64 u65 u66 u67 u68 u69 u70 u71 u72 u73 u74 u75 u76 u77 u78 u79 u80 u81 u82 u83 u84 u85 u86 u87 u88 u89 u90 u91 u92 u93 u94 u95 u96 u97 u98 u99 u100 u101 u102 u103 u104 u105 u106 u107 u108 u109 u110 u111 u112 u113 u114 u115 u116 u117 u118 u119 u120 u121 u122 u123 u124 u125 : Value} :
    Code.wp Try.prog (dropSeq 1 ((Try.f22.body).getD .skip)) (bodyPost Try.prog Try.f22 fun e w' =>
      e = .returned (.tuple #[]) ∧ P1 H a b s modes rules states kinds ways w' c p k ∧ Kept w.heap.size a b w w')
      ⟨(.pointer (some ⟨a, 0, none⟩) :: .pointer (some ⟨b, 0, none⟩) :: u2 :: u3 :: u4 :: .pointer (some ⟨g, 0, none⟩) :: u6 :: u7 :: u8 :: u9 :: u10 :: u11 :: u12 :: u13 :: u14 :: u15 :: u16 :: u17 :: u18 :: u19 :: u20 :: u21 :: u22 :: u23 :: u24 :: u25 :: u26 :: u27 :: u28 :: u29 :: u30 :: u31 :: u32 :: u33 :: u34 :: u35 :: u36 :: u37 :: u38 :: u39 :: u40 :: u41 :: u42 :: u43 :: u44 :: u45 :: u46 :: u47 :: u48 :: u49 :: u50 :: u51 :: u52 :: u53 :: u54 :: u55 :: u56 :: u57 :: u58 :: u59 :: u60 :: u61 :: u62 :: u63 :: u64 :: u65 :: u66 :: u67 :: u68 :: u69 :: u70 :: u71 :: u72 :: u73 :: u74 :: u75 :: u76 :: u77 :: u78 :: u79 :: u80 :: u81 :: u82 :: u83 :: u84 :: u85 :: u86 :: u87 :: u88 :: u89 :: u90 :: u91 :: u92 :: u93 :: u94 :: u95 :: u96 :: u97 :: u98 :: u99 :: u100 :: u101 :: u102 :: u103 :: u104 :: u105 :: u106 :: u107 :: u108 :: u109 :: u110 :: u111 :: u112 :: u113 :: u114 :: u115 :: u116 :: u117 :: u118 :: u119 :: u120 :: u121 :: u122 :: u123 :: u124 :: u125 :: []).toArray, []⟩ w := by
  conv => arg 2; whnf
  have HR : Hid (Rt H a b w w s p k c [(g, .cells #[.int .i64 modes, .int .i64 rules, .int .i64 states, .int .i64 kinds, .int .i64 ways] 74)]) := hR
  have hbx : w.heap[g]? = some (.cells #[.int .i64 modes, .int .i64 rules, .int .i64 states, .int .i64 kinds, .int .i64 ways] 74) := (hR.own _ List.mem_cons_self).1
  have hgH : H ≤ g := (hR.own _ List.mem_cons_self).2
  have haH := hR.aH
  have hbH := hR.bH
  have hHH := hR.HH
  have hab := hR.ab
  have hgl : g < w.heap.size := (Array.getElem?_eq_some_iff.1 hbx).1
  obtain ⟨i0, hi0, hz0, hz1, hz2⟩ := info_parts Try.infoInt
  clear hR hbx
  refine wp_seq_k ?_
  intro K hK0
  have HK : Hid (∀ a w, _ → K a w) := hK0
  clear hK0
  go_wp2_with fail
  go_loopg [6] modes (fun q i wr => ∃ (j : Nat) (v : Value), q = modes - j ∧ j ≤ modes ∧ i = .int .i64 (j : Int) ∧ wr.ownsRow w.heap.size 3 1 v j ((List.range j).map fun i => .int .i64 (toF s p states i : Nat)) ∧ RdAt wr a s (p + 2 * j) (k && toK s p states j) ∧ TpAt wr b { c with starts := v } ∧ Kept w.heap.size a b w wr)
  case atStart => exact ⟨0, .slice none 0 0, rfl, Nat.zero_le _, rfl, World.ownsRow_nil _ _ _ _, HR.out.rd.to rfl (by simp [toK]), (by rw [← n3]; exact HR.out.tb), Kept.refl _ _ _ _⟩
  case round =>
    obtain ⟨j, v, hgk, hj, rfl, ho, hr, hT, hk⟩ := hrel
    have hbx : wr.heap[g]? = some (.cells #[.int .i64 modes, .int .i64 rules, .int .i64 states, .int .i64 kinds, .int .i64 ways] 74) := (hk.block g hgl (by omega) (by omega)).trans (HR.out.own _ List.mem_cons_self).1
    have y0 : wr.cell? ⟨g, 0, none⟩ = some (.int .i64 modes) := by simp [World.cell?, hbx]
    have y2 : wr.cell? ⟨g, 2, none⟩ = some (.int .i64 states) := by simp [World.cell?, hbx]
    have hsz : w.heap.size ≤ wr.heap.size := hk.size
    by_cases hj2 : j < modes
    · have i1 : (j : Int) < (modes : Int) := by omega
      have AA : Hid (gk = modes - j ∧ RdAt wr a s (p + 2 * j) (k && toK s p states j) ∧ Kept w.heap.size a b w wr ∧ TpAt wr b { c with starts := v } ∧ wr.ownsRow w.heap.size 3 1 v j ((List.range j).map fun i => .int .i64 (toF s p states i : Nat))) := ⟨hgk, hr, hk, hT, ho⟩
      have HKF : Hid (toF s p states j = within (byt2 s (p + 2 * j)) 0 (states - 1)) := rfl
      have HKK : Hid (toK s p states (j + 1) = (toK s p states j && decide (p + 2 * j + 1 < s.size) && inB (byt2 s (p + 2 * j)) 0 (states - 1))) := rfl
      have hx := within_le (byt2 s (p + 2 * j)) 0 (states - 1) (Nat.zero_le _)
      have hs1 : (states : Int) - 1 = ((states - 1 : Nat) : Int) := by omega
      clear hgk hr hk ho hT hbx
      go_wp2_with fail
      refine (rd_two a (p + 2 * j) s (k && toK s p states j) wr AA.out.2.1 hs 0 (states - 1)).mono ?_
      rintro e w1 ⟨rfl, hr1, hk1⟩
      have R1 : Hid (RdAt w1 a s (p + 2 * (j + 1)) (k && toK s p states (j + 1))) := by show RdAt _ _ _ _ _; rw [HKK.out]; exact hr1.to rfl (by simp [Bool.and_assoc])
      have O1 : Hid (w1.ownsRow w.heap.size 3 1 v j ((List.range j).map fun i => .int .i64 (toF s p states i : Nat))) := own_keep AA.out.2.2.2.2 hk1 (by omega)
      have K1 : Hid (Kept w.heap.size a b w w1) := AA.out.2.2.1.trans (.one (hk1 _))
      have T1 : Hid (TpAt w1 b { c with starts := v }) := AA.out.2.2.2.1.of_block ((hk1 w.heap.size).block b (by omega) hab.symm)
      have t1 : w1.cell? ⟨b, 3, none⟩ = some v := T1.out.get_starts
      have hsz1 : w.heap.size ≤ w1.heap.size := K1.out.size
      clear hr1 hk1 HKK y0 y2
      rw [← HKF.out] at hx ⊢
      clear HKF
      generalize hkf : toF s p states j = x at *
      have HX : Hid (toF s p states j = x) := hkf
      clear hkf
      go_wp2_with (first | (at_builtin; refine wpList_append_lies _ rfl _ _ 67 rfl w.heap.size 3 i0 (.int .i64 0) 1 8 Try.underlying67 hi0 hz0 hz1 hz2 rfl (by decide) _ _ _ rfl (O1.out.alloc _) ⟨w1.heap.size, 0, none⟩ 1 1 [.int .i64 (x : Int)] rfl rfl (cell_one_new _ _ _) (by intro u hu; simp at hu; subst hu; rfl) (by decide) (by unfold maxLen; omega) (by omega) (by simp; omega) _ rfl ?_; intro gg cap w2 hown hgrow hat hlt2; have hB := below_app O1.out hgrow hsz1; have q1 := (T1.out.of_block (hB.block b (by omega))).get_starts; have q2 := (T1.out.of_block (hB.block b (by omega))).fz 3))
      have R2 : RdAt w2 a s (p + 2 * (j + 1)) (k && toK s p states (j + 1)) := R1.out.of_block (hB.block a (by omega))
      have K2 : Kept w.heap.size a b w w2 := K1.out.trans (.one (keep_below hB))
      have T2 : TpAt w2 b { c with starts := v } := T1.out.of_block (hB.block b (by omega))
      have O2 : w2.ownsRow w.heap.size 3 1 (.slice (some ⟨gg, 0, none⟩) (j + 1) cap) (j + 1) ((List.range (j + 1)).map fun i => .int .i64 (toF s p states i : Nat)) := by
        rw [range_snoc, HX.out]
        exact hown
      go_roundg (modes - (j + 1))
      case measure => rw [AA.out.1]; omega
      case rel => exact ⟨j + 1, _, rfl, by omega, congrArg (Value.int IntKind.i64) (by omega), own_keep O2 (fun _ => Keep.set _ _ _) (by omega), R2.of_block (Below.heap_setCell _ _ _ _ hab), T2.set_starts _, K2.trans (.two (Keep.set _ _ _))⟩
    · have hje : j = modes := by omega
      have i1 : (modes : Int) ≤ (j : Int) := by omega
      have AA : Hid (RdAt wr a s (p + 2 * modes) (k && toK s p states modes) ∧ Kept w.heap.size a b w wr ∧ TpAt wr b { c with starts := v } ∧ wr.ownsRow w.heap.size 3 1 v modes ((List.range modes).map fun i => .int .i64 (toF s p states i : Nat)) ∧ wr.heap[g]? = some (.cells #[.int .i64 modes, .int .i64 rules, .int .i64 states, .int .i64 kinds, .int .i64 ways] 74)) := by rw [hje] at hr ho; exact ⟨hr, hk, hT, ho, hbx⟩
      clear hgk hr hk ho hT hbx
      go_wp2_with fail
      refine HK.out _ _ (body_mono (body_2 a b H g wr s (p + 2 * modes) (k && toK s p states modes) { c with starts := v } modes rules states kinds ways ⟨AA.out.1, AA.out.2.2.1, fun x hx => by rw [List.mem_singleton] at hx; rw [hx]; exact ⟨AA.out.2.2.2.2, hgH⟩, Kept.refl _ _ _ _, hab, haH, hbH, by omega⟩ hs h1 h2 h3 h4 h5 n4 n5 n8 n9) ?_)
      rintro e w' ⟨he, hP, hK⟩
      exact ⟨he, ⟨v, own_kept (own_less AA.out.2.2.2.1 hHH) hK (by omega) (by omega), hP⟩, AA.out.2.1.trans (hK.mono hsz)⟩

set_option maxHeartbeats 4000000 in
set_option maxRecDepth 100000 in
theorem body_calls (a b H : Nat) (w : World) (s : ByteArray) (p : Nat) (k : Bool) (c : Tc) (modes rules states kinds ways : Nat)
    (hR : Rt H a b w w s p k c []) (hs : s.size ≤ 1048576) (h1 : 1 ≤ modes ∧ modes ≤ 3) (h2 : 1 ≤ rules ∧ rules ≤ 8) (h3 : 1 ≤ states ∧ states ≤ 200) (h4 : 1 ≤ kinds ∧ kinds ≤ 256) (h5 : ways ≤ 3000) (n3 : c.starts = .slice none 0 0) (n4 : c.acts = .slice none 0 0) (n5 : c.pushed = .slice none 0 0) (n8 : c.next = .slice none 0 0) (n9 : c.ends = .slice none 0 0) :
    Calls Try.prog 22 #[.pointer (some ⟨a, 0, none⟩), .pointer (some ⟨b, 0, none⟩), .agg #[.int .i64 modes, .int .i64 rules, .int .i64 states, .int .i64 kinds, .int .i64 ways]] w fun e w' =>
      e = .returned (.tuple #[]) ∧ P1 H a b s modes rules states kinds ways w' c p k ∧ Kept w.heap.size a b w w' := by
  have HR : Hid (Rt H a b w w s p k c []) := hR
  clear hR
  go_enter Try.func22, Try.ntmps22
  refine wp_seq_k ?_
  intro K hK0
  have HK : Hid (∀ a w, _ → K a w) := hK0
  clear hK0
  go_wp2_with fail
  have h0 := HR.out.alloc (.cells #[.int .i64 modes, .int .i64 rules, .int .i64 states, .int .i64 kinds, .int .i64 ways] 74)
  refine HK.out _ _ (body_mono (body_1 a b H w.heap.size _ s p k c modes rules states kinds ways ⟨h0.rd, h0.tb, h0.own, Kept.refl _ _ _ _, h0.ab, h0.aH, h0.bH, h0.HH⟩ hs h1 h2 h3 h4 h5 n3 n4 n5 n8 n9) ?_)
  rintro e w' ⟨he, hP, hK⟩
  exact ⟨he, hP, (Kept.one (Keep.alloc _ _ (Nat.le_refl _))).trans (hK.mono (by simp))⟩

end Go.Proofs.Yteflpladkmihdaa
