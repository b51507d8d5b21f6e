/- What lies behind the head of tables is read: the rules, the modes. -/
import Derived.Test.YteflpladkmihdaaRdI
set_option linter.unusedVariables false
set_option linter.unusedSimpArgs false
namespace Go.Proofs.Yteflpladkmihdaa
open Go.RowKit

theorem own_some {g g' n cap : Nat} (h : (Value.slice (some ⟨g, 0, none⟩) n cap).ownBlock = some g') : g = g' := by simpa [Value.ownBlock] using h
theorem Tc.nil45 (c : Tc) (n4 : c.acts = .slice none 0 0) (n5 : c.pushed = .slice none 0 0) : ({ c with acts := .slice none 0 0, pushed := .slice none 0 0 } : Tc) = c := by
  cases c
  simp only at n4 n5
  subst n4 n5
  rfl

set_option maxHeartbeats 4000000 in
set_option maxRecDepth 100000 in
theorem body_2 (a b H g : Nat) (w : World) (s : ByteArray) (p : Nat) (k : Bool) (c : Tc) (modes rules states kinds ways : Nat)
    (hR : Rt H a b w w s p k c [(g, .cells #[.int .i64 modes, .int .i64 rules, .int .i64 states, .int .i64 kinds, .int .i64 ways] 74)]) (hs : s.size ≤ 1048576) (h1 : 1 ≤ modes ∧ modes ≤ 3) (h2 : 1 ≤ rules ∧ rules ≤ 8) (h3 : 1 ≤ states ∧ states ≤ 200) (h4 : 1 ≤ kinds ∧ kinds ≤ 256) (h5 : ways ≤ 3000) (n4 : c.acts = .slice none 0 0) (n5 : c.pushed = .slice none 0 0) (n8 : c.next = .slice none 0 0) (n9 : c.ends = .slice none 0 0)
    {u2 u3 u4 u6 u7 u8 u9 u10 u11 u12 u13 u14 u15 u16 u17 u18 u19 u20 u21 u22 u23 u24 u25 u26 u27 u28 u29 u30 u31 u32 u33 u34 u35 u36 u37 u38 u39 u40 u41 u42 u43 u44 u45 u46 u47 u48 u49 u50 u51 u52 u53 u54 u55 u56 u57 u58 u59 u60 u61 u62 u63 u64 u65 u66 u67 u68 u69 u70 u71 u72 u73 u74 u75 u76 u77 u78 u79 u80 u81 u82 u83 u84 u85 u86 u87 u88 u89 u90 u91 u92 u93 u94 u95 u96 u97 u98 u99 u100 u101 u102 u103 u104 u105 u106 u107 u108 u109 u110 u111 u112 u113 u114 u115 u116 u117 u118 u119 u120 u121 u122 u123 u124 u125 : Value} :
    Code.wp Try.prog (dropSeq 2 ((Try.f22.body).getD .skip)) (bodyPost Try.prog Try.f22 fun e w' =>
      e = .returned (.tuple #[]) ∧ P2 H a b s modes rules states kinds ways w' c p k ∧ Kept w.heap.size a b w w')
      ⟨(.pointer (some ⟨a, 0, none⟩) :: .pointer (some ⟨b, 0, none⟩) :: u2 :: u3 :: u4 :: .pointer (some ⟨g, 0, none⟩) :: u6 :: u7 :: u8 :: u9 :: u10 :: u11 :: u12 :: u13 :: u14 :: u15 :: u16 :: u17 :: u18 :: u19 :: u20 :: u21 :: u22 :: u23 :: u24 :: u25 :: u26 :: u27 :: u28 :: u29 :: u30 :: u31 :: u32 :: u33 :: u34 :: u35 :: u36 :: u37 :: u38 :: u39 :: u40 :: u41 :: u42 :: u43 :: u44 :: u45 :: u46 :: u47 :: u48 :: u49 :: u50 :: u51 :: u52 :: u53 :: u54 :: u55 :: u56 :: u57 :: u58 :: u59 :: u60 :: u61 :: u62 :: u63 :: u64 :: u65 :: u66 :: u67 :: u68 :: u69 :: u70 :: u71 :: u72 :: u73 :: u74 :: u75 :: u76 :: u77 :: u78 :: u79 :: u80 :: u81 :: u82 :: u83 :: u84 :: u85 :: u86 :: u87 :: u88 :: u89 :: u90 :: u91 :: u92 :: u93 :: u94 :: u95 :: u96 :: u97 :: u98 :: u99 :: u100 :: u101 :: u102 :: u103 :: u104 :: u105 :: u106 :: u107 :: u108 :: u109 :: u110 :: u111 :: u112 :: u113 :: u114 :: u115 :: u116 :: u117 :: u118 :: u119 :: u120 :: u121 :: u122 :: u123 :: u124 :: u125 :: []).toArray, []⟩ w := by
  conv => arg 2; whnf
  have HR : Hid (Rt H a b w w s p k c [(g, .cells #[.int .i64 modes, .int .i64 rules, .int .i64 states, .int .i64 kinds, .int .i64 ways] 74)]) := hR
  have hbx : w.heap[g]? = some (.cells #[.int .i64 modes, .int .i64 rules, .int .i64 states, .int .i64 kinds, .int .i64 ways] 74) := (hR.own _ List.mem_cons_self).1
  have hgH : H ≤ g := (hR.own _ List.mem_cons_self).2
  have haH := hR.aH
  have hbH := hR.bH
  have hHH := hR.HH
  have hab := hR.ab
  have hgl : g < w.heap.size := (Array.getElem?_eq_some_iff.1 hbx).1
  obtain ⟨i0, hi0, hz0, hz1, hz2⟩ := info_parts Try.infoInt
  clear hR hbx
  refine wp_seq_k ?_
  intro K hK0
  have HK : Hid (∀ a w, _ → K a w) := hK0
  clear hK0
  go_wp2_with fail
  go_loopg [8] rules (fun q i wr => ∃ (j : Nat) (v u : Value), q = rules - j ∧ j ≤ rules ∧ i = .int .i64 (j : Int) ∧ wr.ownsRow w.heap.size 3 1 v j ((List.range j).map fun i => .int .i64 (actF s p i : Nat)) ∧ wr.ownsRow w.heap.size 3 1 u j ((List.range j).map fun i => .int .i64 (pushF s p modes i : Nat)) ∧ (∀ g', v.ownBlock = some g' → u.ownBlock ≠ some g') ∧ RdAt wr a s (p + 2 * j) (k && ruleK s p modes j) ∧ TpAt wr b { c with acts := v, pushed := u } ∧ Kept w.heap.size a b w wr)
  case atStart => exact ⟨0, .slice none 0 0, .slice none 0 0, rfl, Nat.zero_le _, rfl, World.ownsRow_nil _ _ _ _, World.ownsRow_nil _ _ _ _, (fun _ e => by cases e), HR.out.rd.to rfl (by simp [ruleK]), (by rw [Tc.nil45 c n4 n5]; exact HR.out.tb), Kept.refl _ _ _ _⟩
  case round =>
    obtain ⟨j, v, u, hgk, hj, rfl, ho, hou, hD, hr, hT, hk⟩ := hrel
    have hbx : wr.heap[g]? = some (.cells #[.int .i64 modes, .int .i64 rules, .int .i64 states, .int .i64 kinds, .int .i64 ways] 74) := (hk.block g hgl (by omega) (by omega)).trans (HR.out.own _ List.mem_cons_self).1
    have y1 : wr.cell? ⟨g, 1, none⟩ = some (.int .i64 rules) := by simp [World.cell?, hbx]
    have hsz : w.heap.size ≤ wr.heap.size := hk.size
    by_cases hj2 : j < rules
    · have i1 : (j : Int) < (rules : Int) := by omega
      have AA : Hid (gk = rules - j ∧ RdAt wr a s (p + 2 * j) (k && ruleK s p modes j) ∧ Kept w.heap.size a b w wr ∧ TpAt wr b { c with acts := v, pushed := u } ∧ wr.ownsRow w.heap.size 3 1 v j ((List.range j).map fun i => .int .i64 (actF s p i : Nat)) ∧ wr.ownsRow w.heap.size 3 1 u j ((List.range j).map fun i => .int .i64 (pushF s p modes i : Nat)) ∧ (∀ g', v.ownBlock = some g' → u.ownBlock ≠ some g') ∧ wr.heap[g]? = some (.cells #[.int .i64 modes, .int .i64 rules, .int .i64 states, .int .i64 kinds, .int .i64 ways] 74)) := ⟨hgk, hr, hk, hT, ho, hou, hD, hbx⟩
      have HKF : Hid (actF s p j = within (byt s (p + 2 * j)) 0 3) := rfl
      have HKP : Hid (pushF s p modes j = within (byt s (p + 2 * j + 1)) 0 (modes - 1)) := rfl
      have HKK : Hid (ruleK s p modes (j + 1) = (ruleK s p modes j && decide (p + 2 * j < s.size) && inB (byt s (p + 2 * j)) 0 3 && decide (p + 2 * j + 1 < s.size) && inB (byt s (p + 2 * j + 1)) 0 (modes - 1))) := rfl
      have hx := within_le (byt s (p + 2 * j)) 0 3 (Nat.zero_le _)
      have hy := within_le (byt s (p + 2 * j + 1)) 0 (modes - 1) (Nat.zero_le _)
      clear hgk hr hk ho hou hD hT hbx
      go_wp2_with fail
      refine (rd_one a (p + 2 * j) s (k && ruleK s p modes j) wr AA.out.2.1 hs 0 3).mono ?_
      rintro e w1 ⟨rfl, hr1, hk1⟩
      have R1 : Hid (RdAt w1 a s (p + 2 * j + 1) (k && ruleK s p modes j && decide (p + 2 * j < s.size) && inB (byt s (p + 2 * j)) 0 3)) := hr1
      have O1 : Hid (w1.ownsRow w.heap.size 3 1 v j ((List.range j).map fun i => .int .i64 (actF s p i : Nat))) := own_keep AA.out.2.2.2.2.1 hk1 (by omega)
      have U1 : Hid (w1.ownsRow w.heap.size 3 1 u j ((List.range j).map fun i => .int .i64 (pushF s p modes i : Nat))) := own_keep AA.out.2.2.2.2.2.1 hk1 (by omega)
      have K1 : Hid (Kept w.heap.size a b w w1) := AA.out.2.2.1.trans (.one (hk1 _))
      have T1 : Hid (TpAt w1 b { c with acts := v, pushed := u }) := AA.out.2.2.2.1.of_block ((hk1 w.heap.size).block b (by omega) hab.symm)
      have t1 : w1.cell? ⟨b, 4, none⟩ = some v := T1.out.get_acts
      have hsz1 : w.heap.size ≤ w1.heap.size := K1.out.size
      have hms : (modes : Int) - 1 = ((modes - 1 : Nat) : Int) := by omega
      have B1 : Hid (w1.heap[g]? = some (.cells #[.int .i64 modes, .int .i64 rules, .int .i64 states, .int .i64 kinds, .int .i64 ways] 74)) := ((hk1 w.heap.size).block g hgl (by omega)).trans AA.out.2.2.2.2.2.2.2
      have hgb : g ≠ b := by omega
      clear hr1 hk1 y1
      rw [← HKF.out] at hx ⊢
      clear HKF
      generalize hkf : actF s p j = x at *
      have HX : Hid (actF s p j = x) := hkf
      clear hkf
      go_wp2_with (first | (at_builtin; refine wpList_append_lies _ rfl _ _ 67 rfl w.heap.size 3 i0 (.int .i64 0) 1 8 Try.underlying67 hi0 hz0 hz1 hz2 rfl (by decide) _ _ _ rfl (O1.out.alloc _) ⟨w1.heap.size, 0, none⟩ 1 1 [.int .i64 (x : Int)] rfl rfl (cell_one_new _ _ _) (by intro u hu; simp at hu; subst hu; rfl) (by decide) (by unfold maxLen; omega) (by omega) (by simp; omega) _ rfl ?_; intro ga cap w2 hown hgrow hat hlt2; have hB := below_app O1.out hgrow hsz1; have q1 := (T1.out.of_block (hB.block b (by omega))).get_acts; have q2 := (T1.out.of_block (hB.block b (by omega))).fz 4; have q3 : w2.cell? ⟨g, 0, none⟩ = some (.int .i64 modes) := by have hh := (hB.block g hgl).trans B1.out; simp [World.cell?, hh]))
      obtain ⟨w2s, hw2, A2⟩ : ∃ w', w' = w2.setCell ⟨b, 4, none⟩ (.slice (some ⟨ga, 0, none⟩) (j + 1) cap) ∧ Hid (w'.ownsRow w.heap.size 3 1 (.slice (some ⟨ga, 0, none⟩) (j + 1) cap) (j + 1) ((List.range (j + 1)).map fun i => .int .i64 (actF s p i : Nat)) ∧ w'.ownsRow w.heap.size 3 1 u j ((List.range j).map fun i => .int .i64 (pushF s p modes i : Nat)) ∧ u.ownBlock ≠ some ga ∧ RdAt w' a s (p + 2 * j + 1) (k && ruleK s p modes j && decide (p + 2 * j < s.size) && inB (byt s (p + 2 * j)) 0 3) ∧ TpAt w' b { c with acts := .slice (some ⟨ga, 0, none⟩) (j + 1) cap, pushed := u } ∧ Kept w.heap.size a b w w') := by
        have K2 : Kept w.heap.size a b w w2 := K1.out.trans (.one (keep_below hB))
        have T2 : TpAt w2 b { c with acts := v, pushed := u } := T1.out.of_block (hB.block b (by omega))
        have hne : ∀ g', g' < w1.heap.size → v.ownBlock ≠ some g' → w2.heap[g']? = w1.heap[g']? := fun g' q1 q2 => (hgrow.block g' (by simp; omega) (Ne.symm q2)).trans (Below.heap_alloc _ _ _ q1)
        have U2 : w2.ownsRow w.heap.size 3 1 u j ((List.range j).map fun i => .int .i64 (pushF s p modes i : Nat)) := own_blk U1.out fun g' q1 q2 q3 => hne g' q2 (fun e => AA.out.2.2.2.2.2.2.1 g' e q3)
        refine ⟨_, rfl, own_keep ?_ (fun _ => Keep.set _ _ _) (by omega), own_keep U2 (fun _ => Keep.set _ _ _) (by omega), fun e => ?_, (R1.out.of_block (hB.block a (by omega))).of_block (Below.heap_setCell _ _ _ _ hab), T2.set_acts _, K2.trans (.two (Keep.set _ _ _))⟩
        · rw [range_snoc, HX.out]; exact hown
        · rcases hat with h | h
          · exact AA.out.2.2.2.2.2.2.1 ga h e
          · have h1 := (U1.out.lt ga e).2
            rw [h] at h1
            simp at h1
            omega
      rw [← hw2]
      clear hw2 T1 R1 K1 O1 U1 hB hown hgrow hat hlt2 q1 q2 q3 B1 HX t1
      clear hsz1
      refine (rd_one a (p + 2 * j + 1) s _ w2s A2.out.2.2.2.1 hs 0 (modes - 1)).mono ?_
      rintro e w3 ⟨rfl, hr1, hk1⟩
      have R1 : Hid (RdAt w3 a s (p + 2 * (j + 1)) (k && ruleK s p modes (j + 1))) := by show RdAt _ _ _ _ _; rw [HKK.out]; exact hr1.to rfl (by simp [Bool.and_assoc])
      have O1 : Hid (w3.ownsRow w.heap.size 3 1 (.slice (some ⟨ga, 0, none⟩) (j + 1) cap) (j + 1) ((List.range (j + 1)).map fun i => .int .i64 (actF s p i : Nat))) := own_keep A2.out.1 hk1 (by omega)
      have U1 : Hid (w3.ownsRow w.heap.size 3 1 u j ((List.range j).map fun i => .int .i64 (pushF s p modes i : Nat))) := own_keep A2.out.2.1 hk1 (by omega)
      have K1 : Hid (Kept w.heap.size a b w w3) := A2.out.2.2.2.2.2.trans (.one (hk1 _))
      have T1 : Hid (TpAt w3 b { c with acts := .slice (some ⟨ga, 0, none⟩) (j + 1) cap, pushed := u }) := A2.out.2.2.2.2.1.of_block ((hk1 w.heap.size).block b (by omega) hab.symm)
      have t1 : w3.cell? ⟨b, 5, none⟩ = some u := T1.out.get_pushed
      have hsz1 : w.heap.size ≤ w3.heap.size := K1.out.size
      have hga := A2.out.2.2.1
      clear hr1 hk1 A2 HKK
      rw [← HKP.out] at hy ⊢
      clear HKP
      generalize hkf : pushF s p modes j = y at *
      have HY : Hid (pushF s p modes j = y) := hkf
      clear hkf
      go_wp2_with (first | (at_builtin; refine wpList_append_lies _ rfl _ _ 67 rfl w.heap.size 3 i0 (.int .i64 0) 1 8 Try.underlying67 hi0 hz0 hz1 hz2 rfl (by decide) _ _ _ rfl (U1.out.alloc _) ⟨w3.heap.size, 0, none⟩ 1 1 [.int .i64 (y : Int)] rfl rfl (cell_one_new _ _ _) (by intro u hu; simp at hu; subst hu; rfl) (by decide) (by unfold maxLen; omega) (by omega) (by simp; omega) _ rfl ?_; intro gu cap2 w4 hown hgrow hat hlt2; have hB := below_app U1.out hgrow hsz1; have q1 := (T1.out.of_block (hB.block b (by omega))).get_pushed; have q2 := (T1.out.of_block (hB.block b (by omega))).fz 5))
      have K2 : Kept w.heap.size a b w w4 := K1.out.trans (.one (keep_below hB))
      have T2 : TpAt w4 b { c with acts := .slice (some ⟨ga, 0, none⟩) (j + 1) cap, pushed := u } := T1.out.of_block (hB.block b (by omega))
      have hne : ∀ g', g' < w3.heap.size → u.ownBlock ≠ some g' → w4.heap[g']? = w3.heap[g']? := fun g' q1 q2 => (hgrow.block g' (by simp; omega) (Ne.symm q2)).trans (Below.heap_alloc _ _ _ q1)
      have O2 : w4.ownsRow w.heap.size 3 1 (.slice (some ⟨ga, 0, none⟩) (j + 1) cap) (j + 1) ((List.range (j + 1)).map fun i => .int .i64 (actF s p i : Nat)) := own_blk O1.out fun g' q1 q2 q3 => hne g' q2 (own_some q3 ▸ hga)
      have U2 : w4.ownsRow w.heap.size 3 1 (.slice (some ⟨gu, 0, none⟩) (j + 1) cap2) (j + 1) ((List.range (j + 1)).map fun i => .int .i64 (pushF s p modes i : Nat)) := by
        rw [range_snoc, HY.out]
        exact hown
      have hgg : ga ≠ gu := by
        intro e
        rcases hat with h | h
        · exact hga (by rw [e]; exact h)
        · have h1 := (O1.out.lt ga rfl).2
          rw [e, h] at h1
          simp at h1
          omega
      go_roundg (rules - (j + 1))
      case measure => rw [AA.out.1]; omega
      case rel => exact ⟨j + 1, _, _, rfl, by omega, congrArg (Value.int IntKind.i64) (by omega), own_keep O2 (fun _ => Keep.set _ _ _) (by omega), own_keep U2 (fun _ => Keep.set _ _ _) (by omega), (fun g' e1 e2 => hgg ((own_some e1).trans (own_some e2).symm)), (R1.out.of_block (hB.block a (by omega))).of_block (Below.heap_setCell _ _ _ _ hab), T2.set_pushed _, K2.trans (.two (Keep.set _ _ _))⟩
    · have hje : j = rules := by omega
      have i1 : (rules : Int) ≤ (j : Int) := by omega
      have AA : Hid (RdAt wr a s (p + 2 * rules) (k && ruleK s p modes rules) ∧ Kept w.heap.size a b w wr ∧ TpAt wr b { c with acts := v, pushed := u } ∧ wr.ownsRow w.heap.size 3 1 v rules ((List.range rules).map fun i => .int .i64 (actF s p i : Nat)) ∧ wr.heap[g]? = some (.cells #[.int .i64 modes, .int .i64 rules, .int .i64 states, .int .i64 kinds, .int .i64 ways] 74) ∧ wr.ownsRow w.heap.size 3 1 u rules ((List.range rules).map fun i => .int .i64 (pushF s p modes i : Nat))) := by rw [hje] at hr ho hou; exact ⟨hr, hk, hT, ho, hbx, hou⟩
      clear hgk hr hk ho hT hbx hou hD
      go_wp2_with fail
      refine HK.out _ _ (body_mono (body_3 a b H g wr s (p + 2 * rules) (k && ruleK s p modes rules) { c with acts := v, pushed := u } modes rules states kinds ways ⟨AA.out.1, AA.out.2.2.1, fun x hx => by rw [List.mem_singleton] at hx; rw [hx]; exact ⟨AA.out.2.2.2.2.1, hgH⟩, Kept.refl _ _ _ _, hab, haH, hbH, by omega⟩ hs h1 h2 h3 h4 h5 n8 n9) ?_)
      rintro e w' ⟨he, hP, hK⟩
      exact ⟨he, ⟨v, u, own_kept (own_less AA.out.2.2.2.1 hHH) hK (by omega) (by omega), own_kept (own_less AA.out.2.2.2.2.2 hHH) hK (by omega) (by omega), hP⟩, AA.out.2.1.trans (hK.mono hsz)⟩

end Go.Proofs.Yteflpladkmihdaa
