/- What lies behind the head of tables is read: states that are led to, and ahead of them. -/
import Derived.Test.YteflpladkmihdaaRdH
set_option linter.unusedVariables false
set_option linter.unusedSimpArgs false
namespace Go.Proofs.Yteflpladkmihdaa
open Go.RowKit

set_option maxHeartbeats 4000000 in
set_option maxRecDepth 100000 in
theorem body_4 (a b H g : Nat) (w : World) (s : ByteArray) (p : Nat) (k : Bool) (c : Tc) (modes rules states kinds ways : Nat)
    (hR : Rt H a b w w s p k c [(g, .cells #[.int .i64 modes, .int .i64 rules, .int .i64 states, .int .i64 kinds, .int .i64 ways] 74)]) (hs : s.size ≤ 1048576) (h1 : 1 ≤ modes ∧ modes ≤ 3) (h2 : 1 ≤ rules ∧ rules ≤ 8) (h3 : 1 ≤ states ∧ states ≤ 200) (h4 : 1 ≤ kinds ∧ kinds ≤ 256) (h5 : ways ≤ 3000) (n8 : c.next = .slice none 0 0) (n9 : c.ends = .slice none 0 0)
    {u2 u3 u4 u6 u7 u8 u9 u10 u11 u12 u13 u14 u15 u16 u17 u18 u19 u20 u21 u22 u23 u24 u25 u26 u27 u28 u29 u30 u31 u32 u33 u34 u35 u36 u37 u38 u39 u40 u41 u42 u43 u44 u45 u46 u47 u48 u49 u50 u51 u52 u53 u54 u55 u56 u57 u58 u59 u60 u61 u62 u63 u64 u65 u66 u67 u68 u69 u70 u71 u72 u73 u74 u75 u76 u77 u78 u79 u80 u81 u82 u83 u84 u85 u86 u87 u88 u89 u90 u91 u92 u93 u94 u95 u96 u97 u98 u99 u100 u101 u102 u103 u104 u105 u106 u107 u108 u109 u110 u111 u112 u113 u114 u115 u116 u117 u118 u119 u120 u121 u122 u123 u124 u125 : Value} :
    Code.wp Try.prog (dropSeq 4 ((Try.f22.body).getD .skip)) (bodyPost Try.prog Try.f22 fun e w' =>
      e = .returned (.tuple #[]) ∧ P4 H a b s rules states kinds ways w' c p k ∧ Kept w.heap.size a b w w')
      ⟨(.pointer (some ⟨a, 0, none⟩) :: .pointer (some ⟨b, 0, none⟩) :: u2 :: u3 :: u4 :: .pointer (some ⟨g, 0, none⟩) :: u6 :: u7 :: u8 :: u9 :: u10 :: u11 :: u12 :: u13 :: u14 :: u15 :: u16 :: u17 :: u18 :: u19 :: u20 :: u21 :: u22 :: u23 :: u24 :: u25 :: u26 :: u27 :: u28 :: u29 :: u30 :: u31 :: u32 :: u33 :: u34 :: u35 :: u36 :: u37 :: u38 :: u39 :: u40 :: u41 :: u42 :: u43 :: u44 :: u45 :: u46 :: u47 :: u48 :: u49 :: u50 :: u51 :: u52 :: u53 :: u54 :: u55 :: u56 :: u57 :: u58 :: u59 :: u60 :: u61 :: u62 :: u63 :: u64 :: u65 :: u66 :: u67 :: u68 :: u69 :: u70 :: u71 :: u72 :: u73 :: u74 :: u75 :: u76 :: u77 :: u78 :: u79 :: u80 :: u81 :: u82 :: u83 :: u84 :: u85 :: u86 :: u87 :: u88 :: u89 :: u90 :: u91 :: u92 :: u93 :: u94 :: u95 :: u96 :: u97 :: u98 :: u99 :: u100 :: u101 :: u102 :: u103 :: u104 :: u105 :: u106 :: u107 :: u108 :: u109 :: u110 :: u111 :: u112 :: u113 :: u114 :: u115 :: u116 :: u117 :: u118 :: u119 :: u120 :: u121 :: u122 :: u123 :: u124 :: u125 :: []).toArray, []⟩ w := by
  conv => arg 2; whnf
  have HR : Hid (Rt H a b w w s p k c [(g, .cells #[.int .i64 modes, .int .i64 rules, .int .i64 states, .int .i64 kinds, .int .i64 ways] 74)]) := hR
  have hbx : w.heap[g]? = some (.cells #[.int .i64 modes, .int .i64 rules, .int .i64 states, .int .i64 kinds, .int .i64 ways] 74) := (hR.own _ List.mem_cons_self).1
  have hgH : H ≤ g := (hR.own _ List.mem_cons_self).2
  have haH := hR.aH
  have hbH := hR.bH
  have hHH := hR.HH
  have hab := hR.ab
  have hgl : g < w.heap.size := (Array.getElem?_eq_some_iff.1 hbx).1
  obtain ⟨i0, hi0, hz0, hz1, hz2⟩ := info_parts Try.infoInts
  clear hR hbx
  refine wp_seq_k ?_
  intro K hK0
  have HK : Hid (∀ a w, _ → K a w) := hK0
  clear hK0
  go_wp2_with fail
  go_loopg [11] states (fun q i wr => ∃ (j : Nat) (v : Value) (rv : Nat → Value), q = states - j ∧ j ≤ states ∧ i = .int .i64 (j : Int) ∧ wr.ownsRow w.heap.size 67 1 v j ((List.range j).map rv) ∧ (∀ i, i < j → wr.ownsRow w.heap.size 3 1 (rv i) kinds ((List.range kinds).map fun m => .int .i64 (toF s (p + 2 * kinds * i) states m : Nat))) ∧ RdAt wr a s (p + 2 * kinds * j) (k && nextK s p states kinds j) ∧ TpAt wr b { c with next := v } ∧ Kept w.heap.size a b w wr)
  case atStart => exact ⟨0, .slice none 0 0, fun _ => undef, rfl, Nat.zero_le _, rfl, World.ownsRow_nil _ _ _ _, fun i hi => absurd hi (Nat.not_lt_zero _), HR.out.rd.to (by simp) (by simp [nextK]), by rw [← n8]; exact HR.out.tb, Kept.refl _ _ _ _⟩
  case round =>
    obtain ⟨j, v, rv, hgk, hj, rfl, ho, hrv, hr, hT, hk⟩ := hrel
    have hbx : wr.heap[g]? = some (.cells #[.int .i64 modes, .int .i64 rules, .int .i64 states, .int .i64 kinds, .int .i64 ways] 74) := (hk.block g hgl (by omega) (by omega)).trans (HR.out.own _ List.mem_cons_self).1
    have y0 : wr.cell? ⟨g, 0, none⟩ = some (.int .i64 modes) := by simp [World.cell?, hbx]
    have y1 : wr.cell? ⟨g, 1, none⟩ = some (.int .i64 rules) := by simp [World.cell?, hbx]
    have y2 : wr.cell? ⟨g, 2, none⟩ = some (.int .i64 states) := by simp [World.cell?, hbx]
    have y3 : wr.cell? ⟨g, 3, none⟩ = some (.int .i64 kinds) := by simp [World.cell?, hbx]
    have y4 : wr.cell? ⟨g, 4, none⟩ = some (.int .i64 ways) := by simp [World.cell?, hbx]
    have hsz : w.heap.size ≤ wr.heap.size := hk.size
    by_cases hj2 : j < states
    · have i1 : (j : Int) < (states : Int) := by omega
      have AA : Hid (gk = states - j ∧ RdAt wr a s (p + 2 * kinds * j) (k && nextK s p states kinds j) ∧ Kept w.heap.size a b w wr ∧ TpAt wr b { c with next := v } ∧ wr.ownsRow w.heap.size 67 1 v j ((List.range j).map rv) ∧ (∀ i, i < j → wr.ownsRow w.heap.size 3 1 (rv i) kinds ((List.range kinds).map fun m => .int .i64 (toF s (p + 2 * kinds * i) states m : Nat)))) := ⟨hgk, hr, hk, hT, ho, hrv⟩
      have HKK : Hid (nextK s p states kinds (j + 1) = (nextK s p states kinds j && toK s (p + 2 * kinds * j) states kinds)) := rfl
      have HPP : Hid (p + 2 * kinds * (j + 1) = p + 2 * kinds * j + 2 * kinds) := by show _ = _; rw [Nat.mul_add, Nat.mul_one]; omega
      clear hgk hr hk ho hT hbx hrv
      go_wp2_with fail
      refine (row_calls a (p + 2 * kinds * j) s (k && nextK s p states kinds j) wr AA.out.2.1 hs modes rules states kinds ways h3.1 h3.2 h4.2).mono ?_
      rintro e w1 ⟨x, rfl, hox, hr1, hk1⟩
      obtain ⟨ao, cp, rfl⟩ := own_slice hox
      have R1 : Hid (RdAt w1 a s (p + 2 * kinds * (j + 1)) (k && nextK s p states kinds (j + 1))) := by show RdAt _ _ _ _ _; rw [HKK.out, HPP.out, ← Bool.and_assoc]; exact hr1
      have O1 : Hid (w1.ownsRow w.heap.size 67 1 v j ((List.range j).map rv)) := own_blk AA.out.2.2.2.2.1 fun g' q1 q2 _ => hk1.block g' q2 (by omega)
      have V1 : Hid (∀ i, i < j → w1.ownsRow w.heap.size 3 1 (rv i) kinds ((List.range kinds).map fun m => .int .i64 (toF s (p + 2 * kinds * i) states m : Nat))) := fun i hi => own_blk (AA.out.2.2.2.2.2 i hi) fun g' q1 q2 _ => hk1.block g' q2 (by omega)
      have X1 : Hid (w1.ownsRow w.heap.size 3 1 (.slice ao kinds cp) kinds ((List.range kinds).map fun m => .int .i64 (toF s (p + 2 * kinds * j) states m : Nat))) := own_less hox hsz
      have K1 : Hid (Kept w.heap.size a b w w1) := AA.out.2.2.1.trans ⟨hk1.os, hk1.output, hk1.size, fun k' q1 q2 _ => hk1.block k' (by omega) q2⟩
      have T1 : Hid (TpAt w1 b { c with next := v }) := AA.out.2.2.2.1.of_block (hk1.block b (by omega) hab.symm)
      have t1 : w1.cell? ⟨b, 8, none⟩ = some v := T1.out.get_next
      have hsz1 : w.heap.size ≤ w1.heap.size := K1.out.size
      clear hr1 hk1 HKK HPP y0 y1 y2 y3 y4 hox
      go_wp2_with (first | (at_builtin; refine wpList_append_lies _ rfl _ _ 68 rfl w.heap.size 67 i0 (.slice none 0 0) 1 24 Try.underlying68 hi0 hz0 hz1 hz2 rfl (by decide) _ _ _ rfl (O1.out.alloc _) ⟨w1.heap.size, 0, none⟩ 1 1 [.slice ao kinds cp] rfl rfl (cell_one_new _ _ _) (by intro u hu; simp at hu; subst hu; rfl) (by decide) (by unfold maxLen; omega) (by omega) (by simp; omega) _ rfl ?_; intro gg cap w2 hown hgrow hat hlt2; have hB := below_app O1.out hgrow hsz1; have q1 := (T1.out.of_block (hB.block b (by omega))).get_next; have q2 := (T1.out.of_block (hB.block b (by omega))).fz 8))
      have R2 : RdAt w2 a s (p + 2 * kinds * (j + 1)) (k && nextK s p states kinds (j + 1)) := R1.out.of_block (hB.block a (by omega))
      have K2 : Kept w.heap.size a b w w2 := K1.out.trans (.one (keep_below hB))
      have T2 : TpAt w2 b { c with next := v } := T1.out.of_block (hB.block b (by omega))
      have hne : ∀ g', g' < w1.heap.size → v.ownBlock ≠ some g' → w2.heap[g']? = w1.heap[g']? := fun g' q1 q2 => (hgrow.block g' (by simp; omega) (Ne.symm q2)).trans (Below.heap_alloc _ _ _ q1)
      have V2 : ∀ i, i < j → w2.ownsRow w.heap.size 3 1 (rv i) kinds ((List.range kinds).map fun m => .int .i64 (toF s (p + 2 * kinds * i) states m : Nat)) := fun i hi => own_blk (V1.out i hi) fun g' q1 q2 q3 => hne g' q2 (own_other (V1.out i hi) O1.out (by decide) q3)
      have X2 : w2.ownsRow w.heap.size 3 1 (.slice ao kinds cp) kinds ((List.range kinds).map fun m => .int .i64 (toF s (p + 2 * kinds * j) states m : Nat)) := own_blk X1.out fun g' q1 q2 q3 => hne g' q2 (own_other X1.out O1.out (by decide) q3)
      go_roundg (states - (j + 1))
      case measure => rw [AA.out.1]; omega
      case rel =>
        refine ⟨j + 1, _, fun i => if i = j then .slice ao kinds cp else rv i, rfl, by omega, congrArg (Value.int IntKind.i64) (by omega), own_keep ?_ (fun _ => Keep.set _ _ _) (by omega), fun i hi => own_keep ?_ (fun _ => Keep.set _ _ _) (show b < w.heap.size by omega), R2.of_block (Below.heap_setCell _ _ _ _ hab), T2.set_next _, K2.trans (.two (Keep.set _ _ _))⟩
        · rw [range_snoc, if_pos rfl, show (List.range j).map (fun i => if i = j then Value.slice ao kinds cp else rv i) = (List.range j).map rv from List.map_congr_left fun i hi => by rw [if_neg (by have := List.mem_range.1 hi; omega)]]
          exact hown
        · show w2.ownsRow _ _ _ (if i = j then Value.slice ao kinds cp else rv i) _ _
          by_cases e : i = j
          · rw [if_pos e, e]; exact X2
          · rw [if_neg e]; exact V2 i (by omega)
    · have hje : j = states := by omega
      have i1 : (states : Int) ≤ (j : Int) := by omega
      have AA : Hid (RdAt wr a s (p + 2 * kinds * states) (k && nextK s p states kinds states) ∧ Kept w.heap.size a b w wr ∧ TpAt wr b { c with next := v } ∧ wr.ownsRow w.heap.size 67 1 v states ((List.range states).map rv) ∧ wr.heap[g]? = some (.cells #[.int .i64 modes, .int .i64 rules, .int .i64 states, .int .i64 kinds, .int .i64 ways] 74) ∧ ∀ i, i < states → wr.ownsRow w.heap.size 3 1 (rv i) kinds ((List.range kinds).map fun m => .int .i64 (toF s (p + 2 * kinds * i) states m : Nat))) := by rw [hje] at hr ho hrv; exact ⟨hr, hk, hT, ho, hbx, hrv⟩
      clear hgk hr hk ho hT hbx hrv y0 y1 y3 y4
      go_wp2_with fail
      refine HK.out _ _ (body_mono (body_5 a b H g wr s (p + 2 * kinds * states) (k && nextK s p states kinds states) { c with next := v } modes rules states kinds ways ⟨AA.out.1, AA.out.2.2.1, fun x hx => by rw [List.mem_singleton] at hx; rw [hx]; exact ⟨AA.out.2.2.2.2.1, hgH⟩, Kept.refl _ _ _ _, hab, haH, hbH, by omega⟩ hs h1 h2 h3 h4 h5 n9) ?_)
      rintro e w' ⟨he, hP, hK⟩
      exact ⟨he, ⟨v, rv, own_kept (own_less AA.out.2.2.2.1 hHH) hK (by omega) (by omega), fun i hi => own_kept (own_less (AA.out.2.2.2.2.2 i hi) hHH) hK (by omega) (by omega), hP⟩, AA.out.2.1.trans (hK.mono hsz)⟩

set_option maxHeartbeats 4000000 in
set_option maxRecDepth 100000 in
theorem body_3 (a b H g : Nat) (w : World) (s : ByteArray) (p : Nat) (k : Bool) (c : Tc) (modes rules states kinds ways : Nat)
    (hR : Rt H a b w w s p k c [(g, .cells #[.int .i64 modes, .int .i64 rules, .int .i64 states, .int .i64 kinds, .int .i64 ways] 74)]) (hs : s.size ≤ 1048576) (h1 : 1 ≤ modes ∧ modes ≤ 3) (h2 : 1 ≤ rules ∧ rules ≤ 8) (h3 : 1 ≤ states ∧ states ≤ 200) (h4 : 1 ≤ kinds ∧ kinds ≤ 256) (h5 : ways ≤ 3000) (n8 : c.next = .slice none 0 0) (n9 : c.ends = .slice none 0 0)
    {u2 u3 u4 u6 u7 u8 u9 u10 u11 u12 u13 u14 u15 u16 u17 u18 u19 u20 u21 u22 u23 u24 u25 u26 u27 u28 u29 u30 u31 u32 u33 u34 u35 u36 u37 u38 u39 u40 u41 u42 u43 u44 u45 u46 u47 u48 u49 u50 u51 u52 u53 u54 u55 u56 u57 u58 u59 u60 u61 u62 u63 u64 u65 u66 u67 u68 u69 u70 u71 u72 u73 u74 u75 u76 u77 u78 u79 u80 u81 u82 u83 u84 u85 u86 u87 u88 u89 u90 u91 u92 u93 u94 u95 u96 u97 u98 u99 u100 u101 u102 u103 u104 u105 u106 u107 u108 u109 u110 u111 u112 u113 u114 u115 u116 u117 u118 u119 u120 u121 u122 u123 u124 u125 : Value} :
    Code.wp Try.prog (dropSeq 3 ((Try.f22.body).getD .skip)) (bodyPost Try.prog Try.f22 fun e w' =>
      e = .returned (.tuple #[]) ∧ P3 H a b s rules states kinds ways w' c p k ∧ Kept w.heap.size a b w w')
      ⟨(.pointer (some ⟨a, 0, none⟩) :: .pointer (some ⟨b, 0, none⟩) :: u2 :: u3 :: u4 :: .pointer (some ⟨g, 0, none⟩) :: u6 :: u7 :: u8 :: u9 :: u10 :: u11 :: u12 :: u13 :: u14 :: u15 :: u16 :: u17 :: u18 :: u19 :: u20 :: u21 :: u22 :: u23 :: u24 :: u25 :: u26 :: u27 :: u28 :: u29 :: u30 :: u31 :: u32 :: u33 :: u34 :: u35 :: u36 :: u37 :: u38 :: u39 :: u40 :: u41 :: u42 :: u43 :: u44 :: u45 :: u46 :: u47 :: u48 :: u49 :: u50 :: u51 :: u52 :: u53 :: u54 :: u55 :: u56 :: u57 :: u58 :: u59 :: u60 :: u61 :: u62 :: u63 :: u64 :: u65 :: u66 :: u67 :: u68 :: u69 :: u70 :: u71 :: u72 :: u73 :: u74 :: u75 :: u76 :: u77 :: u78 :: u79 :: u80 :: u81 :: u82 :: u83 :: u84 :: u85 :: u86 :: u87 :: u88 :: u89 :: u90 :: u91 :: u92 :: u93 :: u94 :: u95 :: u96 :: u97 :: u98 :: u99 :: u100 :: u101 :: u102 :: u103 :: u104 :: u105 :: u106 :: u107 :: u108 :: u109 :: u110 :: u111 :: u112 :: u113 :: u114 :: u115 :: u116 :: u117 :: u118 :: u119 :: u120 :: u121 :: u122 :: u123 :: u124 :: u125 :: []).toArray, []⟩ w := by
  conv => arg 2; whnf
  have HR : Hid (Rt H a b w w s p k c [(g, .cells #[.int .i64 modes, .int .i64 rules, .int .i64 states, .int .i64 kinds, .int .i64 ways] 74)]) := hR
  have hbx : w.heap[g]? = some (.cells #[.int .i64 modes, .int .i64 rules, .int .i64 states, .int .i64 kinds, .int .i64 ways] 74) := (hR.own _ List.mem_cons_self).1
  have hgH : H ≤ g := (hR.own _ List.mem_cons_self).2
  have haH := hR.aH
  have hbH := hR.bH
  have hHH := hR.HH
  have hab := hR.ab
  have hgl : g < w.heap.size := (Array.getElem?_eq_some_iff.1 hbx).1
  have y3 : w.cell? ⟨g, 3, none⟩ = some (.int .i64 kinds) := by simp [World.cell?, hbx]
  have HB : Hid (w.heap[g]? = some (.cells #[.int .i64 modes, .int .i64 rules, .int .i64 states, .int .i64 kinds, .int .i64 ways] 74)) := hbx
  clear hR hbx
  refine wp_seq_k ?_
  intro K hK0
  have HK : Hid (∀ a w, _ → K a w) := hK0
  clear hK0
  go_wp2_with fail
  refine (kinds_calls a p kinds s k w HR.out.rd hs h4.2).mono ?_
  rintro e w1 ⟨v, rfl, ho, hr, hk⟩
  obtain ⟨ao, cap, rfl⟩ := own_slice ho
  have T1 := HR.out.tb.of_block (hk.block b (by omega) hab.symm)
  have t1 := T1.get_kinds
  have t2 := T1.fz 6
  have A : Hid (w1.ownsRow w.heap.size 3 1 (.slice ao 256 cap) 256 ((List.range 256).map fun i => .int .i64 (kindF s p i : Nat)) ∧ RdAt w1 a s (p + 256) (k && kindsK s p 256 && decide (metF s p 256 = kinds)) ∧ Keep w.heap.size a w w1 ∧ TpAt w1 b c) := ⟨ho, hr, hk, T1⟩
  clear ho hr hk T1
  go_wp2_with fail
  obtain ⟨w2, hw2, hA⟩ : ∃ w2, w2 = w1.setCell ⟨b, 6, none⟩ (.slice ao 256 cap) ∧ Hid (w2.ownsRow w.heap.size 3 1 (.slice ao 256 cap) 256 ((List.range 256).map fun i => .int .i64 (kindF s p i : Nat)) ∧ RdAt w2 a s (p + 256) (k && kindsK s p 256 && decide (metF s p 256 = kinds)) ∧ Kept w.heap.size a b w w2 ∧ TpAt w2 b { c with kinds := .slice ao 256 cap } ∧ w2.heap[g]? = some (.cells #[.int .i64 modes, .int .i64 rules, .int .i64 states, .int .i64 kinds, .int .i64 ways] 74)) :=
    ⟨_, rfl, own_keep A.out.1 (fun _ => Keep.set _ _ _) (by omega), A.out.2.1.of_block (Below.heap_setCell _ _ _ _ hab), (Kept.one A.out.2.2.1).trans (.two (Keep.set _ _ _)), A.out.2.2.2.set_kinds _, ((Below.heap_setCell _ _ _ _ (by show g ≠ b; omega)).trans (A.out.2.2.1.block g hgl (by omega))).trans HB.out⟩
  rw [← hw2]
  clear hw2 A t1 t2
  refine HK.out _ _ (body_mono (body_4 a b H g w2 s (p + 256) (k && kindsK s p 256 && decide (metF s p 256 = kinds)) { c with kinds := .slice ao 256 cap } modes rules states kinds ways ⟨hA.out.2.1, hA.out.2.2.2.1, fun x hx => by rw [List.mem_singleton] at hx; rw [hx]; exact ⟨hA.out.2.2.2.2, hgH⟩, Kept.refl _ _ _ _, hab, haH, hbH, by have := hA.out.2.2.1.size; omega⟩ hs h1 h2 h3 h4 h5 n8 n9) ?_)
  rintro e w' ⟨he, hP, hK⟩
  exact ⟨he, ⟨_, own_kept (own_less hA.out.1 hHH) hK (by omega) (by omega), hP⟩, hA.out.2.2.1.trans (hK.mono hA.out.2.2.1.size)⟩

end Go.Proofs.Yteflpladkmihdaa
