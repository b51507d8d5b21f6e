/- Tables are written: rules that end, states that are led to. -/
import Derived.Test.YteflpladkmihdaaWrAToWrC
set_option linter.unusedVariables false
set_option linter.unusedSimpArgs false
namespace Go.Proofs.Yteflpladkmihdaa
open Go.RowKit

theorem flat_snoc {α : Type} (f : Nat → List α) (j : Nat) : (List.range (j + 1)).flatMap f = (List.range j).flatMap f ++ f j := by rw [List.range_succ, List.flatMap_append]; simp
theorem two_lt (n x : Nat) (h : x ∈ two n) : x < 256 := by
  simp [two] at h
  rcases h with rfl | rfl <;> exact Nat.mod_lt _ (by decide)
theorem flat_two (f : Nat → Nat) (j x : Nat) (h : x ∈ (List.range j).flatMap fun i => two (f i)) : x < 256 := by
  obtain ⟨i, _, hi⟩ := List.mem_flatMap.1 h
  exact two_lt _ _ hi
theorem flat_two_len (f : Nat → Nat) (j : Nat) : ((List.range j).flatMap fun i => two (f i)).length = 2 * j := by
  induction j with
  | zero => rfl
  | succ j ih => rw [flat_snoc, List.length_append, ih]; simp [two]; omega
theorem map_mod (f : Nat → Nat) (j x : Nat) (h : x ∈ (List.range j).map fun i => f i % 256) : x < 256 := by
  obtain ⟨i, _, rfl⟩ := List.mem_map.1 h
  exact Nat.mod_lt _ (by decide)
theorem mem_both {l k : List Nat} (h1 : ∀ x ∈ l, x < 256) (h2 : ∀ x, x ∈ k → x < 256) : ∀ x ∈ l ++ k, x < 256 := by
  intro x hx
  rcases List.mem_append.1 hx with h | h
  · exact h1 x h
  · exact h2 x h

/-- Which rules end. -/
def Tb.endN (t : Tb) (i : Nat) : Nat := (t.ends i + 1).toNat
def Tb.endsL (t : Tb) (j : Nat) : List Nat := (List.range j).map fun i => t.endN i % 256
/-- To which states a state leads; all of them. -/
def Tb.rowL (t : Tb) (i j : Nat) : List Nat := (List.range j).flatMap fun m => two (t.next i m)
def Tb.nextL (t : Tb) (j : Nat) : List Nat := (List.range j).flatMap fun i => t.rowL i t.count
theorem nextL_len (t : Tb) (j : Nat) : (t.nextL j).length = 2 * t.count * j := by
  induction j with
  | zero => rfl
  | succ j ih =>
    unfold Tb.nextL at ih ⊢
    rw [flat_snoc, List.length_append, ih, Nat.mul_succ]
    unfold Tb.rowL
    rw [flat_two_len]
theorem nextL_lt (t : Tb) (j x : Nat) (h : x ∈ t.nextL j) : x < 256 := by
  obtain ⟨i, _, hi⟩ := List.mem_flatMap.1 h
  exact flat_two _ _ _ hi

set_option maxHeartbeats 4000000 in
set_option maxRecDepth 100000 in
theorem by_7 (H a b : Nat) (S : Nat → Prop) (t : Tb) (w : World) (l : List Nat) (hW : Wx H a S b t w l) (ok : t.Ok) (hl : l.length ≤ 800000) (hlb : ∀ x ∈ l, x < 256) (hn1 : 1 ≤ t.nst) (hc1 : 1 ≤ t.count) (hl1 : 1 ≤ t.nlong) (hl2 : t.nlong ≤ 75000) (hr1 : 1 ≤ t.nrule) (hr2 : t.nrule ≤ 8) (hm2 : t.nmode ≤ 3)
    {u1 u2 u4 u5 u6 u7 u8 u9 u10 u11 u12 u13 u14 u15 u16 u17 u18 u19 u20 u21 u22 u23 u24 u25 u26 u27 u28 u29 u30 u31 u32 u33 u34 u35 u36 u37 u38 u39 u40 u41 u42 u43 u44 u45 u46 u47 u48 u49 u50 u51 u52 u53 u54 u55 u56 u57 u58 u59 u60 u61 u62 u63 u64 u65 u66 u67 u68 u69 u70 u71 u72 u73 u74 u75 u76 u77 u78 u79 u80 u81 u82 u83 u84 u85 u86 u87 u88 u89 u90 u91 u92 u93 u94 u95 u96 u97 u98 u99 u100 u101 u102 u103 u104 u105 u106 u107 u108 u109 u110 u111 : Value} :
    Code.wp Try.prog (dropSeq 7 ((Try.f15.body).getD .skip)) (bodyPost Try.prog Try.f15 fun e w' =>
      (∃ r : ByteArray, e = .returned (.string r) ∧ r.data.toList = sealed (l ++ t.endsL t.nst ++ t.longL)) ∧ Keep H a w w')
      ⟨(.pointer (some ⟨b, 0, none⟩) :: u1 :: u2 :: .pointer (some ⟨a, 0, none⟩) :: u4 :: u5 :: u6 :: u7 :: u8 :: u9 :: u10 :: u11 :: u12 :: u13 :: u14 :: u15 :: u16 :: u17 :: u18 :: u19 :: u20 :: u21 :: u22 :: u23 :: u24 :: u25 :: u26 :: u27 :: u28 :: u29 :: u30 :: u31 :: u32 :: u33 :: u34 :: u35 :: u36 :: u37 :: u38 :: u39 :: u40 :: u41 :: u42 :: u43 :: u44 :: u45 :: u46 :: u47 :: u48 :: u49 :: u50 :: u51 :: u52 :: u53 :: u54 :: u55 :: u56 :: u57 :: u58 :: u59 :: u60 :: u61 :: u62 :: u63 :: u64 :: u65 :: u66 :: u67 :: u68 :: u69 :: u70 :: u71 :: u72 :: u73 :: u74 :: u75 :: u76 :: u77 :: u78 :: u79 :: u80 :: u81 :: u82 :: u83 :: u84 :: u85 :: u86 :: u87 :: u88 :: u89 :: u90 :: u91 :: u92 :: u93 :: u94 :: u95 :: u96 :: u97 :: u98 :: u99 :: u100 :: u101 :: u102 :: u103 :: u104 :: u105 :: u106 :: u107 :: u108 :: u109 :: u110 :: u111 :: []).toArray, []⟩ w := by
  conv => arg 2; whnf
  have HW : Hid (Wx H a S b t w l) := hW
  have haH := hW.wt.2.1
  have hHH := hW.wt.2.2
  obtain ⟨_, y9, b9, o9, c9, hS9, rfl, hcap9, hml9, hL⟩ := hW.tab.c9
  have HL : Hid (∀ i, i < t.nst → w.cell? ⟨b9, o9 + i, none⟩ = some (.int .i64 (t.ends i))) := hL
  have hsf := hW.safe b9 hS9
  have HEN : Hid (∀ i, i < t.nst → -1 ≤ t.ends i ∧ t.ends i < t.nrule) := ok.ends
  have hnb := ok.nst
  clear hW hL
  refine wp_seq_k ?_
  intro K hK0
  have HK : Hid (∀ a w, _ → K a w) := hK0
  clear hK0
  go_wp2_with fail
  go_loopg [89] t.nst (fun q i wr => ∃ j : Nat, q = t.nst - j ∧ j ≤ t.nst ∧ i = .int .i64 (j : Int) ∧ Wx H a S b t wr (l ++ t.endsL j) ∧ Keep H a w wr)
  case atStart => exact ⟨0, rfl, Nat.zero_le _, rfl, by simpa [Tb.endsL] using HW.out, Keep.refl _ _ _⟩
  case round =>
    obtain ⟨j, hgk, hj, rfl, hX, hk⟩ := hrel
    have AA : Hid (gk = t.nst - j ∧ Wx H a S b t wr (l ++ t.endsL j) ∧ Keep H a w wr) := ⟨hgk, hX, hk⟩
    by_cases hj2 : j < t.nst
    · have i1 : (j : Int) < (t.nst : Int) := by omega
      have z1 : wr.cell? ⟨b9, o9 + j, none⟩ = some (.int .i64 (t.ends j)) := (World.cell?_of_block (hk.block b9 hsf.1 hsf.2)).trans (HL.out j hj2)
      have he := HEN.out j hj2
      have HX : Hid (t.ends j + 1 = (t.endN j : Nat)) := by show _ = _; unfold Tb.endN; omega
      have hen : t.endN j ≤ 8 := by unfold Tb.endN; omega
      have hlen : (l ++ t.endsL j).length ≤ 900000 := by simp [Tb.endsL]; omega
      clear hgk hX hk
      obtain ⟨x, hx⟩ : ∃ x, x = t.ends j := ⟨_, rfl⟩
      rw [← hx] at z1 he
      have HX2 : Hid (x + 1 = (t.endN j : Nat)) := by show _ = _; rw [hx]; exact HX.out
      clear hx HX
      go_wp2_with fail
      rw [HX2.out]
      refine (wr_one H a wr _ AA.out.2.1.wt (t.endN j) (by omega) (by omega)).mono ?_
      rintro e w1 ⟨rfl, h1, k1⟩
      have B1 : Hid (Wx H a S b t w1 (l ++ t.endsL (j + 1)) ∧ Keep H a w w1) := by
        refine ⟨?_, AA.out.2.2.trans k1⟩
        have h := AA.out.2.1.next h1 k1
        rw [List.append_assoc] at h
        show Wx H a S b t w1 (l ++ (List.range (j + 1)).map fun i => t.endN i % 256)
        rw [range_snoc]
        exact h
      clear h1 k1
      go_wp2_with fail
      go_roundg (t.nst - (j + 1))
      case measure => rw [AA.out.1]; omega
      case rel => exact ⟨j + 1, rfl, by omega, congrArg (Value.int IntKind.i64) (by omega), B1.out.1, B1.out.2⟩
    · have hje : j = t.nst := by omega
      have i1 : (t.nst : Int) ≤ (j : Int) := by omega
      rw [hje] at AA
      clear hgk hX hk hje
      go_wp2_with fail
      refine HK.out _ _ (body_mono (by_8 H a b S t wr _ AA.out.2.1 ok (by simp [Tb.endsL]; omega) (mem_both hlb fun x hx => map_mod _ _ x hx) hn1 hc1 hl1 hl2 hr1 hr2 hm2) ?_)
      rintro e w' ⟨he, hK⟩
      exact ⟨he, AA.out.2.2.trans hK⟩

set_option maxHeartbeats 4000000 in
set_option maxRecDepth 100000 in
theorem by_6 (H a b : Nat) (S : Nat → Prop) (t : Tb) (w : World) (l : List Nat) (hW : Wx H a S b t w l) (ok : t.Ok) (hl : l.length ≤ 600000) (hlb : ∀ x ∈ l, x < 256) (hn1 : 1 ≤ t.nst) (hc1 : 1 ≤ t.count) (hl1 : 1 ≤ t.nlong) (hl2 : t.nlong ≤ 75000) (hr1 : 1 ≤ t.nrule) (hr2 : t.nrule ≤ 8) (hm2 : t.nmode ≤ 3)
    {u1 u2 u4 u5 u6 u7 u8 u9 u10 u11 u12 u13 u14 u15 u16 u17 u18 u19 u20 u21 u22 u23 u24 u25 u26 u27 u28 u29 u30 u31 u32 u33 u34 u35 u36 u37 u38 u39 u40 u41 u42 u43 u44 u45 u46 u47 u48 u49 u50 u51 u52 u53 u54 u55 u56 u57 u58 u59 u60 u61 u62 u63 u64 u65 u66 u67 u68 u69 u70 u71 u72 u73 u74 u75 u76 u77 u78 u79 u80 u81 u82 u83 u84 u85 u86 u87 u88 u89 u90 u91 u92 u93 u94 u95 u96 u97 u98 u99 u100 u101 u102 u103 u104 u105 u106 u107 u108 u109 u110 u111 : Value} :
    Code.wp Try.prog (dropSeq 6 ((Try.f15.body).getD .skip)) (bodyPost Try.prog Try.f15 fun e w' =>
      (∃ r : ByteArray, e = .returned (.string r) ∧ r.data.toList = sealed (l ++ t.nextL t.nst ++ t.endsL t.nst ++ t.longL)) ∧ Keep H a w w')
      ⟨(.pointer (some ⟨b, 0, none⟩) :: u1 :: u2 :: .pointer (some ⟨a, 0, none⟩) :: u4 :: u5 :: u6 :: u7 :: u8 :: u9 :: u10 :: u11 :: u12 :: u13 :: u14 :: u15 :: u16 :: u17 :: u18 :: u19 :: u20 :: u21 :: u22 :: u23 :: u24 :: u25 :: u26 :: u27 :: u28 :: u29 :: u30 :: u31 :: u32 :: u33 :: u34 :: u35 :: u36 :: u37 :: u38 :: u39 :: u40 :: u41 :: u42 :: u43 :: u44 :: u45 :: u46 :: u47 :: u48 :: u49 :: u50 :: u51 :: u52 :: u53 :: u54 :: u55 :: u56 :: u57 :: u58 :: u59 :: u60 :: u61 :: u62 :: u63 :: u64 :: u65 :: u66 :: u67 :: u68 :: u69 :: u70 :: u71 :: u72 :: u73 :: u74 :: u75 :: u76 :: u77 :: u78 :: u79 :: u80 :: u81 :: u82 :: u83 :: u84 :: u85 :: u86 :: u87 :: u88 :: u89 :: u90 :: u91 :: u92 :: u93 :: u94 :: u95 :: u96 :: u97 :: u98 :: u99 :: u100 :: u101 :: u102 :: u103 :: u104 :: u105 :: u106 :: u107 :: u108 :: u109 :: u110 :: u111 :: []).toArray, []⟩ w := by
  conv => arg 2; whnf
  have HW : Hid (Wx H a S b t w l) := hW
  have haH := hW.wt.2.1
  have hHH := hW.wt.2.2
  obtain ⟨_, y8, b8, o8, c8, hS8, rfl, hcap8, hml8, hL⟩ := hW.tab.c8
  have HL : Hid (∀ i, i < t.nst → ∃ u, w.cell? ⟨b8, o8 + i, none⟩ = some u ∧ IntsAt w S u t.count fun k => t.next i k) := hL
  have hsf := hW.safe b8 hS8
  have HSF : Hid (∀ k, S k → k < H ∧ k ≠ a) := hW.safe
  have HNX : Hid (∀ s k, s < t.nst → k < t.count → t.next s k < t.nst) := ok.next
  have hnb := ok.nst
  have hcb := ok.count
  clear hW hL
  refine wp_seq_k ?_
  intro K hK0
  have HK : Hid (∀ a w, _ → K a w) := hK0
  clear hK0
  go_wp2_with fail
  go_loopg [70] t.nst (fun q i wr => ∃ j : Nat, q = t.nst - j ∧ j ≤ t.nst ∧ i = .int .i64 (j : Int) ∧ Wx H a S b t wr (l ++ t.nextL j) ∧ Keep H a w wr)
  case atStart => exact ⟨0, rfl, Nat.zero_le _, rfl, by simpa [Tb.nextL] using HW.out, Keep.refl _ _ _⟩
  case round =>
    obtain ⟨j, hgk, hj, rfl, hX, hk⟩ := hrel
    have AA : Hid (gk = t.nst - j ∧ Wx H a S b t wr (l ++ t.nextL j) ∧ Keep H a w wr) := ⟨hgk, hX, hk⟩
    by_cases hj2 : j < t.nst
    · have i1 : (j : Int) < (t.nst : Int) := by omega
      obtain ⟨u, hu, br, or_, cr, hSr, hur, hcapr, hmlr, hLr⟩ := HL.out j hj2
      have z1 : wr.cell? ⟨b8, o8 + j, none⟩ = some (.slice (some ⟨br, or_, none⟩) t.count cr) := by rw [← hur]; exact (World.cell?_of_block (hk.block b8 hsf.1 hsf.2)).trans hu
      have HLR : Hid (∀ i, i < t.count → w.cell? ⟨br, or_ + i, none⟩ = some (.int .i64 (t.next j i : Nat))) := hLr
      have hsr := HSF.out br hSr
      have HNJ : Hid (∀ k, k < t.count → t.next j k < t.nst) := fun k hk => HNX.out j k hj2 hk
      have HLN : Hid ((t.nextL j).length = 2 * t.count * j) := nextL_len t j
      have hjc : 2 * t.count * j ≤ 102400 := Nat.le_trans (Nat.mul_le_mul (show 2 * t.count ≤ 512 by omega) (show j ≤ 200 by omega)) (by decide)
      clear hgk hX hk hu hur hLr
      go_wp2_with fail
      go_loopg [76] t.count (fun q i wq => ∃ m : Nat, q = t.count - m ∧ m ≤ t.count ∧ i = .int .i64 (m : Int) ∧ Wx H a S b t wq (l ++ t.nextL j ++ t.rowL j m) ∧ Keep H a w wq)
      case atStart => exact ⟨0, rfl, Nat.zero_le _, rfl, by simpa [Tb.rowL] using AA.out.2.1, AA.out.2.2⟩
      case round =>
        obtain ⟨m, hgk2, hm, rfl, hX2, hk2⟩ := hrel
        have A2 : Hid (gk = t.count - m ∧ Wx H a S b t wr (l ++ t.nextL j ++ t.rowL j m) ∧ Keep H a w wr) := ⟨hgk2, hX2, hk2⟩
        by_cases hm2' : m < t.count
        · have i2 : (m : Int) < (t.count : Int) := by omega
          have z2 : wr.cell? ⟨br, or_ + m, none⟩ = some (.int .i64 (t.next j m : Nat)) := (World.cell?_of_block (hk2.block br hsr.1 hsr.2)).trans (HLR.out m hm2')
          have hnx := HNJ.out m hm2'
          have hlen : (l ++ t.nextL j ++ t.rowL j m).length ≤ 800000 := by
            rw [List.length_append, List.length_append, HLN.out]
            unfold Tb.rowL
            rw [flat_two_len]
            omega
          clear hgk2 hX2 hk2
          go_wp2_with fail
          refine (wr_two H a wr _ A2.out.2.1.wt (t.next j m) (by omega) (by omega)).mono ?_
          rintro e w1 ⟨rfl, h1, k1⟩
          have B1 : Hid (Wx H a S b t w1 (l ++ t.nextL j ++ t.rowL j (m + 1)) ∧ Keep H a w w1) := by
            refine ⟨?_, A2.out.2.2.trans k1⟩
            have h := A2.out.2.1.next h1 k1
            rw [List.append_assoc] at h
            show Wx H a S b t w1 (l ++ t.nextL j ++ (List.range (m + 1)).flatMap fun i => two (t.next j i))
            rw [flat_snoc]
            exact h
          clear h1 k1
          go_wp2_with fail
          go_roundg (t.count - (m + 1))
          case measure => rw [A2.out.1]; omega
          case rel => exact ⟨m + 1, rfl, by omega, congrArg (Value.int IntKind.i64) (by omega), B1.out.1, B1.out.2⟩
        · have hme : m = t.count := by omega
          have i2 : (t.count : Int) ≤ (m : Int) := by omega
          rw [hme] at A2
          clear hgk2 hX2 hk2 hme
          have B1 : Hid (Wx H a S b t wr (l ++ t.nextL (j + 1)) ∧ Keep H a w wr) := by
            refine ⟨?_, A2.out.2.2⟩
            have h := A2.out.2.1
            rw [List.append_assoc] at h
            show Wx H a S b t wr (l ++ (List.range (j + 1)).flatMap fun i => t.rowL i t.count)
            rw [flat_snoc]
            exact h
          go_wp2_with fail
          go_roundg (t.nst - (j + 1))
          case measure => rw [AA.out.1]; omega
          case rel => exact ⟨j + 1, rfl, by omega, congrArg (Value.int IntKind.i64) (by omega), B1.out.1, B1.out.2⟩
    · have hje : j = t.nst := by omega
      have i1 : (t.nst : Int) ≤ (j : Int) := by omega
      rw [hje] at AA
      clear hgk hX hk hje
      have HLN : Hid ((t.nextL t.nst).length = 2 * t.count * t.nst) := nextL_len t t.nst
      have hjc : 2 * t.count * t.nst ≤ 102400 := Nat.le_trans (Nat.mul_le_mul (show 2 * t.count ≤ 512 by omega) hnb) (by decide)
      go_wp2_with fail
      refine HK.out _ _ (body_mono (by_7 H a b S t wr _ AA.out.2.1 ok (by rw [List.length_append, HLN.out]; omega) (mem_both hlb fun x hx => nextL_lt t _ x hx) hn1 hc1 hl1 hl2 hr1 hr2 hm2) ?_)
      rintro e w' ⟨he, hK⟩
      exact ⟨he, AA.out.2.2.trans hK⟩

end Go.Proofs.Yteflpladkmihdaa
