/- Tables are written: kinds, rules, modes; all of it. -/
import Derived.Test.YteflpladkmihdaaWrD
set_option linter.unusedVariables false
set_option linter.unusedSimpArgs false
namespace Go.Proofs.Yteflpladkmihdaa
open Go.RowKit

def Tb.kindsL (t : Tb) (j : Nat) : List Nat := (List.range j).map fun i => t.kind i % 256
def Tb.rulesL (t : Tb) (j : Nat) : List Nat := (List.range j).flatMap fun i => [t.act i % 256, t.push i % 256]
def Tb.startsL (t : Tb) (j : Nat) : List Nat := (List.range j).flatMap fun i => two (t.start i)
theorem rulesL_len (t : Tb) (j : Nat) : (t.rulesL j).length = 2 * j := by
  induction j with
  | zero => rfl
  | succ j ih =>
    unfold Tb.rulesL at ih ⊢
    rw [flat_snoc, List.length_append, ih]
    simp
    omega
theorem rulesL_lt (t : Tb) (j x : Nat) (h : x ∈ t.rulesL j) : x < 256 := by
  obtain ⟨i, _, hi⟩ := List.mem_flatMap.1 h
  simp at hi
  rcases hi with rfl | rfl <;> exact Nat.mod_lt _ (by decide)
theorem startsL_len (t : Tb) (j : Nat) : (t.startsL j).length = 2 * j := flat_two_len _ _
/-- All bytes but for the sum. -/
def Tb.bytesL (t : Tb) : List Nat := t.headL ++ t.startsL t.nmode ++ t.rulesL t.nrule ++ t.kindsL 256 ++ t.nextL t.nst ++ t.endsL t.nst ++ t.longL

set_option maxHeartbeats 4000000 in
set_option maxRecDepth 100000 in
theorem by_5 (H a b : Nat) (S : Nat → Prop) (t : Tb) (w : World) (l : List Nat) (hW : Wx H a S b t w l) (ok : t.Ok) (hl : l.length ≤ 500000) (hlb : ∀ x ∈ l, x < 256) (hn1 : 1 ≤ t.nst) (hc1 : 1 ≤ t.count) (hl1 : 1 ≤ t.nlong) (hl2 : t.nlong ≤ 75000) (hr1 : 1 ≤ t.nrule) (hr2 : t.nrule ≤ 8) (hm2 : t.nmode ≤ 3)
    {u1 u2 u4 u5 u6 u7 u8 u9 u10 u11 u12 u13 u14 u15 u16 u17 u18 u19 u20 u21 u22 u23 u24 u25 u26 u27 u28 u29 u30 u31 u32 u33 u34 u35 u36 u37 u38 u39 u40 u41 u42 u43 u44 u45 u46 u47 u48 u49 u50 u51 u52 u53 u54 u55 u56 u57 u58 u59 u60 u61 u62 u63 u64 u65 u66 u67 u68 u69 u70 u71 u72 u73 u74 u75 u76 u77 u78 u79 u80 u81 u82 u83 u84 u85 u86 u87 u88 u89 u90 u91 u92 u93 u94 u95 u96 u97 u98 u99 u100 u101 u102 u103 u104 u105 u106 u107 u108 u109 u110 u111 : Value} :
    Code.wp Try.prog (dropSeq 5 ((Try.f15.body).getD .skip)) (bodyPost Try.prog Try.f15 fun e w' =>
      (∃ r : ByteArray, e = .returned (.string r) ∧ r.data.toList = sealed (l ++ t.kindsL 256 ++ t.nextL t.nst ++ t.endsL t.nst ++ t.longL)) ∧ Keep H a w w')
      ⟨(.pointer (some ⟨b, 0, none⟩) :: u1 :: u2 :: .pointer (some ⟨a, 0, none⟩) :: u4 :: u5 :: u6 :: u7 :: u8 :: u9 :: u10 :: u11 :: u12 :: u13 :: u14 :: u15 :: u16 :: u17 :: u18 :: u19 :: u20 :: u21 :: u22 :: u23 :: u24 :: u25 :: u26 :: u27 :: u28 :: u29 :: u30 :: u31 :: u32 :: u33 :: u34 :: u35 :: u36 :: u37 :: u38 :: u39 :: u40 :: u41 :: u42 :: u43 :: u44 :: u45 :: u46 :: u47 :: u48 :: u49 :: u50 :: u51 :: u52 :: u53 :: u54 :: u55 :: u56 :: u57 :: u58 :: u59 :: u60 :: u61 :: u62 :: u63 :: u64 :: u65 :: u66 :: u67 :: u68 :: u69 :: u70 :: u71 :: u72 :: u73 :: u74 :: u75 :: u76 :: u77 :: u78 :: u79 :: u80 :: u81 :: u82 :: u83 :: u84 :: u85 :: u86 :: u87 :: u88 :: u89 :: u90 :: u91 :: u92 :: u93 :: u94 :: u95 :: u96 :: u97 :: u98 :: u99 :: u100 :: u101 :: u102 :: u103 :: u104 :: u105 :: u106 :: u107 :: u108 :: u109 :: u110 :: u111 :: []).toArray, []⟩ w := by
  conv => arg 2; whnf
  have HW : Hid (Wx H a S b t w l) := hW
  have haH := hW.wt.2.1
  have hHH := hW.wt.2.2
  obtain ⟨_, y6, bs, os, cs, hSs, rfl, hcaps, hmls, hL⟩ := hW.tab.c6
  have HL : Hid (∀ i, i < 256 → w.cell? ⟨bs, os + i, none⟩ = some (.int .i64 (t.kind i : Nat))) := hL
  have hsf := hW.safe bs hSs
  have HKD : Hid (∀ i, i < 256 → t.kind i < t.count) := ok.kind
  have hcb := ok.count
  clear hW hL
  refine wp_seq_k ?_
  intro K hK0
  have HK : Hid (∀ a w, _ → K a w) := hK0
  clear hK0
  go_wp2_with fail
  go_loopg [58] 256 (fun q i wr => ∃ j : Nat, q = 256 - j ∧ j ≤ 256 ∧ i = .int .i64 (j : Int) ∧ Wx H a S b t wr (l ++ t.kindsL j) ∧ Keep H a w wr)
  case atStart => exact ⟨0, rfl, Nat.zero_le _, rfl, by simpa [Tb.kindsL] using HW.out, Keep.refl _ _ _⟩
  case round =>
    obtain ⟨j, hgk, hj, rfl, hX, hk⟩ := hrel
    have AA : Hid (gk = 256 - j ∧ Wx H a S b t wr (l ++ t.kindsL j) ∧ Keep H a w wr) := ⟨hgk, hX, hk⟩
    by_cases hj2 : j < 256
    · have i1 : (j : Int) < (256 : Int) := by omega
      have z1 : wr.cell? ⟨bs, os + j, none⟩ = some (.int .i64 (t.kind j : Nat)) := (World.cell?_of_block (hk.block bs hsf.1 hsf.2)).trans (HL.out j hj2)
      have hlen : (l ++ t.kindsL j).length ≤ 600000 := by simp [Tb.kindsL]; omega
      have hkj := HKD.out j hj2
      clear hgk hX hk
      go_wp2_with fail
      refine (wr_one H a wr _ AA.out.2.1.wt (t.kind j) (by omega) (by omega)).mono ?_
      rintro e w1 ⟨rfl, h1, k1⟩
      have B1 : Hid (Wx H a S b t w1 (l ++ t.kindsL (j + 1)) ∧ Keep H a w w1) := by
        refine ⟨?_, AA.out.2.2.trans k1⟩
        have h := AA.out.2.1.next h1 k1
        rw [List.append_assoc] at h
        show Wx H a S b t w1 (l ++ (List.range (j + 1)).map fun i => t.kind i % 256)
        rw [range_snoc]
        exact h
      clear h1 k1
      go_wp2_with fail
      go_roundg (256 - (j + 1))
      case measure => rw [AA.out.1]; omega
      case rel => exact ⟨j + 1, rfl, by omega, congrArg (Value.int IntKind.i64) (by omega), B1.out.1, B1.out.2⟩
    · have hje : j = 256 := by omega
      have i1 : (256 : Int) ≤ (j : Int) := by omega
      rw [hje] at AA
      clear hgk hX hk hje
      have hlen : (l ++ t.kindsL 256).length ≤ 600000 := by simp [Tb.kindsL]; omega
      go_wp2_with fail
      refine HK.out _ _ (body_mono (by_6 H a b S t wr _ AA.out.2.1 ok hlen (mem_both hlb fun x hx => map_mod _ _ x hx) hn1 hc1 hl1 hl2 hr1 hr2 hm2) ?_)
      rintro e w' ⟨he, hK⟩
      exact ⟨he, AA.out.2.2.trans hK⟩

set_option maxHeartbeats 4000000 in
set_option maxRecDepth 100000 in
theorem by_4 (H a b : Nat) (S : Nat → Prop) (t : Tb) (w : World) (l : List Nat) (hW : Wx H a S b t w l) (ok : t.Ok) (hl : l.length ≤ 400000) (hlb : ∀ x ∈ l, x < 256) (hn1 : 1 ≤ t.nst) (hc1 : 1 ≤ t.count) (hl1 : 1 ≤ t.nlong) (hl2 : t.nlong ≤ 75000) (hr1 : 1 ≤ t.nrule) (hr2 : t.nrule ≤ 8) (hm2 : t.nmode ≤ 3) (hact : ∀ i, i < t.nrule → t.act i < 4)
    {u1 u2 u4 u5 u6 u7 u8 u9 u10 u11 u12 u13 u14 u15 u16 u17 u18 u19 u20 u21 u22 u23 u24 u25 u26 u27 u28 u29 u30 u31 u32 u33 u34 u35 u36 u37 u38 u39 u40 u41 u42 u43 u44 u45 u46 u47 u48 u49 u50 u51 u52 u53 u54 u55 u56 u57 u58 u59 u60 u61 u62 u63 u64 u65 u66 u67 u68 u69 u70 u71 u72 u73 u74 u75 u76 u77 u78 u79 u80 u81 u82 u83 u84 u85 u86 u87 u88 u89 u90 u91 u92 u93 u94 u95 u96 u97 u98 u99 u100 u101 u102 u103 u104 u105 u106 u107 u108 u109 u110 u111 : Value} :
    Code.wp Try.prog (dropSeq 4 ((Try.f15.body).getD .skip)) (bodyPost Try.prog Try.f15 fun e w' =>
      (∃ r : ByteArray, e = .returned (.string r) ∧ r.data.toList = sealed (l ++ t.rulesL t.nrule ++ t.kindsL 256 ++ t.nextL t.nst ++ t.endsL t.nst ++ t.longL)) ∧ Keep H a w w')
      ⟨(.pointer (some ⟨b, 0, none⟩) :: u1 :: u2 :: .pointer (some ⟨a, 0, none⟩) :: u4 :: u5 :: u6 :: u7 :: u8 :: u9 :: u10 :: u11 :: u12 :: u13 :: u14 :: u15 :: u16 :: u17 :: u18 :: u19 :: u20 :: u21 :: u22 :: u23 :: u24 :: u25 :: u26 :: u27 :: u28 :: u29 :: u30 :: u31 :: u32 :: u33 :: u34 :: u35 :: u36 :: u37 :: u38 :: u39 :: u40 :: u41 :: u42 :: u43 :: u44 :: u45 :: u46 :: u47 :: u48 :: u49 :: u50 :: u51 :: u52 :: u53 :: u54 :: u55 :: u56 :: u57 :: u58 :: u59 :: u60 :: u61 :: u62 :: u63 :: u64 :: u65 :: u66 :: u67 :: u68 :: u69 :: u70 :: u71 :: u72 :: u73 :: u74 :: u75 :: u76 :: u77 :: u78 :: u79 :: u80 :: u81 :: u82 :: u83 :: u84 :: u85 :: u86 :: u87 :: u88 :: u89 :: u90 :: u91 :: u92 :: u93 :: u94 :: u95 :: u96 :: u97 :: u98 :: u99 :: u100 :: u101 :: u102 :: u103 :: u104 :: u105 :: u106 :: u107 :: u108 :: u109 :: u110 :: u111 :: []).toArray, []⟩ w := by
  conv => arg 2; whnf
  have HW : Hid (Wx H a S b t w l) := hW
  have haH := hW.wt.2.1
  have hHH := hW.wt.2.2
  obtain ⟨_, y4, bs, os, cs, hSs, rfl, hcaps, hmls, hL⟩ := hW.tab.c4
  have HL : Hid (∀ i, i < t.nrule → w.cell? ⟨bs, os + i, none⟩ = some (.int .i64 (t.act i : Nat))) := hL
  have hsf := hW.safe bs hSs
  obtain ⟨_, y5, bp, op, cp, hSp, rfl, hcapp, hmlp, hLp⟩ := hW.tab.c5
  have HLP : Hid (∀ i, i < t.nrule → w.cell? ⟨bp, op + i, none⟩ = some (.int .i64 (t.push i : Nat))) := hLp
  have hsp := hW.safe bp hSp
  have hsb := hW.safe b hW.tab.safe
  have HAC : Hid (∀ i, i < t.nrule → t.act i < 4) := hact
  have HPU : Hid (∀ i, i < t.nrule → t.push i < t.nmode) := ok.push
  have HB5 : Hid (w.cell? ⟨b, 5, none⟩ = some (.slice (some ⟨bp, op, none⟩) t.nrule cp)) := y5
  clear hLp y5
  clear hW hL
  refine wp_seq_k ?_
  intro K hK0
  have HK : Hid (∀ a w, _ → K a w) := hK0
  clear hK0
  go_wp2_with fail
  go_loopg [37] t.nrule (fun q i wr => ∃ j : Nat, q = t.nrule - j ∧ j ≤ t.nrule ∧ i = .int .i64 (j : Int) ∧ Wx H a S b t wr (l ++ t.rulesL j) ∧ Keep H a w wr)
  case atStart => exact ⟨0, rfl, Nat.zero_le _, rfl, by simpa [Tb.rulesL] using HW.out, Keep.refl _ _ _⟩
  case round =>
    obtain ⟨j, hgk, hj, rfl, hX, hk⟩ := hrel
    have AA : Hid (gk = t.nrule - j ∧ Wx H a S b t wr (l ++ t.rulesL j) ∧ Keep H a w wr) := ⟨hgk, hX, hk⟩
    by_cases hj2 : j < t.nrule
    · have i1 : (j : Int) < (t.nrule : Int) := by omega
      have z1 : wr.cell? ⟨bs, os + j, none⟩ = some (.int .i64 (t.act j : Nat)) := (World.cell?_of_block (hk.block bs hsf.1 hsf.2)).trans (HL.out j hj2)
      have hlen : (l ++ t.rulesL j).length ≤ 500000 := by rw [List.length_append, rulesL_len]; omega
      have haj := HAC.out j hj2
      have hpj := HPU.out j hj2
      clear hgk hX hk
      go_wp2_with fail
      refine (wr_one H a wr _ AA.out.2.1.wt (t.act j) (by omega) (by omega)).mono ?_
      rintro e w1 ⟨rfl, h1, k1⟩
      have h1w := AA.out.2.1.next h1 k1
      have kk := AA.out.2.2.trans k1
      have y5 : w1.cell? ⟨b, 5, none⟩ = some (.slice (some ⟨bp, op, none⟩) t.nrule cp) := (World.cell?_of_block (kk.block b hsb.1 hsb.2)).trans HB5.out
      have z2 : w1.cell? ⟨bp, op + j, none⟩ = some (.int .i64 (t.push j : Nat)) := (World.cell?_of_block (kk.block bp hsp.1 hsp.2)).trans (HLP.out j hj2)
      have hlen1 : (l ++ t.rulesL j ++ [t.act j % 256]).length ≤ 500001 := by rw [List.length_append]; simp only [List.length_cons, List.length_nil]; omega
      have A1 : Hid (Wx H a S b t w1 (l ++ t.rulesL j ++ [t.act j % 256]) ∧ Keep H a w w1) := ⟨h1w, kk⟩
      clear h1 k1 h1w kk
      go_wp2_with fail
      refine (wr_one H a w1 _ A1.out.1.wt (t.push j) (by omega) (by omega)).mono ?_
      rintro e w2 ⟨rfl, h1, k1⟩
      have B1 : Hid (Wx H a S b t w2 (l ++ t.rulesL (j + 1)) ∧ Keep H a w w2) := by
        refine ⟨?_, A1.out.2.trans k1⟩
        have h := A1.out.1.next h1 k1
        rw [List.append_assoc, List.append_assoc] at h
        show Wx H a S b t w2 (l ++ (List.range (j + 1)).flatMap fun i => [t.act i % 256, t.push i % 256])
        rw [flat_snoc]
        exact h
      clear h1 k1
      go_wp2_with fail
      go_roundg (t.nrule - (j + 1))
      case measure => rw [AA.out.1]; omega
      case rel => exact ⟨j + 1, rfl, by omega, congrArg (Value.int IntKind.i64) (by omega), B1.out.1, B1.out.2⟩
    · have hje : j = t.nrule := by omega
      have i1 : (t.nrule : Int) ≤ (j : Int) := by omega
      rw [hje] at AA
      clear hgk hX hk hje
      have hlen : (l ++ t.rulesL t.nrule).length ≤ 500000 := by rw [List.length_append, rulesL_len]; omega
      go_wp2_with fail
      refine HK.out _ _ (body_mono (by_5 H a b S t wr _ AA.out.2.1 ok hlen (mem_both hlb fun x hx => rulesL_lt t _ x hx) hn1 hc1 hl1 hl2 hr1 hr2 hm2) ?_)
      rintro e w' ⟨he, hK⟩
      exact ⟨he, AA.out.2.2.trans hK⟩

set_option maxHeartbeats 4000000 in
set_option maxRecDepth 100000 in
theorem by_3 (H a b : Nat) (S : Nat → Prop) (t : Tb) (w : World) (l : List Nat) (hW : Wx H a S b t w l) (ok : t.Ok) (hl : l.length ≤ 300000) (hlb : ∀ x ∈ l, x < 256) (hn1 : 1 ≤ t.nst) (hc1 : 1 ≤ t.count) (hl1 : 1 ≤ t.nlong) (hl2 : t.nlong ≤ 75000) (hr1 : 1 ≤ t.nrule) (hr2 : t.nrule ≤ 8) (hm2 : t.nmode ≤ 3) (hact : ∀ i, i < t.nrule → t.act i < 4)
    {u1 u2 u4 u5 u6 u7 u8 u9 u10 u11 u12 u13 u14 u15 u16 u17 u18 u19 u20 u21 u22 u23 u24 u25 u26 u27 u28 u29 u30 u31 u32 u33 u34 u35 u36 u37 u38 u39 u40 u41 u42 u43 u44 u45 u46 u47 u48 u49 u50 u51 u52 u53 u54 u55 u56 u57 u58 u59 u60 u61 u62 u63 u64 u65 u66 u67 u68 u69 u70 u71 u72 u73 u74 u75 u76 u77 u78 u79 u80 u81 u82 u83 u84 u85 u86 u87 u88 u89 u90 u91 u92 u93 u94 u95 u96 u97 u98 u99 u100 u101 u102 u103 u104 u105 u106 u107 u108 u109 u110 u111 : Value} :
    Code.wp Try.prog (dropSeq 3 ((Try.f15.body).getD .skip)) (bodyPost Try.prog Try.f15 fun e w' =>
      (∃ r : ByteArray, e = .returned (.string r) ∧ r.data.toList = sealed (l ++ t.startsL t.nmode ++ t.rulesL t.nrule ++ t.kindsL 256 ++ t.nextL t.nst ++ t.endsL t.nst ++ t.longL)) ∧ Keep H a w w')
      ⟨(.pointer (some ⟨b, 0, none⟩) :: u1 :: u2 :: .pointer (some ⟨a, 0, none⟩) :: u4 :: u5 :: u6 :: u7 :: u8 :: u9 :: u10 :: u11 :: u12 :: u13 :: u14 :: u15 :: u16 :: u17 :: u18 :: u19 :: u20 :: u21 :: u22 :: u23 :: u24 :: u25 :: u26 :: u27 :: u28 :: u29 :: u30 :: u31 :: u32 :: u33 :: u34 :: u35 :: u36 :: u37 :: u38 :: u39 :: u40 :: u41 :: u42 :: u43 :: u44 :: u45 :: u46 :: u47 :: u48 :: u49 :: u50 :: u51 :: u52 :: u53 :: u54 :: u55 :: u56 :: u57 :: u58 :: u59 :: u60 :: u61 :: u62 :: u63 :: u64 :: u65 :: u66 :: u67 :: u68 :: u69 :: u70 :: u71 :: u72 :: u73 :: u74 :: u75 :: u76 :: u77 :: u78 :: u79 :: u80 :: u81 :: u82 :: u83 :: u84 :: u85 :: u86 :: u87 :: u88 :: u89 :: u90 :: u91 :: u92 :: u93 :: u94 :: u95 :: u96 :: u97 :: u98 :: u99 :: u100 :: u101 :: u102 :: u103 :: u104 :: u105 :: u106 :: u107 :: u108 :: u109 :: u110 :: u111 :: []).toArray, []⟩ w := by
  conv => arg 2; whnf
  have HW : Hid (Wx H a S b t w l) := hW
  have haH := hW.wt.2.1
  have hHH := hW.wt.2.2
  obtain ⟨_, y3, bs, os, cs, hSs, rfl, hcaps, hmls, hL⟩ := hW.tab.c3
  have HL : Hid (∀ i, i < t.nmode → w.cell? ⟨bs, os + i, none⟩ = some (.int .i64 (t.start i : Nat))) := hL
  have hsf := hW.safe bs hSs
  have HKD : Hid (∀ i, i < t.nmode → t.start i < t.nst) := ok.start
  have hnb := ok.nst
  clear hW hL
  refine wp_seq_k ?_
  intro K hK0
  have HK : Hid (∀ a w, _ → K a w) := hK0
  clear hK0
  go_wp2_with fail
  go_loopg [25] t.nmode (fun q i wr => ∃ j : Nat, q = t.nmode - j ∧ j ≤ t.nmode ∧ i = .int .i64 (j : Int) ∧ Wx H a S b t wr (l ++ t.startsL j) ∧ Keep H a w wr)
  case atStart => exact ⟨0, rfl, Nat.zero_le _, rfl, by simpa [Tb.startsL] using HW.out, Keep.refl _ _ _⟩
  case round =>
    obtain ⟨j, hgk, hj, rfl, hX, hk⟩ := hrel
    have AA : Hid (gk = t.nmode - j ∧ Wx H a S b t wr (l ++ t.startsL j) ∧ Keep H a w wr) := ⟨hgk, hX, hk⟩
    by_cases hj2 : j < t.nmode
    · have i1 : (j : Int) < (t.nmode : Int) := by omega
      have z1 : wr.cell? ⟨bs, os + j, none⟩ = some (.int .i64 (t.start j : Nat)) := (World.cell?_of_block (hk.block bs hsf.1 hsf.2)).trans (HL.out j hj2)
      have hlen : (l ++ t.startsL j).length ≤ 400000 := by rw [List.length_append, startsL_len]; omega
      have hkj := HKD.out j hj2
      clear hgk hX hk
      go_wp2_with fail
      refine (wr_two H a wr _ AA.out.2.1.wt (t.start j) (by omega) (by omega)).mono ?_
      rintro e w1 ⟨rfl, h1, k1⟩
      have B1 : Hid (Wx H a S b t w1 (l ++ t.startsL (j + 1)) ∧ Keep H a w w1) := by
        refine ⟨?_, AA.out.2.2.trans k1⟩
        have h := AA.out.2.1.next h1 k1
        rw [List.append_assoc] at h
        show Wx H a S b t w1 (l ++ (List.range (j + 1)).flatMap fun i => two (t.start i))
        rw [flat_snoc]
        exact h
      clear h1 k1
      go_wp2_with fail
      go_roundg (t.nmode - (j + 1))
      case measure => rw [AA.out.1]; omega
      case rel => exact ⟨j + 1, rfl, by omega, congrArg (Value.int IntKind.i64) (by omega), B1.out.1, B1.out.2⟩
    · have hje : j = t.nmode := by omega
      have i1 : (t.nmode : Int) ≤ (j : Int) := by omega
      rw [hje] at AA
      clear hgk hX hk hje
      have hlen : (l ++ t.startsL t.nmode).length ≤ 400000 := by rw [List.length_append, startsL_len]; omega
      go_wp2_with fail
      refine HK.out _ _ (body_mono (by_4 H a b S t wr _ AA.out.2.1 ok hlen (mem_both hlb fun x hx => flat_two _ _ x hx) hn1 hc1 hl1 hl2 hr1 hr2 hm2 hact) ?_)
      rintro e w' ⟨he, hK⟩
      exact ⟨he, AA.out.2.2.trans hK⟩

end Go.Proofs.Yteflpladkmihdaa
