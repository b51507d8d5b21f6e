/- A writer of tables: numbers one behind the other. -/
import Derived.Test.YteflpladkmihdaaLoS
import Derived.Deep.RegionLaw
set_option linter.unusedVariables false
set_option linter.unusedSimpArgs false
namespace Go.Proofs.Yteflpladkmihdaa
open Go.RowKit

/-- A writer lies in block a; it has written the numbers l. -/
def Wt (H a : Nat) (w : World) (l : List Nat) : Prop :=
  (∃ v, w.heap[a]? = some (.cells #[v] 81) ∧ w.ownsRow H 5 1 v l.length (l.map fun x => .int .u8 (x : Nat))) ∧ a < H ∧ H ≤ w.heap.size

set_option maxHeartbeats 1000000 in
set_option maxRecDepth 100000 in
theorem wr_one (H a : Nat) (w : World) (l : List Nat) (hW : Wt H a w l) (n : Nat) (hl : l.length ≤ 1073741824) (hn : n < 4294967296) :
    Calls Try.prog 27 #[.pointer (some ⟨a, 0, none⟩), .int .i64 n] w fun e w' => e = .returned (.tuple #[]) ∧ Wt H a w' (l ++ [n % 256]) ∧ Keep H a w w' := by
  obtain ⟨⟨v, hb, ho⟩, haH, hHH⟩ := hW
  obtain ⟨i0, hi0, hz0, hz1, hz2⟩ := info_parts Try.infoU8
  have x0 : w.cell? ⟨a, 0, none⟩ = some v := by simp [World.cell?, hb]
  have HB : Hid (w.heap[a]? = some (.cells #[v] 81)) := hb
  have O1 : Hid (w.ownsRow H 5 1 v l.length (l.map fun x => .int .u8 (x : Nat))) := ho
  clear hb ho
  generalize hll : l.length = len at *
  go_enter Try.func27, Try.ntmps27
  go_wp2_with (first | (at_builtin; refine wpList_append_lies _ rfl _ _ 70 rfl H 5 i0 (.int .u8 0) 1 1 Try.underlying70 hi0 hz0 hz1 hz2 rfl (by decide) _ _ _ rfl (O1.out.alloc _) ⟨w.heap.size, 0, none⟩ 1 1 [.int .u8 ((n : Int) % 256)] rfl rfl (cell_one_new _ _ _) (by intro u hu; simp at hu; subst hu; rfl) (by decide) (by unfold maxLen; omega) (by omega) (by simp; omega) _ rfl ?_; intro g cap w2 hown hgrow hat hlt2; have hB := below_app O1.out hgrow hHH; have hb2 := (hB.block a haH).trans HB.out; have q1 : w2.cell? ⟨a, 0, none⟩ = some v := (by simp [World.cell?, hb2]); have q2 : w2.frozen? ⟨a, 0, none⟩ = false := (by simp [World.frozen?, hb2])))
  go_end0
  refine ⟨rfl, ⟨⟨.slice (some ⟨g, 0, none⟩) (len + 1) cap, ?_, own_keep ?_ (fun _ => Keep.set _ _ _) haH⟩, haH, by have := hB.size; simp [World.setCell]; omega⟩, (keep_below hB).trans (Keep.set _ _ _)⟩
  · simp [World.setCell, Array.getElem?_modify, hb2]
  · rw [List.length_append, List.map_append, hll]
    exact hown

/-- A number of two bytes, the high one first. -/
def two (n : Nat) : List Nat := [n / 256 % 256, n % 256]

set_option maxHeartbeats 1000000 in
theorem wr_two (H a : Nat) (w : World) (l : List Nat) (hW : Wt H a w l) (n : Nat) (hl : l.length ≤ 1073741823) (hn : n < 4294967296) :
    Calls Try.prog 26 #[.pointer (some ⟨a, 0, none⟩), .int .i64 n] w fun e w' => e = .returned (.tuple #[]) ∧ Wt H a w' (l ++ two n) ∧ Keep H a w w' := by
  have HW : Hid (Wt H a w l) := hW
  have HE : Hid ((n : Int) / 256 = ((n / 256 : Nat) : Int)) := by show _ = _; omega
  clear hW
  go_enter Try.func26, Try.ntmps26
  go_wp2_with fail
  rw [HE.out]
  refine (wr_one H a w l HW.out (n / 256) (by omega) (by omega)).mono ?_
  rintro e w1 ⟨rfl, h1, k1⟩
  have H1 : Hid (Wt H a w1 (l ++ [n / 256 % 256])) := h1
  clear h1
  go_wp2_with fail
  refine (wr_one H a w1 _ H1.out n (by simp; omega) hn).mono ?_
  rintro e w2 ⟨rfl, h2, k2⟩
  have H2 : Hid (Wt H a w2 (l ++ two n)) := by
    show Wt H a w2 _
    rw [List.append_assoc] at h2
    exact h2
  clear h2
  go_wp2_with fail
  go_end0
  exact ⟨rfl, H2.out, k1.trans k2⟩
end Go.Proofs.Yteflpladkmihdaa

/- The head of tables is written. -/
namespace Go.Proofs.Yteflpladkmihdaa
open Go.RowKit

/-- What a walk that writes tables knows: the writer (block a), the tables (block b, safe blocks S). -/
structure Wx (H a : Nat) (S : Nat → Prop) (b : Nat) (t : Tb) (w : World) (l : List Nat) : Prop where
  wt : Wt H a w l
  tab : TabAt w S b t
  safe : ∀ k, S k → k < H ∧ k ≠ a
theorem Wx.next {H a : Nat} {S : Nat → Prop} {b : Nat} {t : Tb} {w w' : World} {l l' : List Nat} (h : Wx H a S b t w l) (hW : Wt H a w' l') (hk : Keep H a w w') : Wx H a S b t w' l' :=
  ⟨hW, h.tab.keep fun k hs => hk.block k (h.safe k hs).1 (h.safe k hs).2, h.safe⟩

def streamN (t : Tb) : Nat := if t.stream then 1 else 0
/-- The head. -/
def Tb.headL (t : Tb) : List Nat := [76, 88, streamN t, t.ahead % 256, t.hold % 256] ++ two t.nmode ++ two t.nrule ++ two t.nst ++ two t.count

set_option maxHeartbeats 4000000 in
set_option maxRecDepth 100000 in
theorem whead_calls (H a b : Nat) (S : Nat → Prop) (t : Tb) (w : World) (hW : Wx H a S b t w []) (ok : t.Ok) (hr : t.nrule ≤ 8) (hm : t.nmode ≤ 3) :
    Calls Try.prog 25 #[.pointer (some ⟨a, 0, none⟩), .pointer (some ⟨b, 0, none⟩)] w fun e w' => e = .returned (.tuple #[]) ∧ Wx H a S b t w' t.headL ∧ Keep H a w w' := by
  have HW : Hid (Wx H a S b t w []) := hW
  have b1 := ok.ahead
  have b2 := ok.hold
  have b3 := ok.nst
  have b4 := ok.count
  clear hW ok
  cases hst : t.stream with
  | true =>
    have HST : Hid (streamN t = 1) := by show _ = _; unfold streamN; rw [hst]; rfl
    have HT : Hid (t.stream = true) := hst
    clear hst
    go_enter Try.func25, Try.ntmps25
    go_wp2_with fail
    refine (wr_one H a w _ HW.out.wt (76) (by simp [two]) (by omega)).mono ?_
    rintro e w1 ⟨rfl, h1, k1⟩
    have H1 : Hid (Wx H a S b t w1 _) := HW.out.next h1 k1
    clear h1 
    go_wp2_with fail
    refine (wr_one H a w1 _ H1.out.wt (88) (by simp [two]) (by omega)).mono ?_
    rintro e w2 ⟨rfl, h1, k2⟩
    have H2 : Hid (Wx H a S b t w2 _) := H1.out.next h1 k2
    clear h1 
    have y0 : w2.cell? ⟨b, 0, none⟩ = some (.bool true) := by rw [← HT.out]; exact H2.out.tab.c0
    go_wp2_with fail
    refine (wr_one H a w2 _ H2.out.wt (1) (by simp [two]) (by omega)).mono ?_
    rintro e w3 ⟨rfl, h1, k3⟩
    have H3 : Hid (Wx H a S b t w3 _) := H2.out.next h1 k3
    clear h1 y0
    have y1 : w3.cell? ⟨b, 1, none⟩ = some (.int .i64 (t.ahead : Nat)) := H3.out.tab.c1
    go_wp2_with fail
    refine (wr_one H a w3 _ H3.out.wt (t.ahead) (by simp [two]) (by omega)).mono ?_
    rintro e w4 ⟨rfl, h1, k4⟩
    have H4 : Hid (Wx H a S b t w4 _) := H3.out.next h1 k4
    clear h1 y1
    have y2 : w4.cell? ⟨b, 2, none⟩ = some (.int .i64 (t.hold : Nat)) := H4.out.tab.c2
    go_wp2_with fail
    refine (wr_one H a w4 _ H4.out.wt (t.hold) (by simp [two]) (by omega)).mono ?_
    rintro e w5 ⟨rfl, h1, k5⟩
    have H5 : Hid (Wx H a S b t w5 _) := H4.out.next h1 k5
    clear h1 y2
    obtain ⟨_, y3, bb, oo, cc, _, rfl, _, _, _⟩ := H5.out.tab.c3
    go_wp2_with fail
    refine (wr_two H a w5 _ H5.out.wt (t.nmode) (by simp [two]) (by omega)).mono ?_
    rintro e w6 ⟨rfl, h1, k6⟩
    have H6 : Hid (Wx H a S b t w6 _) := H5.out.next h1 k6
    clear h1 y3
    obtain ⟨_, y4, bb, oo, cc, _, rfl, _, _, _⟩ := H6.out.tab.c4
    go_wp2_with fail
    refine (wr_two H a w6 _ H6.out.wt (t.nrule) (by simp [two]) (by omega)).mono ?_
    rintro e w7 ⟨rfl, h1, k7⟩
    have H7 : Hid (Wx H a S b t w7 _) := H6.out.next h1 k7
    clear h1 y4
    obtain ⟨_, y8, bb, oo, cc, _, rfl, _, _, _⟩ := H7.out.tab.c8
    go_wp2_with fail
    refine (wr_two H a w7 _ H7.out.wt (t.nst) (by simp [two]) (by omega)).mono ?_
    rintro e w8 ⟨rfl, h1, k8⟩
    have H8 : Hid (Wx H a S b t w8 _) := H7.out.next h1 k8
    clear h1 y8
    have y7 : w8.cell? ⟨b, 7, none⟩ = some (.int .i64 (t.count : Nat)) := H8.out.tab.c7
    go_wp2_with fail
    refine (wr_two H a w8 _ H8.out.wt (t.count) (by simp [two]) (by omega)).mono ?_
    rintro e w9 ⟨rfl, h1, k9⟩
    have H9 : Hid (Wx H a S b t w9 _) := H8.out.next h1 k9
    clear h1 y7
    go_wp2_with fail
    go_end0
    refine ⟨rfl, ?_, ((((((((k1.trans k2).trans k3).trans k4).trans k5).trans k6).trans k7).trans k8).trans k9)⟩
    have h := H9.out
    unfold Tb.headL
    rw [HST.out]
    simpa [List.append_assoc, two] using h
  | false =>
    have HST : Hid (streamN t = 0) := by show _ = _; unfold streamN; rw [hst]; rfl
    have HT : Hid (t.stream = false) := hst
    clear hst
    go_enter Try.func25, Try.ntmps25
    go_wp2_with fail
    refine (wr_one H a w _ HW.out.wt (76) (by simp [two]) (by omega)).mono ?_
    rintro e w1 ⟨rfl, h1, k1⟩
    have H1 : Hid (Wx H a S b t w1 _) := HW.out.next h1 k1
    clear h1 
    go_wp2_with fail
    refine (wr_one H a w1 _ H1.out.wt (88) (by simp [two]) (by omega)).mono ?_
    rintro e w2 ⟨rfl, h1, k2⟩
    have H2 : Hid (Wx H a S b t w2 _) := H1.out.next h1 k2
    clear h1 
    have y0 : w2.cell? ⟨b, 0, none⟩ = some (.bool false) := by rw [← HT.out]; exact H2.out.tab.c0
    go_wp2_with fail
    refine (wr_one H a w2 _ H2.out.wt (0) (by simp [two]) (by omega)).mono ?_
    rintro e w3 ⟨rfl, h1, k3⟩
    have H3 : Hid (Wx H a S b t w3 _) := H2.out.next h1 k3
    clear h1 y0
    have y1 : w3.cell? ⟨b, 1, none⟩ = some (.int .i64 (t.ahead : Nat)) := H3.out.tab.c1
    go_wp2_with fail
    refine (wr_one H a w3 _ H3.out.wt (t.ahead) (by simp [two]) (by omega)).mono ?_
    rintro e w4 ⟨rfl, h1, k4⟩
    have H4 : Hid (Wx H a S b t w4 _) := H3.out.next h1 k4
    clear h1 y1
    have y2 : w4.cell? ⟨b, 2, none⟩ = some (.int .i64 (t.hold : Nat)) := H4.out.tab.c2
    go_wp2_with fail
    refine (wr_one H a w4 _ H4.out.wt (t.hold) (by simp [two]) (by omega)).mono ?_
    rintro e w5 ⟨rfl, h1, k5⟩
    have H5 : Hid (Wx H a S b t w5 _) := H4.out.next h1 k5
    clear h1 y2
    obtain ⟨_, y3, bb, oo, cc, _, rfl, _, _, _⟩ := H5.out.tab.c3
    go_wp2_with fail
    refine (wr_two H a w5 _ H5.out.wt (t.nmode) (by simp [two]) (by omega)).mono ?_
    rintro e w6 ⟨rfl, h1, k6⟩
    have H6 : Hid (Wx H a S b t w6 _) := H5.out.next h1 k6
    clear h1 y3
    obtain ⟨_, y4, bb, oo, cc, _, rfl, _, _, _⟩ := H6.out.tab.c4
    go_wp2_with fail
    refine (wr_two H a w6 _ H6.out.wt (t.nrule) (by simp [two]) (by omega)).mono ?_
    rintro e w7 ⟨rfl, h1, k7⟩
    have H7 : Hid (Wx H a S b t w7 _) := H6.out.next h1 k7
    clear h1 y4
    obtain ⟨_, y8, bb, oo, cc, _, rfl, _, _, _⟩ := H7.out.tab.c8
    go_wp2_with fail
    refine (wr_two H a w7 _ H7.out.wt (t.nst) (by simp [two]) (by omega)).mono ?_
    rintro e w8 ⟨rfl, h1, k8⟩
    have H8 : Hid (Wx H a S b t w8 _) := H7.out.next h1 k8
    clear h1 y8
    have y7 : w8.cell? ⟨b, 7, none⟩ = some (.int .i64 (t.count : Nat)) := H8.out.tab.c7
    go_wp2_with fail
    refine (wr_two H a w8 _ H8.out.wt (t.count) (by simp [two]) (by omega)).mono ?_
    rintro e w9 ⟨rfl, h1, k9⟩
    have H9 : Hid (Wx H a S b t w9 _) := H8.out.next h1 k9
    clear h1 y7
    go_wp2_with fail
    go_end0
    refine ⟨rfl, ?_, ((((((((k1.trans k2).trans k3).trans k4).trans k5).trans k6).trans k7).trans k8).trans k9)⟩
    have h := H9.out
    unfold Tb.headL
    rw [HST.out]
    simpa [List.append_assoc, two] using h
end Go.Proofs.Yteflpladkmihdaa

/- Tables are written: the bits, the sum. -/
namespace Go.Proofs.Yteflpladkmihdaa
open Go.RowKit

theorem addr_add (b o j : Nat) : (⟨b, o, none⟩ : Addr).add j = ⟨b, o + j, none⟩ := by unfold Addr.add; split <;> simp_all
def u8s (l : List Nat) : List UInt8 := l.map UInt8.ofNat
theorem own_conv {w : World} {H g n cap : Nat} {l : List Nat} (h : w.ownsRow H 5 1 (.slice (some ⟨g, 0, none⟩) n cap) n (l.map fun x => .int .u8 (x : Nat))) (hl : ∀ x ∈ l, x < 256) :
    (convert 70 9 (.slice (some ⟨g, 0, none⟩) n cap)).run Try.prog w = .ok (.string ⟨(u8s l).toArray⟩) w := by
  have hn : (u8s l).length = n := by have := h.1; simp [u8s] at *; omega
  rw [← hn]
  refine run_convert_bytes_back _ 70 9 5 ⟨g, 0, none⟩ cap (u8s l) Try.underlying70 Try.underlying5 Try.underlying9 ?_
  intro j hj
  rcases h.2 with ⟨hv, _⟩ | ⟨g', cap', cur, hv, hb, hg, h1, h2, h3, h4⟩
  · cases hv
  · injection hv with ha _ hc
    injection ha with ha
    injection ha with hgg
    subst hgg hc
    have hjl : j < l.length := by simpa [u8s] using hj
    have e1 : (cur.toList.take (n * 1))[j]? = some (.int .u8 ((u8s l)[j].toNat : Nat)) := by
      rw [h4, List.getElem?_map, List.getElem?_eq_getElem hjl]
      have hx := hl l[j] (List.getElem_mem hjl)
      simp [u8s]
      omega
    rw [List.getElem?_take, if_pos (by omega)] at e1
    rw [addr_add, Nat.zero_add]
    simp [World.cell?, hg]
    simpa using e1

/-- The bits. -/
def Tb.longL (t : Tb) : List Nat := (List.range t.nlong).map t.long
/-- All bytes, with their sum. -/
def sealed (l : List Nat) : List UInt8 := u8s l ++ four (4294967295 - crcTo (u8s l))

set_option maxHeartbeats 4000000 in
set_option maxRecDepth 100000 in
theorem by_8 (H a b : Nat) (S : Nat → Prop) (t : Tb) (w : World) (l : List Nat) (hW : Wx H a S b t w l) (ok : t.Ok) (hl : l.length ≤ 900000) (hlb : ∀ x ∈ l, x < 256) (hn1 : 1 ≤ t.nst) (hc1 : 1 ≤ t.count) (hl1 : 1 ≤ t.nlong) (hl2 : t.nlong ≤ 75000) (hr1 : 1 ≤ t.nrule) (hr2 : t.nrule ≤ 8) (hm2 : t.nmode ≤ 3)
    {u1 u2 u4 u5 u6 u7 u8 u9 u10 u11 u12 u13 u14 u15 u16 u17 u18 u19 u20 u21 u22 u23 u24 u25 u26 u27 u28 u29 u30 u31 u32 u33 u34 u35 u36 u37 u38 u39 u40 u41 u42 u43 u44 u45 u46 u47 u48 u49 u50 u51 u52 u53 u54 u55 u56 u57 u58 u59 u60 u61 u62 u63 u64 u65 u66 u67 u68 u69 u70 u71 u72 u73 u74 u75 u76 u77 u78 u79 u80 u81 u82 u83 u84 u85 u86 u87 u88 u89 u90 u91 u92 u93 u94 u95 u96 u97 u98 u99 u100 u101 u102 u103 u104 u105 u106 u107 u108 u109 u110 u111 : Value} :
    Code.wp Try.prog (dropSeq 8 ((Try.f15.body).getD .skip)) (bodyPost Try.prog Try.f15 fun e w' =>
      (∃ r : ByteArray, e = .returned (.string r) ∧ r.data.toList = sealed (l ++ t.longL)) ∧ Keep H a w w')
      ⟨(.pointer (some ⟨b, 0, none⟩) :: u1 :: u2 :: .pointer (some ⟨a, 0, none⟩) :: u4 :: u5 :: u6 :: u7 :: u8 :: u9 :: u10 :: u11 :: u12 :: u13 :: u14 :: u15 :: u16 :: u17 :: u18 :: u19 :: u20 :: u21 :: u22 :: u23 :: u24 :: u25 :: u26 :: u27 :: u28 :: u29 :: u30 :: u31 :: u32 :: u33 :: u34 :: u35 :: u36 :: u37 :: u38 :: u39 :: u40 :: u41 :: u42 :: u43 :: u44 :: u45 :: u46 :: u47 :: u48 :: u49 :: u50 :: u51 :: u52 :: u53 :: u54 :: u55 :: u56 :: u57 :: u58 :: u59 :: u60 :: u61 :: u62 :: u63 :: u64 :: u65 :: u66 :: u67 :: u68 :: u69 :: u70 :: u71 :: u72 :: u73 :: u74 :: u75 :: u76 :: u77 :: u78 :: u79 :: u80 :: u81 :: u82 :: u83 :: u84 :: u85 :: u86 :: u87 :: u88 :: u89 :: u90 :: u91 :: u92 :: u93 :: u94 :: u95 :: u96 :: u97 :: u98 :: u99 :: u100 :: u101 :: u102 :: u103 :: u104 :: u105 :: u106 :: u107 :: u108 :: u109 :: u110 :: u111 :: []).toArray, []⟩ w := by
  conv => arg 2; whnf
  have HW : Hid (Wx H a S b t w l) := hW
  have haH := hW.wt.2.1
  have hHH := hW.wt.2.2
  obtain ⟨⟨v, hb, ho⟩, _, _⟩ := hW.wt
  obtain ⟨_, y12, b12, o12, c12, hS12, rfl, hcap12, hml12, hL⟩ := hW.tab.c12
  obtain ⟨i0, hi0, hz0, hz1, hz2⟩ := info_parts Try.infoU8
  have x0 : w.cell? ⟨a, 0, none⟩ = some v := by simp [World.cell?, hb]
  have z0 : w.frozen? ⟨a, 0, none⟩ = false := by simp [World.frozen?, hb]
  have HB : Hid (w.heap[a]? = some (.cells #[v] 81)) := hb
  have O1 : Hid (w.ownsRow H 5 1 v l.length (l.map fun x => .int .u8 (x : Nat))) := ho
  have HL : Hid (∀ j u, (t.longL.map fun x => (.int .u8 (x : Nat) : Value))[j]? = some u → w.cell? ((⟨b12, o12, none⟩ : Addr).add j) = some u) := by
    intro j u hu
    have hj : j < t.nlong := by have := (List.getElem?_eq_some_iff.1 hu).1; simpa [Tb.longL] using this
    rw [addr_add]
    have e : w.cell? ⟨b12, o12 + j, none⟩ = some (.int .u8 (t.long j : Nat)) := hL j hj
    rw [e, ← hu]
    simp [Tb.longL, hj]
  have HLB : Hid (∀ x ∈ l ++ t.longL, x < 256) := by
    intro x hx
    rcases List.mem_append.1 hx with h | h
    · exact hlb x h
    · obtain ⟨i, hi, rfl⟩ := List.mem_map.1 h
      exact ok.longB i (List.mem_range.1 hi)
  have lb : b < w.heap.size := Nat.lt_of_lt_of_le (hW.safe _ hW.tab.safe).1 hHH
  have hbne : b ≠ a := (hW.safe _ hW.tab.safe).2
  have hla : a < w.heap.size := by omega
  have ag : v.ownBlock ≠ some a := fun e => by have := (ho.lt a e).1; omega
  clear hW hb ho hL
  refine wp_seq_k ?_
  intro K hK0
  have HK : Hid (∀ a w, _ → K a w) := hK0
  clear hK0
  go_wp2_with fail
  go_region_law
    ((refine step_append_lies _ (by rfl) (.tmp 98) (.tmp 102) 70 (by rfl) H 5 i0 (.int .u8 0) 1 1 Try.underlying70 hi0 hz0 hz1 hz2 rfl (by omega) v l.length _ (by simp [Act.eval, Act.put]) O1.out.drew
        ⟨b12, o12, none⟩ t.nlong c12 (t.longL.map fun x => .int .u8 (x : Nat)) (by simp [Act.eval, Act.put]) (by simp [Tb.longL]) HL.out (by intro u hu; obtain ⟨x, _, rfl⟩ := List.mem_map.1 hu; rfl)
        (by omega) (by unfold maxLen; omega) (by omega) (by simpa using hHH) _ rfl ?_; intro gg cap w1 hown1 hgrow hat hlt; have hc1 : w1.cell? ⟨a, 0, none⟩ = some v := (hgrow.cell_far ⟨a, 0, none⟩ hla (Ne.symm ag)).trans x0; have hfz1 : w1.frozen? ⟨a, 0, none⟩ = false := (hgrow.frozen_far ⟨a, 0, none⟩ hla (Ne.symm ag)).trans z0))
  all_goals
    refine HK.out _ _ ?_
    obtain ⟨w2, hw2, A2⟩ : ∃ w2, w2 = w1.setCell ⟨a, 0, none⟩ (.slice (some ⟨gg, 0, none⟩) (l.length + t.nlong) cap) ∧ Hid (w2.ownsRow H 5 1 (.slice (some ⟨gg, 0, none⟩) (l.length + t.nlong) cap) (l.length + t.nlong) ((l ++ t.longL).map fun x => .int .u8 (x : Nat)) ∧ w2.cell? ⟨a, 0, none⟩ = some (.slice (some ⟨gg, 0, none⟩) (l.length + t.nlong) cap) ∧ Keep H a w w2) := by
      have hb1 : w1.heap[a]? = some (.cells #[v] 81) := (hgrow.block a hla (Ne.symm ag)).trans HB.out
      refine ⟨_, rfl, own_keep ?_ (fun _ => Keep.set _ _ _) haH, ?_, ((Keep.drew _).trans (Keep.grown hgrow hHH fun k hk => (O1.out.lt k hk).1)).trans (Keep.set _ _ _)⟩
      · rw [List.map_append]; exact hown1
      · simp [World.cell?, World.setCell, Array.getElem?_modify, hb1]
    rw [← hw2]
    have y0 := A2.out.2.1
    have hc := own_conv A2.out.1 HLB.out
    have hla2 : a < w2.heap.size := Nat.lt_of_lt_of_le hla A2.out.2.2.size
    have hsz : (l ++ t.longL).length ≤ 1000000 := by simp [Tb.longL]; omega
    clear hw2 hown1 hgrow hat hlt hc1 hfz1
    generalize hLL : l ++ t.longL = LL at *
    have HLL : Hid (l ++ t.longL = LL) := hLL
    clear hLL
    go_wp2_with fail
    refine (sumOf_calls ⟨(u8s LL).toArray⟩ w2 (by simp [u8s, ByteArray.size]; omega)).mono ?_
    rintro e w3 ⟨rfl, hB⟩
    have HF : Hid (Keep H a w w3) := A2.out.2.2.trans (Keep.below hB (Nat.le_trans hHH A2.out.2.2.size))
    have hX : (⟨(u8s LL).toArray⟩ : ByteArray).size ≤ 1000000 := by simpa [u8s, ByteArray.size] using hsz
    have hY : (⟨(four (4294967295 - crcTo (⟨(u8s LL).toArray⟩ : ByteArray).data.toList)).toArray⟩ : ByteArray).size = 4 := rfl
    have HZ : Hid ((⟨(u8s LL).toArray⟩ : ByteArray).data.toList ++ (⟨(four (4294967295 - crcTo (⟨(u8s LL).toArray⟩ : ByteArray).data.toList)).toArray⟩ : ByteArray).data.toList = sealed LL) := rfl
    clear hB hc A2
    generalize (⟨(four (4294967295 - crcTo (⟨(u8s LL).toArray⟩ : ByteArray).data.toList)).toArray⟩ : ByteArray) = Y at *
    generalize (⟨(u8s LL).toArray⟩ : ByteArray) = X at *
    go_wp2_with fail
    go_ret
    refine ⟨⟨X ++ Y, rfl, ?_⟩, HF.out⟩
    rw [← HZ.out]
    simp

end Go.Proofs.Yteflpladkmihdaa
