/- Which states live. -/
import Derived.Test.YteflpladkmihdaaLiAToLiB
set_option linter.unusedVariables false
set_option linter.unusedSimpArgs false
namespace Go.Proofs.Yteflpladkmihdaa
open Go.RowKit

/-- Tables of the program's own, but for what lives. -/
structure MemB (w : World) (H b : Nat) (c : Tc) (t : Tb) : Prop where
  tp : TpAt w b c
  stream : c.stream = .bool t.stream
  ahead : c.ahead = .int .i64 t.ahead
  hold : c.hold = .int .i64 t.hold
  count : c.count = .int .i64 t.count
  rows : c.rows = .int .i64 t.rows
  starts : Row w H 3 c.starts t.nmode fun i => .int .i64 (t.start i : Nat)
  acts : Row w H 3 c.acts t.nrule fun i => .int .i64 (t.act i : Nat)
  pushed : Row w H 3 c.pushed t.nrule fun i => .int .i64 (t.push i : Nat)
  kinds : Row w H 3 c.kinds 256 fun i => .int .i64 (t.kind i : Nat)
  next : ∃ rv, Row w H 67 c.next t.nst rv ∧ ∀ i, i < t.nst → Row w H 3 (rv i) t.count fun k => .int .i64 (t.next i k : Nat)
  ends : Row w H 3 c.ends t.nst fun i => .int .i64 (t.ends i)
  longer : Row w H 5 c.longer t.nlong fun i => .int .u8 (t.long i : Nat)
  bH : b < H
  HH : H ≤ w.heap.size

theorem MemB.withLive {w w' : World} {H b : Nat} {c : Tc} {t : Tb} {v : Value} (h : MemB w H b c t) (hk : Keep w.heap.size b w w') (ht : TpAt w' b { c with live := v }) : MemB w' H b { c with live := v } t := by
  have hbH := h.bH
  have k : ∀ {e v n f}, Row w H e v n f → Row w' H e v n f := fun r => r.blk fun g h1 h2 _ => hk.block g h2 (by omega)
  obtain ⟨rv, n1, n2⟩ := h.next
  exact ⟨ht, h.stream, h.ahead, h.hold, h.count, h.rows, k h.starts, k h.acts, k h.pushed, k h.kinds, ⟨rv, k n1, fun i hi => k (n2 i hi)⟩, k h.ends, k h.longer, h.bH, Nat.le_trans h.HH hk.size⟩
theorem MemB.mem {w : World} {H b : Nat} {c : Tc} {t : Tb} (h : MemB w H b c t) (f : Nat → Bool) (hl : Row w H 4 c.live t.nst fun i => .bool (f i)) : Mem w H b c { t with live := f } :=
  ⟨h.tp, h.stream, h.ahead, h.hold, h.count, h.rows, h.starts, h.acts, h.pushed, h.kinds, h.next, h.ends, hl, h.longer, h.bH, h.HH⟩

/-- How many of the first n states are not known to live. -/
def deadF (live : Nat → Bool) : Nat → Nat
  | 0 => 0
  | n + 1 => deadF live n + if live n then 0 else 1
def Tb.deadTo (t : Tb) (n : Nat) : Nat := deadF t.live n
theorem dead_set (live : Nat → Bool) (s : Nat) (hs : live s = false) (n : Nat) : deadF (fun j => if j = s then true else live j) n + (if s < n then 1 else 0) = deadF live n := by
  induction n with
  | zero => rfl
  | succ n ih =>
    simp only [deadF]
    generalize deadF (fun j => if j = s then true else live j) n = A at *
    generalize deadF live n = B at *
    by_cases e : n = s
    · subst e
      simp [hs] at *
      omega
    · by_cases h : s < n
      · simp [e, h, show s < n + 1 by omega] at *
        omega
      · simp [e, h, show ¬ s < n + 1 by omega] at *
        omega
theorem spread_dead (t : Tb) (s : Nat) (hs : s ≤ t.nst) : (t.spreadTo s).1.deadTo t.nst + (if (t.spreadTo s).2 then 1 else 0) ≤ t.deadTo t.nst := by
  induction s with
  | zero => exact Nat.le_refl _
  | succ s ih =>
    have ih := ih (by omega)
    cases h1 : (t.spreadTo s).1.live s with
    | true => rw [spreadTo_no t s (.inl h1)]; exact ih
    | false =>
      cases h2 : (t.spreadTo s).1.anyTo s t.count with
      | false => rw [spreadTo_no t s (.inr h2)]; exact ih
      | true =>
        rw [spreadTo_yes t s h1 h2]
        have h3 := dead_set (t.spreadTo s).1.live s h1 t.nst
        rw [if_pos (by omega)] at h3
        show deadF (fun j => if j = s then true else (t.spreadTo s).1.live j) t.nst + (if true = true then 1 else 0) ≤ _
        rw [if_pos rfl, h3]
        exact Nat.le_trans (Nat.le_add_right _ _) ih
theorem spread_stay (t : Tb) (s : Nat) (h : (t.spreadTo s).2 = false) : (t.spreadTo s).1 = t := by
  induction s with
  | zero => rfl
  | succ s ih =>
    cases h1 : (t.spreadTo s).1.live s with
    | true => rw [spreadTo_no t s (.inl h1)] at h ⊢; exact ih h
    | false =>
      cases h2 : (t.spreadTo s).1.anyTo s t.count with
      | false => rw [spreadTo_no t s (.inr h2)] at h ⊢; exact ih h
      | true => rw [spreadTo_yes t s h1 h2] at h; cases h
/-- Again and again. -/
def Tb.itr (t : Tb) : Nat → Tb
  | 0 => t
  | n + 1 => ((t.itr n).spreadTo t.nst).1
theorem withLive_eq {t u : Tb} (h : u = { t with live := u.live }) (f : Nat → Bool) : ({ u with live := f } : Tb) = { t with live := f } := by rw [h]
theorem itr_same (t : Tb) (n : Nat) : t.itr n = { t with live := (t.itr n).live } := by
  induction n with
  | zero => rfl
  | succ n ih => exact (spreadTo_same (t.itr n) t.nst).trans (withLive_eq ih _)
theorem itr_nst (t : Tb) (n : Nat) : (t.itr n).nst = t.nst := by rw [itr_same]
theorem itr_count (t : Tb) (n : Nat) : (t.itr n).count = t.count := by rw [itr_same]
theorem itr_ok {t : Tb} (ok : t.Ok) (n : Nat) : (t.itr n).Ok := by rw [itr_same]; exact ok.withLive _
/-- A state lives at first if a rule ends there. -/
def Tb.first (t : Tb) : Tb := { t with live := fun s => t.ends s != -1 }

set_option maxHeartbeats 2000000 in
set_option maxRecDepth 100000 in
theorem findLive_calls (w : World) (H b : Nat) (c : Tc) (t : Tb) (hM : MemB w H b c t) (hl : c.live = .slice none 0 0) (ok : t.Ok) (hn : 1 ≤ t.nst) (hc : 1 ≤ t.count) :
    Calls Try.prog 23 #[.pointer (some ⟨b, 0, none⟩)] w fun e w' => e = .returned (.tuple #[]) ∧ ∃ v n, Mem w' H b { c with live := v } (t.first.itr n) ∧ ((t.first.itr n).spreadTo t.nst).2 = false ∧ Keep H b w w' := by
  obtain ⟨i0, hi0, hz0, hz1, hz2⟩ := info_parts Try.infoBool
  obtain ⟨ge, cape, he, he1, he2, he3, he4, he5, he6⟩ := hM.ends.get hn
  have y9 : w.cell? ⟨b, 9, none⟩ = some (.slice (some ⟨ge, 0, none⟩) t.nst cape) := by rw [← he]; exact hM.tp.get_ends
  have HM : Hid (MemB w H b c t) := hM
  have HE : Hid (∀ i, i < t.nst → w.cell? ⟨ge, i, none⟩ = some (.int .i64 (t.ends i))) := he5
  have HEN : Hid (∀ i, i < t.nst → -1 ≤ t.ends i ∧ t.ends i < t.nrule) := ok.ends
  have hnb := ok.nst
  have hbH := hM.bH
  have hHH := hM.HH
  clear hM he5 he6
  generalize hnst : t.nst = n at *
  have HN : Hid (t.nst = n) := hnst
  clear hnst
  go_enter Try.func23, Try.ntmps23
  refine wp_seq_k ?_
  intro K hK0
  have HK : Hid (∀ a w, _ → K a w) := hK0
  clear hK0
  go_wp2_with fail
  go_loopg [9] n (fun q i wr => ∃ (j : Nat) (v : Value), q = n - j ∧ j ≤ n ∧ i = .int .i64 (j : Int) ∧ Row wr w.heap.size 4 v j (fun s => .bool (t.ends s != -1)) ∧ TpAt wr b { c with live := v } ∧ Keep w.heap.size b w wr)
  case atStart => exact ⟨0, .slice none 0 0, rfl, Nat.zero_le _, rfl, World.ownsRow_nil _ _ _ _, (by rw [← hl]; exact HM.out.tp), Keep.refl _ _ _⟩
  case round =>
    obtain ⟨j, v, hgk, hj, rfl, ho, hT, hk⟩ := hrel
    have hsz1 : w.heap.size ≤ wr.heap.size := hk.size
    by_cases hj2 : j < n
    · have i1 : (j : Int) < (n : Int) := by omega
      have z1 : wr.cell? ⟨ge, j, none⟩ = some (.int .i64 (t.ends j)) := (World.cell?_of_block (hk.block ge he2 (by omega))).trans (HE.out j hj2)
      have t1 : wr.cell? ⟨b, 10, none⟩ = some v := hT.get_live
      have AA : Hid (gk = n - j ∧ Keep w.heap.size b w wr) := ⟨hgk, hk⟩
      have O1 : Hid (wr.ownsRow w.heap.size 4 1 v j ((List.range j).map fun s => .bool (t.ends s != -1))) := ho
      have T1 : Hid (TpAt wr b { c with live := v }) := hT
      have HX : Hid (∃ x, x = t.ends j) := ⟨_, rfl⟩
      obtain ⟨x, hx⟩ := HX.out
      have HX : Hid (x = t.ends j) := hx
      rw [← hx] at z1
      clear hgk ho hT hk hx
      go_wp2_with (first | (at_builtin; refine wpList_append_lies _ rfl _ _ 69 rfl w.heap.size 4 i0 (.bool false) 1 1 Try.underlying69 hi0 hz0 hz1 hz2 rfl (by decide) _ _ _ rfl (O1.out.alloc _) ⟨wr.heap.size, 0, none⟩ 1 1 [.bool (x != -1)] rfl rfl (cell_one_new _ _ _) (by intro u hu; simp at hu; subst hu; rfl) (by decide) (by unfold maxLen; omega) (by omega) (by simp; omega) _ rfl ?_; intro gg cap w2 hown hgrow hat hlt2; have hB := below_app O1.out hgrow hsz1; have q1 := (T1.out.of_block (hB.block b (by omega))).get_live; have q2 := (T1.out.of_block (hB.block b (by omega))).fz 10))
      have T2 : TpAt w2 b { c with live := v } := T1.out.of_block (hB.block b (by omega))
      have O2 : w2.ownsRow w.heap.size 4 1 (.slice (some ⟨gg, 0, none⟩) (j + 1) cap) (j + 1) ((List.range (j + 1)).map fun s => .bool (t.ends s != -1)) := by
        rw [range_snoc, ← HX.out]
        exact hown
      go_roundg (n - (j + 1))
      case measure => rw [AA.out.1]; omega
      case rel => exact ⟨j + 1, _, rfl, by omega, congrArg (Value.int IntKind.i64) (by omega), own_keep O2 (fun _ => Keep.set _ _ _) (by omega), T2.set_live _, (AA.out.2.trans (keep_below hB)).trans (Keep.set _ _ _)⟩
    · have hjn : j = n := by omega
      have i1 : (n : Int) ≤ (j : Int) := by omega
      have M1 : Hid (Mem wr H b { c with live := v } t.first) := by
        refine (HM.out.withLive hk hT).mem _ ?_
        show Row wr H 4 v t.nst _
        rw [HN.out, ← hjn]
        exact ho.mono hHH
      have K1 : Hid (Keep w.heap.size b w wr) := hk
      clear hgk ho hT hk hjn
      go_wp2_with fail
      refine HK.out _ _ ?_
      clear HK
      have HOK := itr_ok (t := t.first) (ok.withLive _)
      have HNS := itr_nst t.first
      have HCT := itr_count t.first
      go_wp2_with fail
      go_loopg [] (t.first.deadTo n) (fun q wq => ∃ m : Nat, q = (t.first.itr m).deadTo n ∧ Mem wq H b { c with live := v } (t.first.itr m) ∧ Keep H b w wq)
      case atStart => exact ⟨0, rfl, M1.out, ⟨K1.out.os, K1.out.output, K1.out.size, fun k hk => K1.out.block k (by omega)⟩⟩
      case round =>
        obtain ⟨m, hgk2, hMm, hKm⟩ := hrel
        have hnm : (t.first.itr m).nst = n := by rw [HNS]; exact HN.out
        have hsp := spreadLive_calls wr H b _ (t.first.itr m) hMm (HOK m) (by rw [hnm]; exact hn) (by rw [HCT]; exact hc)
        have hsd := spread_dead (t.first.itr m) (t.first.itr m).nst (Nat.le_refl _)
        rw [hnm] at hsp hsd
        have A2 : Hid (gk = (t.first.itr m).deadTo n ∧ Mem wr H b { c with live := v } (t.first.itr m) ∧ Keep H b w wr) := ⟨hgk2, hMm, hKm⟩
        have HIT : Hid (t.first.itr (m + 1) = ((t.first.itr m).spreadTo n).1) := by show _ = _; rw [← HN.out]; rfl
        have HSD : Hid (((t.first.itr m).spreadTo n).1.deadTo n + (if ((t.first.itr m).spreadTo n).2 then 1 else 0) ≤ (t.first.itr m).deadTo n) := hsd
        have HSP : Hid (Calls _ _ _ _ _) := hsp
        clear hgk2 hMm hKm hsp hsd hnm HOK HNS HCT
        go_wp2_with fail
        refine Calls.mono HSP.out ?_
        rintro e w2 ⟨rfl, hM2, hB2⟩
        have A3 : Hid (Mem w2 H b { c with live := v } ((t.first.itr m).spreadTo n).1 ∧ Below H wr w2) := ⟨hM2, hB2⟩
        clear hM2 hB2 HSP
        cases hbb : ((t.first.itr m).spreadTo n).2 with
        | true =>
          have hs2 := HSD.out
          rw [hbb, if_pos rfl, ← HIT.out] at hs2
          have HS2 : Hid ((t.first.itr (m + 1)).deadTo n + 1 ≤ (t.first.itr m).deadTo n) := hs2
          clear hbb HSD hs2
          go_wp2_with fail
          go_roundg ((t.first.itr (m + 1)).deadTo n)
          case measure => rw [A2.out.1]; exact HS2.out
          case rel => exact ⟨m + 1, rfl, by rw [HIT.out]; exact A3.out.1, A2.out.2.2.trans ⟨A3.out.2.os, A3.out.2.output, A3.out.2.size, fun k hk _ => A3.out.2.block k hk⟩⟩
        | false =>
          have HBB : Hid (((t.first.itr m).spreadTo n).2 = false) := hbb
          clear hbb
          go_wp2_with fail
          go_end0
          refine ⟨rfl, v, m, ?_, HBB.out, A2.out.2.2.trans ⟨A3.out.2.os, A3.out.2.output, A3.out.2.size, fun k hk _ => A3.out.2.block k hk⟩⟩
          have h := A3.out.1
          rw [spread_stay _ _ HBB.out] at h
          exact h
end Go.Proofs.Yteflpladkmihdaa
