/- What lies behind the head of tables is read. -/
import Derived.Test.YteflpladkmihdaaRdG
set_option linter.unusedVariables false
set_option linter.unusedSimpArgs false
namespace Go.Proofs.Yteflpladkmihdaa
open Go.RowKit

theorem own_blk {w w' : World} {H : Nat} {e : TypeId} {size : Nat} {v : Value} {n : Nat} {xs : List Value} (h : w.ownsRow H e size v n xs) (hb : ∀ g, H ≤ g → g < w.heap.size → v.ownBlock = some g → w'.heap[g]? = w.heap[g]?) : w'.ownsRow H e size v n xs := by
  refine ⟨h.1, h.2.imp id ?_⟩
  rintro ⟨g, cap, cur, hv, hg, hh, rest⟩
  have hlt := (Array.getElem?_eq_some_iff.1 hh).1
  exact ⟨g, cap, cur, hv, hg, (hb g hg hlt (by rw [hv]; rfl)).trans hh, rest⟩
theorem own_kept {w w' : World} {H a b : Nat} {e : TypeId} {size : Nat} {v : Value} {n : Nat} {xs : List Value} (h : w.ownsRow H e size v n xs) (hk : Kept w.heap.size a b w w') (ha : a < H) (hb : b < H) : w'.ownsRow H e size v n xs :=
  own_blk h fun g h1 h2 _ => hk.block g h2 (by omega) (by omega)
theorem own_slice {w : World} {H : Nat} {e : TypeId} {size : Nat} {v : Value} {n : Nat} {xs : List Value} (h : w.ownsRow H e size v n xs) : ∃ ao cap, v = .slice ao n cap := by
  rcases h.2 with ⟨hv, hn⟩ | ⟨g, cap, _, hv, _⟩
  · exact ⟨none, 0, by rw [hv, hn]⟩
  · exact ⟨_, cap, hv⟩
/-- Rows of other elements lie elsewhere. -/
theorem own_other {w : World} {H G : Nat} {e f : TypeId} {size size' : Nat} {v u : Value} {n m : Nat} {xs ys : List Value} (h : w.ownsRow H e size v n xs) (h' : w.ownsRow G f size' u m ys) (hef : e ≠ f) {g : Nat} (hg : v.ownBlock = some g) : u.ownBlock ≠ some g := by
  intro hu
  rcases h.2 with ⟨hv, _⟩ | ⟨g1, _, cur, hv, _, hh, _⟩
  · rw [hv] at hg; cases hg
  · rcases h'.2 with ⟨hv', _⟩ | ⟨g2, _, cur', hv', _, hh', _⟩
    · rw [hv'] at hu; cases hu
    · rw [hv] at hg
      rw [hv'] at hu
      have e1 : g1 = g := by simpa [Value.ownBlock] using hg
      have e2 : g2 = g := by simpa [Value.ownBlock] using hu
      subst e1 e2
      rw [hh] at hh'
      injection hh' with hh'
      injection hh' with _ h2 _
      exact hef h2

theorem body_mono {P : Program} {fn : Func} {c : Code} {R R' : Ending → World → Prop} {a : Act} {w : World} (h : c.wp P (bodyPost P fn R) a w) (hR : ∀ e w, R e w → R' e w) : c.wp P (bodyPost P fn R') a w :=
  Code.wp_mono (fun e a w q => by
    cases e with
    | normal => exact ⟨q.1, q.2.imp fun v h => ⟨h.1, hR _ _ h.2⟩⟩
    | ret => exact ⟨q.1, q.2.imp fun v h => ⟨h.1, hR _ _ h.2⟩⟩
    | panic chain => exact ⟨q.1, hR _ _ q.2⟩
    | outgrown => exact hR _ _ q
    | _ => exact q.elim) h

/-- What is read, by its parts: the rules that end, as they are read. -/
def endF (s : ByteArray) (p rules i : Nat) : Nat := within (byt s (p + i)) 0 rules
def endK (s : ByteArray) (p rules : Nat) : Nat → Bool
  | 0 => true
  | i + 1 => endK s p rules i && decide (p + i < s.size) && inB (byt s (p + i)) 0 rules
def actF (s : ByteArray) (p i : Nat) : Nat := within (byt s (p + 2 * i)) 0 3
def pushF (s : ByteArray) (p modes i : Nat) : Nat := within (byt s (p + 2 * i + 1)) 0 (modes - 1)
def ruleK (s : ByteArray) (p modes : Nat) : Nat → Bool
  | 0 => true
  | i + 1 => ruleK s p modes i && decide (p + 2 * i < s.size) && inB (byt s (p + 2 * i)) 0 3 && decide (p + 2 * i + 1 < s.size) && inB (byt s (p + 2 * i + 1)) 0 (modes - 1)
def nextK (s : ByteArray) (p states kinds : Nat) : Nat → Bool
  | 0 => true
  | i + 1 => nextK s p states kinds i && toK s (p + 2 * kinds * i) states kinds

/-- The bits lie in memory. -/
def P6 (H a b : Nat) (s : ByteArray) (states ways : Nat) (w : World) (c : Tc) (p : Nat) (k : Bool) : Prop :=
  ∃ v, w.ownsRow H 5 1 v ((states * ways + 7) / 8) ((List.range ((states * ways + 7) / 8)).map fun i => .int .u8 (bitF s p (states * ways) i : Nat)) ∧ RdAt w a s (p + (states * ways + 7) / 8) (k && bitK s p (states * ways) ((states * ways + 7) / 8)) ∧ TpAt w b { c with longer := v }
/-- The rules that end, and all behind them. -/
def P5 (H a b : Nat) (s : ByteArray) (rules states ways : Nat) (w : World) (c : Tc) (p : Nat) (k : Bool) : Prop :=
  ∃ v, w.ownsRow H 3 1 v states ((List.range states).map fun i => .int .i64 ((endF s p rules i : Nat) - 1 : Int)) ∧ P6 H a b s states ways w { c with ends := v } (p + states) (k && endK s p rules states)
/-- The states that are led to, and all behind them. -/
def P4 (H a b : Nat) (s : ByteArray) (rules states kinds ways : Nat) (w : World) (c : Tc) (p : Nat) (k : Bool) : Prop :=
  ∃ (v : Value) (rv : Nat → Value), w.ownsRow H 67 1 v states ((List.range states).map rv) ∧ (∀ i, i < states → w.ownsRow H 3 1 (rv i) kinds ((List.range kinds).map fun j => .int .i64 (toF s (p + 2 * kinds * i) states j : Nat))) ∧
    P5 H a b s rules states ways w { c with next := v } (p + 2 * kinds * states) (k && nextK s p states kinds states)
/-- The kinds of bytes, and all behind them. -/
def P3 (H a b : Nat) (s : ByteArray) (rules states kinds ways : Nat) (w : World) (c : Tc) (p : Nat) (k : Bool) : Prop :=
  ∃ v, w.ownsRow H 3 1 v 256 ((List.range 256).map fun i => .int .i64 (kindF s p i : Nat)) ∧ P4 H a b s rules states kinds ways w { c with kinds := v } (p + 256) (k && kindsK s p 256 && decide (metF s p 256 = kinds))
/-- What rules do, and all behind it. -/
def P2 (H a b : Nat) (s : ByteArray) (modes rules states kinds ways : Nat) (w : World) (c : Tc) (p : Nat) (k : Bool) : Prop :=
  ∃ v u, w.ownsRow H 3 1 v rules ((List.range rules).map fun i => .int .i64 (actF s p i : Nat)) ∧ w.ownsRow H 3 1 u rules ((List.range rules).map fun i => .int .i64 (pushF s p modes i : Nat)) ∧
    P3 H a b s rules states kinds ways w { c with acts := v, pushed := u } (p + 2 * rules) (k && ruleK s p modes rules)
/-- Where modes begin, and all behind it. -/
def P1 (H a b : Nat) (s : ByteArray) (modes rules states kinds ways : Nat) (w : World) (c : Tc) (p : Nat) (k : Bool) : Prop :=
  ∃ v, w.ownsRow H 3 1 v modes ((List.range modes).map fun i => .int .i64 (toF s p states i : Nat)) ∧ P2 H a b s modes rules states kinds ways w { c with starts := v } (p + 2 * modes) (k && toK s p states modes)

set_option maxHeartbeats 4000000 in
set_option maxRecDepth 100000 in
theorem body_6 (a b H g : Nat) (w : World) (s : ByteArray) (p : Nat) (k : Bool) (c : Tc) (modes rules states kinds ways : Nat)
    (hR : Rt H a b w w s p k c [(g, .cells #[.int .i64 modes, .int .i64 rules, .int .i64 states, .int .i64 kinds, .int .i64 ways] 74)]) (hs : s.size ≤ 1048576) (h1 : 1 ≤ modes ∧ modes ≤ 3) (h2 : 1 ≤ rules ∧ rules ≤ 8) (h3 : 1 ≤ states ∧ states ≤ 200) (h4 : 1 ≤ kinds ∧ kinds ≤ 256) (h5 : ways ≤ 3000)
    {u2 u3 u4 u6 u7 u8 u9 u10 u11 u12 u13 u14 u15 u16 u17 u18 u19 u20 u21 u22 u23 u24 u25 u26 u27 u28 u29 u30 u31 u32 u33 u34 u35 u36 u37 u38 u39 u40 u41 u42 u43 u44 u45 u46 u47 u48 u49 u50 u51 u52 u53 u54 u55 u56 u57 u58 u59 u60 u61 u62 u63 u64 u65 u66 u67 u68 u69 u70 u71 u72 u73 u74 u75 u76 u77 u78 u79 u80 u81 u82 u83 u84 u85 u86 u87 u88 u89 u90 u91 u92 u93 u94 u95 u96 u97 u98 u99 u100 u101 u102 u103 u104 u105 u106 u107 u108 u109 u110 u111 u112 u113 u114 u115 u116 u117 u118 u119 u120 u121 u122 u123 u124 u125 : Value} :
    Code.wp Try.prog (dropSeq 6 ((Try.f22.body).getD .skip)) (bodyPost Try.prog Try.f22 fun e w' =>
      e = .returned (.tuple #[]) ∧ P6 H a b s states ways w' c p k ∧ Kept w.heap.size a b w w')
      ⟨(.pointer (some ⟨a, 0, none⟩) :: .pointer (some ⟨b, 0, none⟩) :: u2 :: u3 :: u4 :: .pointer (some ⟨g, 0, none⟩) :: u6 :: u7 :: u8 :: u9 :: u10 :: u11 :: u12 :: u13 :: u14 :: u15 :: u16 :: u17 :: u18 :: u19 :: u20 :: u21 :: u22 :: u23 :: u24 :: u25 :: u26 :: u27 :: u28 :: u29 :: u30 :: u31 :: u32 :: u33 :: u34 :: u35 :: u36 :: u37 :: u38 :: u39 :: u40 :: u41 :: u42 :: u43 :: u44 :: u45 :: u46 :: u47 :: u48 :: u49 :: u50 :: u51 :: u52 :: u53 :: u54 :: u55 :: u56 :: u57 :: u58 :: u59 :: u60 :: u61 :: u62 :: u63 :: u64 :: u65 :: u66 :: u67 :: u68 :: u69 :: u70 :: u71 :: u72 :: u73 :: u74 :: u75 :: u76 :: u77 :: u78 :: u79 :: u80 :: u81 :: u82 :: u83 :: u84 :: u85 :: u86 :: u87 :: u88 :: u89 :: u90 :: u91 :: u92 :: u93 :: u94 :: u95 :: u96 :: u97 :: u98 :: u99 :: u100 :: u101 :: u102 :: u103 :: u104 :: u105 :: u106 :: u107 :: u108 :: u109 :: u110 :: u111 :: u112 :: u113 :: u114 :: u115 :: u116 :: u117 :: u118 :: u119 :: u120 :: u121 :: u122 :: u123 :: u124 :: u125 :: []).toArray, []⟩ w := by
  conv => arg 2; whnf
  have HR : Hid (Rt H a b w w s p k c [(g, .cells #[.int .i64 modes, .int .i64 rules, .int .i64 states, .int .i64 kinds, .int .i64 ways] 74)]) := hR
  have hbx : w.heap[g]? = some (.cells #[.int .i64 modes, .int .i64 rules, .int .i64 states, .int .i64 kinds, .int .i64 ways] 74) := (hR.own _ List.mem_cons_self).1
  have hgH : H ≤ g := (hR.own _ List.mem_cons_self).2
  have haH := hR.aH
  have hbH := hR.bH
  have hHH := hR.HH
  have hab := hR.ab
  have hgl : g < w.heap.size := (Array.getElem?_eq_some_iff.1 hbx).1
  have y2 : w.cell? ⟨g, 2, none⟩ = some (.int .i64 states) := by simp [World.cell?, hbx]
  have y4 : w.cell? ⟨g, 4, none⟩ = some (.int .i64 ways) := by simp [World.cell?, hbx]
  have hsw : states * ways ≤ 600000 := Nat.le_trans (Nat.mul_le_mul h3.2 h5) (by decide)
  have p1 : (states : Int) * (ways : Int) ≤ 600000 := by rw [← Int.natCast_mul]; omega
  have p2 : 0 ≤ (states : Int) * (ways : Int) := by rw [← Int.natCast_mul]; omega
  have HE : Hid ((states : Int) * (ways : Int) = ((states * ways : Nat) : Int)) := (Int.natCast_mul _ _).symm
  clear hR hbx
  go_wp2_with fail
  rw [HE.out]
  refine (bits_calls a p (states * ways) s k w HR.out.rd hs hsw).mono ?_
  rintro e w1 ⟨v, rfl, ho, hr, hk⟩
  obtain ⟨ao, cap, rfl⟩ := own_slice ho
  have T1 := HR.out.tb.of_block (hk.block b (by omega) hab.symm)
  have t1 := T1.get_longer
  have t2 := T1.fz 12
  have A : Hid (w1.ownsRow w.heap.size 5 1 (.slice ao ((states * ways + 7) / 8) cap) ((states * ways + 7) / 8) ((List.range ((states * ways + 7) / 8)).map fun i => .int .u8 (bitF s p (states * ways) i : Nat)) ∧ RdAt w1 a s (p + (states * ways + 7) / 8) (k && bitK s p (states * ways) ((states * ways + 7) / 8)) ∧ Keep w.heap.size a w w1 ∧ TpAt w1 b c) := ⟨ho, hr, hk, T1⟩
  clear ho hr hk T1 p1 p2
  go_wp2_with fail
  go_end0
  obtain ⟨ho, hr, hk, hT⟩ := A.out
  refine ⟨rfl, ⟨_, own_less (own_keep ho (fun _ => Keep.set _ _ _) (by omega)) hHH, hr.of_block (Below.heap_setCell _ _ _ _ hab), hT.set_longer _⟩, (Kept.one hk).trans (.two (Keep.set _ _ _))⟩

set_option maxHeartbeats 4000000 in
set_option maxRecDepth 100000 in
theorem body_5 (a b H g : Nat) (w : World) (s : ByteArray) (p : Nat) (k : Bool) (c : Tc) (modes rules states kinds ways : Nat)
    (hR : Rt H a b w w s p k c [(g, .cells #[.int .i64 modes, .int .i64 rules, .int .i64 states, .int .i64 kinds, .int .i64 ways] 74)]) (hs : s.size ≤ 1048576) (h1 : 1 ≤ modes ∧ modes ≤ 3) (h2 : 1 ≤ rules ∧ rules ≤ 8) (h3 : 1 ≤ states ∧ states ≤ 200) (h4 : 1 ≤ kinds ∧ kinds ≤ 256) (h5 : ways ≤ 3000) (n9 : c.ends = .slice none 0 0)
    {u2 u3 u4 u6 u7 u8 u9 u10 u11 u12 u13 u14 u15 u16 u17 u18 u19 u20 u21 u22 u23 u24 u25 u26 u27 u28 u29 u30 u31 u32 u33 u34 u35 u36 u37 u38 u39 u40 u41 u42 u43 u44 u45 u46 u47 u48 u49 u50 u51 u52 u53 u54 u55 u56 u57 u58 u59 u60 u61 u62 u63 u64 u65 u66 u67 u68 u69 u70 u71 u72 u73 u74 u75 u76 u77 u78 u79 u80 u81 u82 u83 u84 u85 u86 u87 u88 u89 u90 u91 u92 u93 u94 u95 u96 u97 u98 u99 u100 u101 u102 u103 u104 u105 u106 u107 u108 u109 u110 u111 u112 u113 u114 u115 u116 u117 u118 u119 u120 u121 u122 u123 u124 u125 : Value} :
    Code.wp Try.prog (dropSeq 5 ((Try.f22.body).getD .skip)) (bodyPost Try.prog Try.f22 fun e w' =>
      e = .returned (.tuple #[]) ∧ P5 H a b s rules states ways w' c p k ∧ Kept w.heap.size a b w w')
      ⟨(.pointer (some ⟨a, 0, none⟩) :: .pointer (some ⟨b, 0, none⟩) :: u2 :: u3 :: u4 :: .pointer (some ⟨g, 0, none⟩) :: u6 :: u7 :: u8 :: u9 :: u10 :: u11 :: u12 :: u13 :: u14 :: u15 :: u16 :: u17 :: u18 :: u19 :: u20 :: u21 :: u22 :: u23 :: u24 :: u25 :: u26 :: u27 :: u28 :: u29 :: u30 :: u31 :: u32 :: u33 :: u34 :: u35 :: u36 :: u37 :: u38 :: u39 :: u40 :: u41 :: u42 :: u43 :: u44 :: u45 :: u46 :: u47 :: u48 :: u49 :: u50 :: u51 :: u52 :: u53 :: u54 :: u55 :: u56 :: u57 :: u58 :: u59 :: u60 :: u61 :: u62 :: u63 :: u64 :: u65 :: u66 :: u67 :: u68 :: u69 :: u70 :: u71 :: u72 :: u73 :: u74 :: u75 :: u76 :: u77 :: u78 :: u79 :: u80 :: u81 :: u82 :: u83 :: u84 :: u85 :: u86 :: u87 :: u88 :: u89 :: u90 :: u91 :: u92 :: u93 :: u94 :: u95 :: u96 :: u97 :: u98 :: u99 :: u100 :: u101 :: u102 :: u103 :: u104 :: u105 :: u106 :: u107 :: u108 :: u109 :: u110 :: u111 :: u112 :: u113 :: u114 :: u115 :: u116 :: u117 :: u118 :: u119 :: u120 :: u121 :: u122 :: u123 :: u124 :: u125 :: []).toArray, []⟩ w := by
  conv => arg 2; whnf
  have HR : Hid (Rt H a b w w s p k c [(g, .cells #[.int .i64 modes, .int .i64 rules, .int .i64 states, .int .i64 kinds, .int .i64 ways] 74)]) := hR
  have hbx : w.heap[g]? = some (.cells #[.int .i64 modes, .int .i64 rules, .int .i64 states, .int .i64 kinds, .int .i64 ways] 74) := (hR.own _ List.mem_cons_self).1
  have hgH : H ≤ g := (hR.own _ List.mem_cons_self).2
  have haH := hR.aH
  have hbH := hR.bH
  have hHH := hR.HH
  have hab := hR.ab
  have hgl : g < w.heap.size := (Array.getElem?_eq_some_iff.1 hbx).1
  obtain ⟨i0, hi0, hz0, hz1, hz2⟩ := info_parts Try.infoInt
  clear hR hbx
  refine wp_seq_k ?_
  intro K hK0
  have HK : Hid (∀ a w, _ → K a w) := hK0
  clear hK0
  go_wp2_with fail
  go_loopg [13] states (fun q i wr => ∃ (j : Nat) (v : Value), q = states - j ∧ j ≤ states ∧ i = .int .i64 (j : Int) ∧ wr.ownsRow w.heap.size 3 1 v j ((List.range j).map fun i => .int .i64 ((endF s p rules i : Nat) - 1 : Int)) ∧ RdAt wr a s (p + j) (k && endK s p rules j) ∧ TpAt wr b { c with ends := v } ∧ Kept w.heap.size a b w wr)
  case atStart => exact ⟨0, .slice none 0 0, rfl, Nat.zero_le _, rfl, World.ownsRow_nil _ _ _ _, HR.out.rd.to rfl (by simp [endK]), by rw [← n9]; exact HR.out.tb, Kept.refl _ _ _ _⟩
  case round =>
    obtain ⟨j, v, hgk, hj, rfl, ho, hr, hT, hk⟩ := hrel
    have hbx : wr.heap[g]? = some (.cells #[.int .i64 modes, .int .i64 rules, .int .i64 states, .int .i64 kinds, .int .i64 ways] 74) := (hk.block g hgl (by omega) (by omega)).trans (HR.out.own _ List.mem_cons_self).1
    have y1 : wr.cell? ⟨g, 1, none⟩ = some (.int .i64 rules) := by simp [World.cell?, hbx]
    have y2 : wr.cell? ⟨g, 2, none⟩ = some (.int .i64 states) := by simp [World.cell?, hbx]
    have hsz : w.heap.size ≤ wr.heap.size := hk.size
    by_cases hj2 : j < states
    · have i1 : (j : Int) < (states : Int) := by omega
      have AA : Hid (gk = states - j ∧ RdAt wr a s (p + j) (k && endK s p rules j) ∧ Kept w.heap.size a b w wr ∧ TpAt wr b { c with ends := v } ∧ wr.ownsRow w.heap.size 3 1 v j ((List.range j).map fun i => .int .i64 ((endF s p rules i : Nat) - 1 : Int))) := ⟨hgk, hr, hk, hT, ho⟩
      have HKF : Hid (endF s p rules j = within (byt s (p + j)) 0 rules) := rfl
      have HKK : Hid (endK s p rules (j + 1) = (endK s p rules j && decide (p + j < s.size) && inB (byt s (p + j)) 0 rules)) := rfl
      have hx := within_le (byt s (p + j)) 0 rules (Nat.zero_le _)
      clear hgk hr hk ho hT hbx
      go_wp2_with fail
      refine (rd_one a (p + j) s (k && endK s p rules j) wr AA.out.2.1 hs 0 rules).mono ?_
      rintro e w1 ⟨rfl, hr1, hk1⟩
      have R1 : Hid (RdAt w1 a s (p + (j + 1)) (k && endK s p rules (j + 1))) := by show RdAt _ _ _ _ _; rw [HKK.out]; exact hr1.to rfl (by simp [Bool.and_assoc])
      have O1 : Hid (w1.ownsRow w.heap.size 3 1 v j ((List.range j).map fun i => .int .i64 ((endF s p rules i : Nat) - 1 : Int))) := own_keep AA.out.2.2.2.2 hk1 (by omega)
      have K1 : Hid (Kept w.heap.size a b w w1) := AA.out.2.2.1.trans (.one (hk1 _))
      have T1 : Hid (TpAt w1 b { c with ends := v }) := AA.out.2.2.2.1.of_block ((hk1 w.heap.size).block b (by omega) hab.symm)
      have t1 : w1.cell? ⟨b, 9, none⟩ = some v := T1.out.get_ends
      have hsz1 : w.heap.size ≤ w1.heap.size := K1.out.size
      clear hr1 hk1 HKK y1 y2
      rw [← HKF.out] at hx ⊢
      clear HKF
      generalize hkf : endF s p rules j = x at *
      have HX : Hid (endF s p rules j = x) := hkf
      clear hkf
      go_wp2_with (first | (at_builtin; refine wpList_append_lies _ rfl _ _ 67 rfl w.heap.size 3 i0 (.int .i64 0) 1 8 Try.underlying67 hi0 hz0 hz1 hz2 rfl (by decide) _ _ _ rfl (O1.out.alloc _) ⟨w1.heap.size, 0, none⟩ 1 1 [.int .i64 ((x : Int) - 1)] rfl rfl (cell_one_new _ _ _) (by intro u hu; simp at hu; subst hu; rfl) (by decide) (by unfold maxLen; omega) (by omega) (by simp; omega) _ rfl ?_; intro gg cap w2 hown hgrow hat hlt2; have hB := below_app O1.out hgrow hsz1; have q1 := (T1.out.of_block (hB.block b (by omega))).get_ends; have q2 := (T1.out.of_block (hB.block b (by omega))).fz 9))
      have R2 : RdAt w2 a s (p + (j + 1)) (k && endK s p rules (j + 1)) := R1.out.of_block (hB.block a (by omega))
      have K2 : Kept w.heap.size a b w w2 := K1.out.trans (.one (keep_below hB))
      have T2 : TpAt w2 b { c with ends := v } := T1.out.of_block (hB.block b (by omega))
      have O2 : w2.ownsRow w.heap.size 3 1 (.slice (some ⟨gg, 0, none⟩) (j + 1) cap) (j + 1) ((List.range (j + 1)).map fun i => .int .i64 ((endF s p rules i : Nat) - 1 : Int)) := by
        rw [range_snoc, HX.out]
        exact hown
      go_roundg (states - (j + 1))
      case measure => rw [AA.out.1]; omega
      case rel => exact ⟨j + 1, _, rfl, by omega, congrArg (Value.int IntKind.i64) (by omega), own_keep O2 (fun _ => Keep.set _ _ _) (by omega), R2.of_block (Below.heap_setCell _ _ _ _ hab), T2.set_ends _, K2.trans (.two (Keep.set _ _ _))⟩
    · have hje : j = states := by omega
      have i1 : (states : Int) ≤ (j : Int) := by omega
      have AA : Hid (RdAt wr a s (p + states) (k && endK s p rules states) ∧ Kept w.heap.size a b w wr ∧ TpAt wr b { c with ends := v } ∧ wr.ownsRow w.heap.size 3 1 v states ((List.range states).map fun i => .int .i64 ((endF s p rules i : Nat) - 1 : Int)) ∧ wr.heap[g]? = some (.cells #[.int .i64 modes, .int .i64 rules, .int .i64 states, .int .i64 kinds, .int .i64 ways] 74)) := by rw [hje] at hr ho; exact ⟨hr, hk, hT, ho, hbx⟩
      clear hgk hr hk ho hT hbx
      go_wp2_with fail
      refine HK.out _ _ (body_mono (body_6 a b H g wr s (p + states) (k && endK s p rules states) { c with ends := v } modes rules states kinds ways ⟨AA.out.1, AA.out.2.2.1, fun x hx => by rw [List.mem_singleton] at hx; rw [hx]; exact ⟨AA.out.2.2.2.2, hgH⟩, Kept.refl _ _ _ _, hab, haH, hbH, by omega⟩ hs h1 h2 h3 h4 h5) ?_)
      rintro e w' ⟨he, hP, hK⟩
      exact ⟨he, ⟨v, own_kept (own_less AA.out.2.2.2.1 hHH) hK (by omega) (by omega), hP⟩, AA.out.2.1.trans (hK.mono hsz)⟩

end Go.Proofs.Yteflpladkmihdaa
