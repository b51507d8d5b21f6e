/- What a token does, as one; a stream's step. -/
import Derived.Test.YteflpladkmihdaaRunV
import Derived.Deep.RegionWith
import Derived.Test.YteflpladkmihdaaProg
import Derived.WalkKit
import Derived.WalkSpells
import Derived.WalkLawsBesides
import Derived.Test.YteflpladkmihdaaBitsAToTabA
set_option linter.unusedVariables false
set_option linter.unusedSimpArgs false
namespace Go.Proofs.Yteflpladkmihdaa
open Go.RowKit

/-- An event. -/
structure Ev where
  kind : Int
  rule : Int
  from_ : Int
  to : Int
  line : Int
  col : Int
def Ev.cells (e : Ev) : List Value := evCells e.kind e.rule e.from_ e.to e.line e.col
def evsCells (es : List Ev) : List Value := es.flatMap Ev.cells
theorem evsCells_snoc (es : List Ev) (e : Ev) : evsCells (es ++ [e]) = evsCells es ++ e.cells := by simp [evsCells]

/-- 'Cx' with its events. -/
abbrev Cv (H b : Nat) (S : Nat → Prop) (t : Tb) (w : World) (r : Rs) (v0 : Value) (es : List Ev) : Prop := Cx H b S t w r v0 es.length (evsCells es)

/-- The stack is in order. -/
structure Rs.Ok (r : Rs) (t : Tb) : Prop where
  d1 : 1 ≤ r.depth
  d4 : r.depth ≤ 4
  st : ∀ j, j < r.depth → r.stack j < t.nmode
  state : r.state < t.nst
  first : r.first < 64
  count : r.count ≤ 64
  bytes : ∀ j, j < 64 → r.byte j < 256

def Rs.lastEv (r : Rs) (kind : Int) : Ev := ⟨kind, 0, r.bAt, r.bAt, r.bLine, r.bCol⟩
/-- The stack behind a token's action. -/
def Rs.moved (r : Rs) (t : Tb) (rule : Nat) : Rs :=
  if t.act rule = 3 then { r with depth := r.depth - 1 }
  else if t.act rule = 2 then { r with stack := fun j => if j = r.depth then t.push rule else r.stack j, depth := r.depth + 1 }
  else r
/-- What a token does. -/
def Rs.tok (r : Rs) (t : Tb) (rule eAt eLine eCol : Nat) : Rs × List Ev :=
  if t.act rule = 2 ∧ r.depth = 4 then ({ r with opn := false }, [r.lastEv 4])
  else if t.act rule = 3 ∧ r.depth = 1 then ({ r with opn := false }, [r.lastEv 5])
  else ({ r.moved t rule with bAt := eAt, bLine := eLine, bCol := eCol, state := t.start ((r.moved t rule).stack ((r.moved t rule).depth - 1)) },
    if t.act rule = 1 then [] else [⟨1, rule, r.bAt, eAt, r.bLine, r.bCol⟩])

theorem token_calls (b H : Nat) (S : Nat → Prop) (t : Tb) (w : World) (r : Rs) {v0 : Value} (es : List Ev) (hC : Cv H b S t w r v0 es) (hn : es.length ≤ 4194304)
    (rule eAt eLine eCol : Nat) (hr : rule < t.nrule) (ha : t.act rule < 4) (ok : t.Ok) (hok : r.Ok t) :
    Calls Try.prog 59 #[.pointer (some ⟨b, 0, none⟩), .int .i64 rule, .agg #[.int .i64 eAt, .int .i64 eLine, .int .i64 eCol]] w fun e w' =>
      e = .returned (.tuple #[]) ∧ ∃ v, Cv H b S t w' (r.tok t rule eAt eLine eCol).1 v (es ++ (r.tok t rule eAt eLine eCol).2) ∧ Keep H b w w' := by
  have d1 := hok.d1
  have d4 := hok.d4
  by_cases h2 : t.act rule = 2 ∧ r.depth = 4
  · refine (token_over b H S t w r v0 _ _ hC hn rule eAt eLine eCol hr h2.1 h2.2).mono ?_
    rintro e w' ⟨rfl, ao, cap, hC', hk⟩
    refine ⟨rfl, .slice ao (es.length + 1) cap, ?_, hk⟩
    unfold Rs.tok Cv
    rw [if_pos h2, evsCells_snoc, List.length_append]
    exact hC'
  · by_cases h3 : t.act rule = 3 ∧ r.depth = 1
    · refine (token_under b H S t w r v0 _ _ hC hn rule eAt eLine eCol hr h3.1 h3.2).mono ?_
      rintro e w' ⟨rfl, ao, cap, hC', hk⟩
      refine ⟨rfl, .slice ao (es.length + 1) cap, ?_, hk⟩
      unfold Rs.tok Cv
      rw [if_neg h2, if_pos h3, evsCells_snoc, List.length_append]
      exact hC'
    · by_cases a1 : t.act rule = 1
      · refine (token_skip b H S t w r v0 _ _ hC rule eAt eLine eCol hr a1 d1 d4 (hok.st _ (by omega))).mono ?_
        rintro e w' ⟨rfl, hC', hk⟩
        refine ⟨rfl, v0, ?_, hk⟩
        unfold Rs.tok Cv Rs.moved
        rw [if_neg h2, if_neg h3, if_neg (by omega), if_neg (by omega), if_pos a1, List.append_nil]
        exact hC'
      · by_cases a2 : t.act rule = 2
        · refine (token_push b H S t w r v0 _ _ hC hn rule eAt eLine eCol hr a2 d1 (by omega) (ok.push _ hr)).mono ?_
          rintro e w' ⟨rfl, ao, cap, hC', hk⟩
          refine ⟨rfl, .slice ao (es.length + 1) cap, ?_, hk⟩
          unfold Rs.tok Cv Rs.moved
          rw [if_neg h2, if_neg h3, if_neg (by omega), if_pos a2, if_neg a1, evsCells_snoc, List.length_append]
          simpa [Ev.cells] using hC'
        · by_cases a3 : t.act rule = 3
          · refine (token_pop b H S t w r v0 _ _ hC hn rule eAt eLine eCol hr a3 (by omega) d4 (hok.st _ (by omega))).mono ?_
            rintro e w' ⟨rfl, ao, cap, hC', hk⟩
            refine ⟨rfl, .slice ao (es.length + 1) cap, ?_, hk⟩
            unfold Rs.tok Cv Rs.moved
            rw [if_neg h2, if_neg h3, if_pos a3, if_neg a1, evsCells_snoc, List.length_append]
            exact hC'
          · refine (token_emit b H S t w r v0 _ _ hC hn rule eAt eLine eCol hr (by omega) d1 d4 (hok.st _ (by omega))).mono ?_
            rintro e w' ⟨rfl, ao, cap, hC', hk⟩
            refine ⟨rfl, .slice ao (es.length + 1) cap, ?_, hk⟩
            unfold Rs.tok Cv Rs.moved
            rw [if_neg h2, if_neg h3, if_neg a3, if_neg a2, if_neg a1, evsCells_snoc, List.length_append]
            exact hC'
end Go.Proofs.Yteflpladkmihdaa

/- lexerref.big, turned. -/
namespace Go.Proofs.Yteflpladkmihdaa
open Go.RowKit

theorem ret_int {k : IntKind} {a b : Int} (h : a = b) : Ending.returned (.int k a) = .returned (.int k b) := by rw [h]
theorem take_snoc (s : ByteArray) (k : Nat) (h : k < s.size) : s.data.toList.take (k + 1) = s.data.toList.take k ++ [s[k]] := by
  rw [List.take_succ_eq_append_getElem (by simpa using h)]; rfl

def bigL (l : List UInt8) : Nat := l.foldl (fun v b => 256 * v + b.toNat) 0
theorem bigL_snoc (l : List UInt8) (b : UInt8) : bigL (l ++ [b]) = 256 * bigL l + b.toNat := by simp [bigL]
theorem bigL_lt (l : List UInt8) : bigL l < 256 ^ l.length := by
  have key : ∀ (l : List UInt8) (v : Nat), l.foldl (fun v b => 256 * v + b.toNat) v < (v + 1) * 256 ^ l.length := by
    intro l
    induction l with
    | nil => intro v; simp
    | cons b l ih =>
      intro v
      have hb := b.toNat_lt
      have h := ih (256 * v + b.toNat)
      simp only [List.foldl_cons, List.length_cons, Nat.pow_succ]
      refine Nat.lt_of_lt_of_le h ?_
      have : 256 * v + b.toNat + 1 ≤ (v + 1) * 256 := by omega
      calc (256 * v + b.toNat + 1) * 256 ^ l.length ≤ (v + 1) * 256 * 256 ^ l.length := Nat.mul_le_mul_right _ this
        _ = (v + 1) * (256 ^ l.length * 256) := by rw [Nat.mul_assoc, Nat.mul_comm 256]
  simpa [bigL] using key l 0

theorem bigL_take_lt (s : ByteArray) (k : Nat) (h : k ≤ 4) : bigL (s.data.toList.take k) < 4294967296 := by
  have h1 := bigL_lt (s.data.toList.take k)
  have h2 : 256 ^ (s.data.toList.take k).length ≤ 256 ^ 4 := Nat.pow_le_pow_right (by omega) (by simp; omega)
  omega

set_option maxHeartbeats 400000 in
theorem big_any (s : ByteArray) (w : World) (hs : s.size ≤ 4) :
    Calls Try.prog 14 #[.string s] w fun e w' => e = .returned (.int .i64 (bigL s.data.toList : Nat)) ∧ w' = w := by
  go_enter Try.func14, Try.ntmps14
  go_wp2
  go_loop [3, 4] (fun n i => ∃ k : Nat, k ≤ s.size ∧ i = .int .i64 k ∧ n = .int .i64 (bigL (s.data.toList.take k) : Nat)) (fun _ i => s.size - (intOf i).toNat)
  case atStart => exact ⟨0, Nat.zero_le _, rfl, rfl⟩
  case round =>
    obtain ⟨k, hk, rfl, rfl⟩ := hrel
    have hd := bigL_take_lt s k (by omega)
    by_cases hlt : k < s.size
    · have HS : Hid (bigL (s.data.toList.take (k + 1)) = 256 * bigL (s.data.toList.take k) + s[k].toNat) := by
        rw [take_snoc s k hlt]; exact bigL_snoc _ _
      have hb : s[k].toNat < 256 := s[k].toNat_lt
      go_wp2
      go_round
      case rel => exact ⟨k + 1, by omega, by go_num, by rw [HS.out]; go_num⟩
      case measure => simp [intOf]; omega
    · go_wp2
      go_ret
      exact ⟨ret_int (by rw [List.take_of_length_le (by simp; omega)]), rfl⟩

def turnedN (v : Nat) : Nat → Nat
  | 0 => 0
  | k + 1 => 2 * turnedN v k + (v >>> k) % 2
theorem turnedN_lt (v k : Nat) : turnedN v k < 2 ^ k := by
  induction k with
  | zero => simp [turnedN]
  | succ k ih => simp only [turnedN, Nat.pow_succ]; omega
theorem turnedN_lt32 (v k : Nat) (h : k ≤ 32) : turnedN v k < 4294967296 := by
  have h1 := turnedN_lt v k
  have h2 : 2 ^ k ≤ 2 ^ 32 := Nat.pow_le_pow_right (by omega) h
  omega

theorem turned_step (v k : Nat) (hv : v < 4294967296) (hd : turnedN v k < 4294967296) :
    Value.int IntKind.i64 (wrap64 ((turnedN v k : Nat) * 2 + bits BinOp.and IntKind.i64 ((v : Int) / 2 ^ k) 1)) = Value.int IntKind.i64 (turnedN v (k + 1) : Nat) := by
  have h1 : v / 2 ^ k ≤ v := Nat.div_le_self _ _
  rw [div_pow_cast, i64_and_one _ (by omega)]
  have h2 : v / 2 ^ k % 2 < 2 := Nat.mod_lt _ (by decide)
  rw [w64 _ (by omega) (by omega)]
  congr 1
  simp only [turnedN, Nat.shiftRight_eq_div_pow]
  omega

set_option maxHeartbeats 400000 in
theorem turned_any (v n : Nat) (w : World) (hv : v < 4294967296) (hn : n ≤ 32) :
    Calls Try.prog 24 #[.int .i64 v, .int .i64 n] w fun e w' => e = .returned (.int .i64 (turnedN v n : Nat)) ∧ w' = w := by
  go_enter Try.func24, Try.ntmps24
  go_wp2
  go_loop [5, 6] (fun o i => ∃ k : Nat, k ≤ n ∧ i = .int .i64 k ∧ o = .int .i64 (turnedN v k : Nat)) (fun _ i => n - (intOf i).toNat)
  case atStart => exact ⟨0, Nat.zero_le _, rfl, rfl⟩
  case round =>
    obtain ⟨k, hk, rfl, rfl⟩ := hrel
    have hd := turnedN_lt32 v k (by omega)
    by_cases hlt : k < n
    · go_wp2
      go_round
      case rel => exact ⟨k + 1, by omega, by go_num, turned_step v k hv hd⟩
      case measure => simp [intOf]; omega
    · go_wp2
      go_ret
      have : k = n := by omega
      subst this
      exact ⟨rfl, rfl⟩
end Go.Proofs.Yteflpladkmihdaa

/- lexerref.Sum. -/
namespace Go.Proofs.Yteflpladkmihdaa
open Go.RowKit

/-- One bit more: k tells which of b. -/
def sumStep (r b k : Nat) : Nat :=
  if r / 2147483648 % 2 = b / 2 ^ k % 2 then r * 2 % 4294967296 else r * 2 % 4294967296 ^^^ 79764919
theorem sumStep_lt (r b k : Nat) : sumStep r b k < 4294967296 := by
  unfold sumStep
  split
  · omega
  · exact Nat.xor_lt_two_pow (n := 32) (by omega) (by omega)
/-- The first j bits of b, from the seventh down. -/
def sumBits (r b : Nat) : Nat → Nat
  | 0 => r
  | j + 1 => sumStep (sumBits r b j) b (7 - j)
theorem sumBits_lt (r b j : Nat) (hr : r < 4294967296) : sumBits r b j < 4294967296 := by
  cases j with
  | zero => exact hr
  | succ j => exact sumStep_lt _ _ _
def sumTo (l : List UInt8) : Nat := l.foldl (fun r c => sumBits r (turnedN c.toNat 8) 8) 4294967295
theorem sumTo_snoc (l : List UInt8) (c : UInt8) : sumTo (l ++ [c]) = sumBits (sumTo l) (turnedN c.toNat 8) 8 := by simp [sumTo]
theorem sumTo_lt (l : List UInt8) : sumTo l < 4294967296 := by
  have key : ∀ (l : List UInt8) (r : Nat), r < 4294967296 → l.foldl (fun r c => sumBits r (turnedN c.toNat 8) 8) r < 4294967296 := by
    intro l
    induction l with
    | nil => intro r h; exact h
    | cons c l ih => intro r h; exact ih _ (sumBits_lt _ _ _ h)
  exact key l _ (by decide)
def sumL (l : List UInt8) : Nat := 4294967295 - turnedN (sumTo l) 32

theorem sum_and (r : Nat) (hr : r < 4294967296) : bits BinOp.and IntKind.i64 ((r : Int) * 2) 4294967295 = ((r * 2 % 4294967296 : Nat) : Int) := by
  rw [show ((r : Int) * 2) = ((r * 2 : Nat) : Int) by omega]
  exact i64_and_mask32 _ (by omega)
theorem sum_top (r : Nat) (hr : r < 4294967296) : bits BinOp.and IntKind.i64 ((r : Int) / 2147483648) 1 = ((r / 2147483648 % 2 : Nat) : Int) := by
  rw [show ((r : Int) / 2147483648) = ((r / 2147483648 : Nat) : Int) by omega]
  exact i64_and_one _ (by omega)
theorem sum_bit (b k : Nat) (hb : b < 256) : bits BinOp.and IntKind.i64 ((b : Int) / 2 ^ k) 1 = ((b / 2 ^ k % 2 : Nat) : Int) := by
  have h1 : b / 2 ^ k ≤ b := Nat.div_le_self _ _
  rw [div_pow_cast]
  exact i64_and_one _ (by omega)
theorem sum_yes (r b k : Nat) (hr : r < 4294967296) (hb : b < 256)
    (h : (bits BinOp.and IntKind.i64 ((r : Int) / 2147483648) 1 != bits BinOp.and IntKind.i64 ((b : Int) / 2 ^ k) 1) = true) :
    Value.int IntKind.i64 (bits BinOp.xor IntKind.i64 (bits BinOp.and IntKind.i64 ((r : Int) * 2) 4294967295) 79764919) = Value.int IntKind.i64 (sumStep r b k : Nat) := by
  rw [sum_top r hr, sum_bit b k hb, bne_iff_ne] at h
  have hne : r / 2147483648 % 2 ≠ b / 2 ^ k % 2 := fun e => h (by rw [e])
  have hx := i64_xor_nat (r * 2 % 4294967296) 79764919 (by omega) (by decide)
  rw [show ((79764919 : Nat) : Int) = 79764919 from rfl] at hx
  rw [sum_and r hr, hx, sumStep, if_neg hne]
theorem sum_no (r b k : Nat) (hr : r < 4294967296) (hb : b < 256)
    (h : (bits BinOp.and IntKind.i64 ((r : Int) / 2147483648) 1 != bits BinOp.and IntKind.i64 ((b : Int) / 2 ^ k) 1) = false) :
    Value.int IntKind.i64 (bits BinOp.and IntKind.i64 ((r : Int) * 2) 4294967295) = Value.int IntKind.i64 (sumStep r b k : Nat) := by
  rw [sum_top r hr, sum_bit b k hb, bne_eq_false_iff_eq] at h
  have he : r / 2147483648 % 2 = b / 2 ^ k % 2 := by omega
  rw [sum_and r hr, sumStep, if_pos he]
def bigB (s : ByteArray) : Nat := bigL s.data.toList
def sumB (s : ByteArray) : Nat := sumL s.data.toList
theorem bigB_2 (s : ByteArray) (h : s.size ≤ 2) : bigB s < 65536 := by
  have h1 := bigL_lt s.data.toList
  have h2 : 256 ^ s.data.toList.length ≤ 256 ^ 2 := Nat.pow_le_pow_right (by omega) (by simpa using h)
  unfold bigB; omega
theorem bigB_4 (s : ByteArray) (h : s.size ≤ 4) : bigB s < 4294967296 := by
  have h1 := bigL_lt s.data.toList
  have h2 : 256 ^ s.data.toList.length ≤ 256 ^ 4 := Nat.pow_le_pow_right (by omega) (by simpa using h)
  unfold bigB; omega
theorem sumB_lt (s : ByteArray) : sumB s < 4294967296 := by unfold sumB sumL; omega
theorem big_calls (s : ByteArray) (w : World) (hs : s.size ≤ 4) :
    Calls Try.prog 14 #[.string s] w fun e w' => e = .returned (.int .i64 (bigB s : Nat)) ∧ w' = w := big_any s w hs
theorem turned_8 (v : Nat) (w : World) (hv : v < 4294967296) :
    Calls Try.prog 24 #[.int .i64 v, .int .i64 8] w fun e w' => e = .returned (.int .i64 (turnedN v 8 : Nat)) ∧ w' = w := turned_any v 8 w hv (by decide)
theorem turned_32 (v : Nat) (w : World) (hv : v < 4294967296) :
    Calls Try.prog 24 #[.int .i64 v, .int .i64 32] w fun e w' => e = .returned (.int .i64 (turnedN v 32 : Nat)) ∧ w' = w := turned_any v 32 w hv (by decide)

set_option maxHeartbeats 1000000 in
theorem sum_any (s : ByteArray) (w : World) (hs : s.size ≤ 1048576) :
    Calls Try.prog 13 #[.string s] w fun e w' => e = .returned (.int .i64 (sumL s.data.toList : Nat)) ∧ w' = w := by
  go_enter Try.func13, Try.ntmps13
  go_wp2
  go_loop [3, 4] (fun r i => ∃ k : Nat, k ≤ s.size ∧ i = .int .i64 k ∧ r = .int .i64 (sumTo (s.data.toList.take k) : Nat)) (fun _ i => s.size - (intOf i).toNat)
  case atStart => exact ⟨0, Nat.zero_le _, rfl, rfl⟩
  case round =>
    obtain ⟨k, hk, rfl, rfl⟩ := hrel
    have hd := sumTo_lt (s.data.toList.take k)
    by_cases hlt : k < s.size
    · have HS : Hid (sumTo (s.data.toList.take (k + 1)) = sumBits (sumTo (s.data.toList.take k)) (turnedN s[k].toNat 8) 8) := by
        rw [take_snoc s k hlt]; exact sumTo_snoc _ _
      have hb : s[k].toNat < 256 := s[k].toNat_lt
      go_wp2_with fail
      refine (turned_8 _ _ (by omega)).mono ?_
      rintro e w' ⟨rfl, rfl⟩
      have ht := turnedN_lt s[k].toNat 8
      generalize turnedN s[k].toNat 8 = b at *
      generalize sumTo (s.data.toList.take k) = r0 at *
      go_wp2_with fail
      go_loop [3, 6] (fun r i => ∃ j : Nat, j ≤ 8 ∧ i = .int .i64 (7 - (j : Int)) ∧ r = .int .i64 (sumBits r0 b j : Nat)) (fun _ i => (intOf i + 1).toNat)
      case atStart => exact ⟨0, by omega, rfl, rfl⟩
      case round =>
        obtain ⟨j, hj, rfl, rfl⟩ := hrel
        have hd2 := sumBits_lt r0 b j hd
        have hsj : Hid (sumBits r0 b (j + 1) = sumStep (sumBits r0 b j) b (7 - j)) := rfl
        generalize hrr0 : sumBits r0 b j = r at *
        have hrr : Hid (sumBits r0 b j = r) := hrr0
        clear hrr0
        by_cases hlt2 : j < 8
        · go_wp2_with fail
          · refine ⟨⟨j + 1, by omega, by congr 1; omega, ?_⟩, by simp [intOf]; omega⟩
            rw [hsj.out]
            exact sum_yes r b (7 - j) hd2 ht ‹_›
          · refine ⟨⟨j + 1, by omega, by congr 1; omega, ?_⟩, by simp [intOf]; omega⟩
            rw [hsj.out]
            exact sum_no r b (7 - j) hd2 ht ‹_›
        · have hj8 : j = 8 := by omega
          have HS' := HS.out
          go_wp2_with fail
          refine ⟨⟨k + 1, by omega, by go_num, ?_⟩, by simp [intOf]; omega⟩
          rw [HS', ← hj8, hrr.out]
    · go_wp2_with fail
      refine (turned_32 _ _ hd).mono ?_
      rintro e w' ⟨rfl, rfl⟩
      have ht := turnedN_lt32 (sumTo (s.data.toList.take k)) 32 (by decide)
      go_wp2_with fail
      go_ret
      exact ⟨ret_int (by unfold sumL; rw [List.take_of_length_le (by simp; omega)] at *; omega), rfl⟩
theorem sum_calls (s : ByteArray) (w : World) (hs : s.size ≤ 1048576) :
    Calls Try.prog 13 #[.string s] w fun e w' => e = .returned (.int .i64 (sumB s : Nat)) ∧ w' = w := sum_any s w hs
end Go.Proofs.Yteflpladkmihdaa
