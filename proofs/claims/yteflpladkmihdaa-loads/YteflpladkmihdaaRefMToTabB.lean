/- Which bytes are tables: the plain mathematics of lexerref.Valid. -/
import Derived.Test.YteflpladkmihdaaRunWToRefB
import Derived.Test.YteflpladkmihdaaBitsAToTabA
set_option linter.unusedVariables false
set_option linter.unusedSimpArgs false
namespace Go.Proofs.Yteflpladkmihdaa
open Go.RowKit

theorem ret_bool {a b : Bool} (h : a = b) : Ending.returned (.bool a) = .returned (.bool b) := by rw [h]
theorem fin_eq (x k : Nat) : (((x : Int) / 2 ^ k) == 0) = decide (x / 2 ^ k = 0) := by
  rw [div_pow_cast, Bool.eq_iff_iff]
  simp only [beq_iff_eq, decide_eq_true_eq]
  omega
/-- A row of statements, from one on. -/
def dropSeq : Nat → Code → Code
  | n + 1, .seq _ b => dropSeq n b
  | _, c => c

/-- The number that the byte at a place is. -/
def byt (s : ByteArray) (i : Nat) : Nat := (s.data.toList.getD i 0).toNat
theorem byt_lt (s : ByteArray) (i : Nat) : byt s i < 256 := UInt8.toNat_lt _
theorem byt_eq (s : ByteArray) (i : Nat) (h : i < s.size) : s[i].toNat = byt s i := by
  have h' : i < s.data.toList.length := by simpa using h
  unfold byt
  rw [List.getD_eq_getElem?_getD, List.getElem?_eq_getElem h']
  rfl
/-- The number that two bytes are. -/
def b2 (s : ByteArray) (i : Nat) : Nat := bigB (s.extract i (i + 2))
theorem b2_lt (s : ByteArray) (i : Nat) : b2 s i < 65536 := bigB_2 _ (by simp; omega)

/-- The ways that may lie ahead, as far as they are counted. -/
def waysTo (kinds : Nat) : Nat → Nat
  | 0 => 1
  | k + 1 => if waysTo kinds k ≤ 3000 then waysTo kinds k * (kinds + 1) else waysTo kinds k
theorem waysTo_le (kinds : Nat) (hk : kinds ≤ 256) (k : Nat) : waysTo kinds k ≤ 771000 := by
  cases k with
  | zero => simp [waysTo]
  | succ k =>
    induction k with
    | zero => simp [waysTo]; omega
    | succ k ih =>
      rw [waysTo]
      split
      · rename_i h
        calc waysTo kinds (k + 1) * (kinds + 1) ≤ 3000 * 257 := Nat.mul_le_mul h (by omega)
          _ = 771000 := by decide
      · exact ih
theorem waysTo_stop (kinds k m : Nat) (h : 3000 < waysTo kinds k) (hm : k ≤ m) : waysTo kinds m = waysTo kinds k := by
  induction m with
  | zero => rw [show k = 0 by omega]
  | succ m ih =>
    by_cases e : k = m + 1
    · rw [e]
    · have := ih (by omega)
      rw [waysTo, if_neg (by omega)]
      exact this

theorem ways_step (ways kinds : Nat) (h : ways * (kinds + 1) ≤ 771000) : Value.int IntKind.i64 (wrap64 ((ways : Int) * ((kinds : Int) + 1))) = Value.int IntKind.i64 ((ways * (kinds + 1) : Nat) : Int) := by
  have e : ((ways : Int) * ((kinds : Int) + 1)) = ((ways * (kinds + 1) : Nat) : Int) := by simp
  rw [e, w64 _ (by omega) (by omega)]

/-- How many kinds have been met among the first j bytes of those from a place on. -/
def metTo (s : ByteArray) (at_ : Nat) : Nat → Nat
  | 0 => 0
  | j + 1 => max (metTo s at_ j) (byt s (at_ + j) + 1)
theorem metTo_le (s : ByteArray) (at_ j : Nat) : metTo s at_ j ≤ 256 := by
  induction j with
  | zero => simp [metTo]
  | succ j ih => have := byt_lt s (at_ + j); simp only [metTo]; omega

def okModes (s : ByteArray) (states k : Nat) : Bool := (List.range k).all fun j => decide (b2 s (13 + 2 * j) < states)
def okRules (s : ByteArray) (a modes k : Nat) : Bool := (List.range k).all fun j => decide (byt s (a + 2 * j) < 4) && decide (byt s (a + 2 * j + 1) < modes)
def okKinds (s : ByteArray) (b k : Nat) : Bool := (List.range k).all fun j => decide (byt s (b + j) ≤ metTo s b j)
def okNext (s : ByteArray) (c states k : Nat) : Bool := (List.range k).all fun j => decide (b2 s (c + 2 * j) < states)
def okEnds (s : ByteArray) (d rules k : Nat) : Bool := (List.range k).all fun j => decide (byt s (d + j) ≤ rules)
theorem okModes_succ (s : ByteArray) (states k : Nat) : okModes s states (k + 1) = (okModes s states k && decide (b2 s (13 + 2 * k) < states)) := by simp [okModes, List.range_succ]
theorem okRules_succ (s : ByteArray) (a modes k : Nat) : okRules s a modes (k + 1) = (okRules s a modes k && (decide (byt s (a + 2 * k) < 4) && decide (byt s (a + 2 * k + 1) < modes))) := by simp [okRules, List.range_succ]
theorem okKinds_succ (s : ByteArray) (b k : Nat) : okKinds s b (k + 1) = (okKinds s b k && decide (byt s (b + k) ≤ metTo s b k)) := by simp [okKinds, List.range_succ]
theorem okNext_succ (s : ByteArray) (c states k : Nat) : okNext s c states (k + 1) = (okNext s c states k && decide (b2 s (c + 2 * k) < states)) := by simp [okNext, List.range_succ]
theorem okEnds_succ (s : ByteArray) (d rules k : Nat) : okEnds s d rules (k + 1) = (okEnds s d rules k && decide (byt s (d + k) ≤ rules)) := by simp [okEnds, List.range_succ]

/-- The head's numbers are within their bounds. -/
def headB (stream hold modes rules states kinds : Nat) : Bool :=
  decide (0 < modes ∧ modes ≤ 3 ∧ 0 < rules ∧ rules ≤ 8 ∧ 0 < states ∧ states ≤ 200 ∧ 1 ≤ kinds ∧ kinds ≤ 256 ∧ stream ≤ 1 ∧ 1 ≤ hold ∧ hold ≤ 64)

/-- All behind the head. -/
def bodyOk (s : ByteArray) (modes rules states kinds ways : Nat) : Bool :=
  let a := 13 + 2 * modes
  let b := a + 2 * rules
  let c := b + 256
  let d := c + 2 * states * kinds
  let f := d + states + (ways * states + 7) / 8
  okModes s states modes && okRules s a modes rules && okKinds s b 256 && decide (metTo s b 256 = kinds) && okNext s c states (states * kinds) && okEnds s d rules states &&
    (decide (ways * states % 8 = 0) || decide (byt s (f - 1) / 2 ^ (ways * states % 8) = 0))

def sizeOf_ (modes rules states kinds ways : Nat) : Nat := 13 + 2 * modes + 2 * rules + 256 + 2 * states * kinds + states + (ways * states + 7) / 8

theorem prod_bounds (states kinds ways : Nat) (g6 : states ≤ 200) (g8 : kinds ≤ 256) (hx1 : ways ≤ 3000) :
    (2 * (states : Int)) * (kinds : Int) ≤ 102400 ∧ 0 ≤ (2 * (states : Int)) * (kinds : Int) ∧ (ways : Int) * (states : Int) ≤ 600000 ∧ 0 ≤ (ways : Int) * (states : Int) := by
  have h1 : 2 * states * kinds ≤ 102400 := Nat.le_trans (Nat.mul_le_mul (show 2 * states ≤ 400 by omega) g8) (by decide)
  have h2 : ways * states ≤ 600000 := Nat.le_trans (Nat.mul_le_mul hx1 g6) (by decide)
  have e1 : (2 * (states : Int)) * (kinds : Int) = ((2 * states * kinds : Nat) : Int) := by simp
  have e2 : (ways : Int) * (states : Int) = ((ways * states : Nat) : Int) := by simp
  rw [e1, e2]
  exact ⟨by omega, by omega, by omega, by omega⟩
theorem size_int (modes rules states kinds ways : Nat) : (13 + 2 * (modes : Int) + 2 * (rules : Int) + 256 + 2 * (states : Int) * (kinds : Int) + (states : Int) + ((ways : Int) * (states : Int) + 7) / 8) = ((sizeOf_ modes rules states kinds ways : Nat) : Int) := by
  have e1 : (2 * (states : Int)) * (kinds : Int) = ((2 * states * kinds : Nat) : Int) := by simp
  have e2 : (ways : Int) * (states : Int) = ((ways * states : Nat) : Int) := by simp
  rw [e1, e2]
  unfold sizeOf_
  omega
theorem size_yes (modes rules states kinds ways n : Nat) (hn : 4 ≤ n) (h : sizeOf_ modes rules states kinds ways = n - 4) :
    (13 + 2 * (modes : Int) + 2 * (rules : Int) + 256 + 2 * (states : Int) * (kinds : Int) + (states : Int) + ((ways : Int) * (states : Int) + 7) / 8 != (n : Int) - 4) = false := by
  rw [size_int, bne_eq_false_iff_eq]; omega
theorem size_no (modes rules states kinds ways n : Nat) (hn : 4 ≤ n) (h : sizeOf_ modes rules states kinds ways ≠ n - 4) :
    (13 + 2 * (modes : Int) + 2 * (rules : Int) + 256 + 2 * (states : Int) * (kinds : Int) + (states : Int) + ((ways : Int) * (states : Int) + 7) / 8 != (n : Int) - 4) = true := by
  rw [size_int, bne_iff_ne]; omega

theorem size_ineq (modes rules states kinds ways n : Nat) (hn : 4 ≤ n) (h : sizeOf_ modes rules states kinds ways = n - 4) :
    13 + 2 * (modes : Int) + 2 * (rules : Int) + 256 + 2 * (states : Int) * (kinds : Int) + (states : Int) + ((ways : Int) * (states : Int) + 7) / 8 ≤ (n : Int) - 4 ∧
    (n : Int) - 4 ≤ 13 + 2 * (modes : Int) + 2 * (rules : Int) + 256 + 2 * (states : Int) * (kinds : Int) + (states : Int) + ((ways : Int) * (states : Int) + 7) / 8 := by
  rw [size_int]; omega

theorem body_eq (s : ByteArray) (modes rules states kinds ways SK W met : Nat) (okA okB okC okM okD okE : Bool)
    (HSK : states * kinds = SK) (HW : ways * states = W) (HA : okModes s states modes = okA) (HB : (okA && okRules s (13 + 2 * modes) modes rules) = okB)
    (HC : (okB && okKinds s (13 + 2 * modes + 2 * rules) 256) = okC) (Hmet : metTo s (13 + 2 * modes + 2 * rules) 256 = met) (HM : (okC && decide (met = kinds)) = okM)
    (HD : (okM && okNext s (13 + 2 * modes + 2 * rules + 256) states SK) = okD) (HE : (okD && okEnds s (13 + 2 * modes + 2 * rules + 256 + 2 * SK) rules states) = okE) :
    bodyOk s modes rules states kinds ways = (okE && (decide (W % 8 = 0) || decide (byt s (13 + 2 * modes + 2 * rules + 256 + 2 * SK + states + (W + 7) / 8 - 1) / 2 ^ (W % 8) = 0))) := by
  subst HSK HW
  unfold bodyOk
  simp only [← Nat.mul_assoc] at *
  rw [HA, HB, HC, Hmet, HM, HD, HE]

/-- ARE BYTES TABLES? -/
def validB (s : ByteArray) : Bool :=
  decide (17 ≤ s.size) && (s.extract 0 2).toList == [76, 88] && sumB (s.extract 0 (s.size - 4)) == bigB (s.extract (s.size - 4) s.size) &&
  (let stream := byt s 2
   let ahead := byt s 3
   let hold := byt s 4
   let modes := b2 s 5
   let rules := b2 s 7
   let states := b2 s 9
   let kinds := b2 s 11
   let ways := waysTo kinds ahead
   headB stream hold modes rules states kinds && decide (ways ≤ 3000) && (decide (stream ≠ 0) || decide (ahead = 0)) &&
     decide (sizeOf_ modes rules states kinds ways = s.size - 4) && bodyOk s modes rules states kinds ways)
end Go.Proofs.Yteflpladkmihdaa

/- Longer, in the same world. -/
namespace Go.Proofs.Yteflpladkmihdaa
open Go.RowKit

set_option maxHeartbeats 400000 in
theorem longer_same (p : Nat) (w : World) (S : Nat → Prop) (t : Tb) (hT : TabAt w S p t) (ok : t.Ok) (a s : Nat) (ha : a < t.rows) (hs : s < t.nst) :
    Calls Try.prog 58 #[.pointer (some ⟨p, 0, none⟩), .int .i64 a, .int .i64 s] w fun e w' => e = .returned (.bool (t.longer a s)) ∧ w' = w := by
  obtain ⟨_, h8, b, o, cap, hb, rfl, hcap, hml, hN⟩ := hT.c8
  obtain ⟨_, h12, b3, o3, cap3, hb3, rfl, hcap3, hml3, hL⟩ := hT.c12
  have hm : a * t.nst + s < 8 * t.nlong := by
    have h1 : (a + 1) * t.nst ≤ t.rows * t.nst := Nat.mul_le_mul_right _ ha
    have h2 := ok.long
    rw [Nat.add_mul] at h1
    omega
  have hx : w.cell? ⟨b3, o3 + (a * t.nst + s) / 8, none⟩ = some (.int .u8 (t.long ((a * t.nst + s) / 8) : Nat)) := hL _ (by omega)
  have hxb := ok.longB ((a * t.nst + s) / 8) (by omega)
  have b1 := ok.rows
  have b2 := ok.nst
  have HF : Hid (t.longer a s = decide (t.long ((a * t.nst + s) / 8) / 2 ^ ((a * t.nst + s) % 8) % 2 = 1)) := rfl
  have hp : a * t.nst ≤ 600000 := Nat.le_trans (Nat.mul_le_mul (show a ≤ 3000 by omega) b2) (by decide)
  clear hT ok hN hL
  generalize t.longer a s = res at *
  generalize t.long ((a * t.nst + s) / 8) = x at *
  generalize t.nst = n at *
  generalize t.nlong = nl at *
  have p1 : (a : Int) * (n : Int) ≤ 600000 := by
    have e : (a : Int) * (n : Int) = ((a * n : Nat) : Int) := by simp
    rw [e]; omega
  have p2 : 0 ≤ (a : Int) * (n : Int) := by
    have e : (a : Int) * (n : Int) = ((a * n : Nat) : Int) := by simp
    rw [e]; omega
  go_enter Try.func58, Try.ntmps58
  go_wp2
  go_ret
  exact ⟨ret_bool' (by rw [HF.out]; exact longer_eq x _ hxb), rfl⟩

end Go.Proofs.Yteflpladkmihdaa
