/- Bits of ints that are not negative. -/
import Derived.Laws.BitsLemmas
import Derived.Laws.Bits64
import Derived.WalkKit
import Derived.Test.YteflpladkmihdaaProg
import Derived.WalkSpells
import Derived.WalkLawsBesides
import Derived.Deep.QuietTactic
import Derived.BigQuiet
import Derived.Laws.BitsAllLaws
set_option linter.unusedVariables false
set_option linter.unusedSimpArgs false
namespace Go.Proofs.Yteflpladkmihdaa
open Go.RowKit

theorem w64 (n : Int) (h0 : -9223372036854775808 ≤ n) (h1 : n < 9223372036854775808) : wrap64 n = n := by unfold wrap64; omega
theorem i64_wrap_in (n : Int) (h0 : 0 ≤ n) (h1 : n < 9223372036854775808) : IntKind.i64.wrap n = n := by rw [IntKind.wrap_i64]; omega
theorem i64_and_nat (a b : Nat) (ha : a < 9223372036854775808) (hb : b < 9223372036854775808) : bits .and .i64 (a : Int) (b : Int) = ((a &&& b : Nat) : Int) :=
  (bits_nat .i64 63 (by decide) (fun n h0 h1 => i64_wrap_in n h0 (by simpa using h1)) a b (by simpa using ha) (by simpa using hb)).1
theorem i64_xor_nat (a b : Nat) (ha : a < 9223372036854775808) (hb : b < 9223372036854775808) : bits .xor .i64 (a : Int) (b : Int) = ((a ^^^ b : Nat) : Int) := by
  have hx : a ^^^ b < 2 ^ 63 := Nat.xor_lt_two_pow (by omega) (by omega)
  have h1 : (BitVec.ofInt 64 (a : Int)).toNat = a := by
    rw [BitVec.ofInt_natCast, BitVec.toNat_ofNat]; exact Nat.mod_eq_of_lt (by omega)
  have h2 : (BitVec.ofInt 64 (b : Int)).toNat = b := by
    rw [BitVec.ofInt_natCast, BitVec.toNat_ofNat]; exact Nat.mod_eq_of_lt (by omega)
  show IntKind.i64.wrap ((BitVec.ofInt 64 (a : Int) ^^^ BitVec.ofInt 64 (b : Int)).toNat : Int) = _
  rw [BitVec.toNat_xor, h1, h2]
  exact i64_wrap_in _ (by omega) (by omega)
theorem i64_and_one (a : Nat) (ha : a < 9223372036854775808) : bits .and .i64 (a : Int) 1 = ((a % 2 : Nat) : Int) := by
  have h := i64_and_nat a 1 ha (by decide)
  rw [show ((1 : Nat) : Int) = 1 from rfl] at h
  rw [h, Nat.and_one_is_mod]
theorem i64_and_mask32 (a : Nat) (ha : a < 9223372036854775808) : bits .and .i64 (a : Int) 4294967295 = ((a % 4294967296 : Nat) : Int) := by
  have h := i64_and_nat a 4294967295 ha (by decide)
  rw [show ((4294967295 : Nat) : Int) = 4294967295 from rfl] at h
  rw [h]
  have e : (4294967295 : Nat) = 2 ^ 32 - 1 := by decide
  rw [e, Nat.and_two_pow_sub_one_eq_mod]
theorem div_pow_cast (a k : Nat) : ((a : Int) / 2 ^ k) = ((a / 2 ^ k : Nat) : Int) := by simp
end Go.Proofs.Yteflpladkmihdaa

/- What scanning asks of tables. -/
namespace Go.Proofs.Yteflpladkmihdaa
open Go.RowKit

theorem ret_int' {k : IntKind} {a b : Int} (h : a = b) : Ending.returned (.int k a) = .returned (.int k b) := by rw [h]

theorem ret_bool' {a b : Bool} (h : a = b) : Ending.returned (.bool a) = .returned (.bool b) := by rw [h]

/-- A slice of ints that lies in memory, in a block that is safe. -/
def IntsAt (w : World) (S : Nat → Prop) (v : Value) (n : Nat) (f : Nat → Int) : Prop :=
  ∃ b o cap, S b ∧ v = .slice (some ⟨b, o, none⟩) n cap ∧ n ≤ cap ∧ cap ≤ maxLen ∧ ∀ i, i < n → w.cell? ⟨b, o + i, none⟩ = some (.int .i64 (f i))
/-- A slice of bytes. -/
def BytesAt (w : World) (S : Nat → Prop) (v : Value) (n : Nat) (f : Nat → Nat) : Prop :=
  ∃ b o cap, S b ∧ v = .slice (some ⟨b, o, none⟩) n cap ∧ n ≤ cap ∧ cap ≤ maxLen ∧ ∀ i, i < n → w.cell? ⟨b, o + i, none⟩ = some (.int .u8 (f i))
/-- A slice of bools. -/
def BoolsAt (w : World) (S : Nat → Prop) (v : Value) (n : Nat) (f : Nat → Bool) : Prop :=
  ∃ b o cap, S b ∧ v = .slice (some ⟨b, o, none⟩) n cap ∧ n ≤ cap ∧ cap ≤ maxLen ∧ ∀ i, i < n → w.cell? ⟨b, o + i, none⟩ = some (.bool (f i))
/-- A slice of slices of ints. -/
def RowsAt (w : World) (S : Nat → Prop) (v : Value) (n m : Nat) (f : Nat → Nat → Int) : Prop :=
  ∃ b o cap, S b ∧ v = .slice (some ⟨b, o, none⟩) n cap ∧ n ≤ cap ∧ cap ≤ maxLen ∧ ∀ i, i < n → ∃ u, w.cell? ⟨b, o + i, none⟩ = some u ∧ IntsAt w S u m (f i)

section
variable {w w' : World} {S : Nat → Prop} {v : Value} {n m : Nat}
theorem IntsAt.keep {f : Nat → Int} (h : IntsAt w S v n f) (e : ∀ b, S b → w'.heap[b]? = w.heap[b]?) : IntsAt w' S v n f := by
  obtain ⟨b, o, cap, hb, rfl, h1, h2, h3⟩ := h
  exact ⟨b, o, cap, hb, rfl, h1, h2, fun i hi => (World.cell?_of_block (e b hb)).trans (h3 i hi)⟩
theorem BytesAt.keep {f : Nat → Nat} (h : BytesAt w S v n f) (e : ∀ b, S b → w'.heap[b]? = w.heap[b]?) : BytesAt w' S v n f := by
  obtain ⟨b, o, cap, hb, rfl, h1, h2, h3⟩ := h
  exact ⟨b, o, cap, hb, rfl, h1, h2, fun i hi => (World.cell?_of_block (e b hb)).trans (h3 i hi)⟩
theorem BoolsAt.keep {f : Nat → Bool} (h : BoolsAt w S v n f) (e : ∀ b, S b → w'.heap[b]? = w.heap[b]?) : BoolsAt w' S v n f := by
  obtain ⟨b, o, cap, hb, rfl, h1, h2, h3⟩ := h
  exact ⟨b, o, cap, hb, rfl, h1, h2, fun i hi => (World.cell?_of_block (e b hb)).trans (h3 i hi)⟩
theorem RowsAt.keep {f : Nat → Nat → Int} (h : RowsAt w S v n m f) (e : ∀ b, S b → w'.heap[b]? = w.heap[b]?) : RowsAt w' S v n m f := by
  obtain ⟨b, o, cap, hb, rfl, h1, h2, h3⟩ := h
  refine ⟨b, o, cap, hb, rfl, h1, h2, fun i hi => ?_⟩
  obtain ⟨u, hu, hr⟩ := h3 i hi
  exact ⟨u, (World.cell?_of_block (e b hb)).trans hu, hr.keep e⟩
end

/-- Tables, as plain data. -/
structure Tb where
  stream : Bool
  ahead : Nat
  hold : Nat
  count : Nat
  rows : Nat
  nst : Nat
  nmode : Nat
  nrule : Nat
  nlong : Nat
  start : Nat → Nat
  act : Nat → Nat
  push : Nat → Nat
  kind : Nat → Nat
  next : Nat → Nat → Nat
  ends : Nat → Int
  live : Nat → Bool
  long : Nat → Nat

/-- Every number within its bounds. -/
structure Tb.Ok (t : Tb) : Prop where
  ahead : t.ahead < 64
  hold0 : 1 ≤ t.hold
  hold : t.hold ≤ 64
  count : t.count ≤ 256
  rows0 : 1 ≤ t.rows
  rows : t.rows ≤ 3000
  nst : t.nst ≤ 200
  nmode : 1 ≤ t.nmode
  long : t.rows * t.nst ≤ 8 * t.nlong
  start : ∀ i, i < t.nmode → t.start i < t.nst
  push : ∀ i, i < t.nrule → t.push i < t.nmode
  kind : ∀ c, c < 256 → t.kind c < t.count
  next : ∀ s k, s < t.nst → k < t.count → t.next s k < t.nst
  ends : ∀ s, s < t.nst → -1 ≤ t.ends s ∧ t.ends s < t.nrule
  longB : ∀ i, i < t.nlong → t.long i < 256

/-- The tables lie at block p. -/
structure TabAt (w : World) (S : Nat → Prop) (p : Nat) (t : Tb) : Prop where
  safe : S p
  c0 : w.cell? ⟨p, 0, none⟩ = some (.bool t.stream)
  c1 : w.cell? ⟨p, 1, none⟩ = some (.int .i64 t.ahead)
  c2 : w.cell? ⟨p, 2, none⟩ = some (.int .i64 t.hold)
  c3 : ∃ v, w.cell? ⟨p, 3, none⟩ = some v ∧ IntsAt w S v t.nmode fun i => t.start i
  c4 : ∃ v, w.cell? ⟨p, 4, none⟩ = some v ∧ IntsAt w S v t.nrule fun i => t.act i
  c5 : ∃ v, w.cell? ⟨p, 5, none⟩ = some v ∧ IntsAt w S v t.nrule fun i => t.push i
  c6 : ∃ v, w.cell? ⟨p, 6, none⟩ = some v ∧ IntsAt w S v 256 fun i => t.kind i
  c7 : w.cell? ⟨p, 7, none⟩ = some (.int .i64 t.count)
  c8 : ∃ v, w.cell? ⟨p, 8, none⟩ = some v ∧ RowsAt w S v t.nst t.count fun i k => t.next i k
  c9 : ∃ v, w.cell? ⟨p, 9, none⟩ = some v ∧ IntsAt w S v t.nst fun i => t.ends i
  c10 : ∃ v, w.cell? ⟨p, 10, none⟩ = some v ∧ BoolsAt w S v t.nst fun i => t.live i
  c11 : w.cell? ⟨p, 11, none⟩ = some (.int .i64 t.rows)
  c12 : ∃ v, w.cell? ⟨p, 12, none⟩ = some v ∧ BytesAt w S v t.nlong fun i => t.long i

theorem TabAt.keep {w w' : World} {S : Nat → Prop} {p : Nat} {t : Tb} (h : TabAt w S p t) (e : ∀ b, S b → w'.heap[b]? = w.heap[b]?) : TabAt w' S p t := by
  have c : ∀ i, w'.cell? ⟨p, i, none⟩ = w.cell? ⟨p, i, none⟩ := fun i => World.cell?_of_block (e p h.safe)
  refine ⟨h.safe, (c _).trans h.c0, (c _).trans h.c1, (c _).trans h.c2, ?_, ?_, ?_, ?_, (c _).trans h.c7, ?_, ?_, ?_, (c _).trans h.c11, ?_⟩
  · obtain ⟨v, a, b⟩ := h.c3; exact ⟨v, (c _).trans a, b.keep e⟩
  · obtain ⟨v, a, b⟩ := h.c4; exact ⟨v, (c _).trans a, b.keep e⟩
  · obtain ⟨v, a, b⟩ := h.c5; exact ⟨v, (c _).trans a, b.keep e⟩
  · obtain ⟨v, a, b⟩ := h.c6; exact ⟨v, (c _).trans a, b.keep e⟩
  · obtain ⟨v, a, b⟩ := h.c8; exact ⟨v, (c _).trans a, b.keep e⟩
  · obtain ⟨v, a, b⟩ := h.c9; exact ⟨v, (c _).trans a, b.keep e⟩
  · obtain ⟨v, a, b⟩ := h.c10; exact ⟨v, (c _).trans a, b.keep e⟩
  · obtain ⟨v, a, b⟩ := h.c12; exact ⟨v, (c _).trans a, b.keep e⟩

set_option maxHeartbeats 400000 in
theorem step_calls (p : Nat) (w : World) (S : Nat → Prop) (t : Tb) (hT : TabAt w S p t) (ok : t.Ok) (s c : Nat) (hs : s < t.nst) (hc : c < 256) :
    Calls Try.prog 57 #[.pointer (some ⟨p, 0, none⟩), .int .i64 s, .int .u8 c] w fun e w' => e = .returned (.int .i64 (t.next s (t.kind c))) ∧ w'.Alike w := by
  obtain ⟨_, h8, b, o, cap, hb, rfl, hcap, hml, hN⟩ := hT.c8
  obtain ⟨u, hu, b2, o2, cap2, hb2, rfl, hcap2, hml2, hrow⟩ := hN s hs
  obtain ⟨_, h6, b3, o3, cap3, hb3, rfl, hcap3, hml3, hkind⟩ := hT.c6
  have hkc : w.cell? ⟨b3, o3 + c, none⟩ = some (.int .i64 (t.kind c : Nat)) := hkind c hc
  have hkm := ok.kind c hc
  have hnk : w.cell? ⟨b2, o2 + t.kind c, none⟩ = some (.int .i64 (t.next s (t.kind c) : Nat)) := hrow (t.kind c) hkm
  clear hN hrow hkind hT ok
  generalize t.kind c = k at *
  generalize t.next s k = x at *
  generalize t.nst = n at *
  generalize t.count = m at *
  have i1 : (s : Int) < (n : Int) := by omega
  have i2 : (k : Int) < (m : Int) := by omega
  have i3 : (c : Int) < 256 := by omega
  go_enter Try.func57, Try.ntmps57
  go_wp2
  go_quiet (fail)
  go_wp2
  go_ret
  exact ⟨rfl, rfl, rfl, rfl⟩

set_option maxHeartbeats 400000 in
theorem end_calls (p : Nat) (w : World) (S : Nat → Prop) (t : Tb) (hT : TabAt w S p t) :
    Calls Try.prog 49 #[.pointer (some ⟨p, 0, none⟩)] w fun e w' => e = .returned (.int .i64 t.count) ∧ w'.Alike w := by
  have h := hT.c7
  clear hT
  generalize t.count = m at *
  go_enter Try.func49, Try.ntmps49
  go_wp2
  go_ret
  exact ⟨rfl, rfl, rfl, rfl⟩

def Tb.further (t : Tb) (a d : Nat) : Nat := (a * (t.count + 1) + d) % t.rows

set_option maxHeartbeats 400000 in
theorem further_calls (p : Nat) (w : World) (S : Nat → Prop) (t : Tb) (hT : TabAt w S p t) (ok : t.Ok) (a d : Nat) (ha : a < 3000) (hd : d ≤ 256) :
    Calls Try.prog 45 #[.pointer (some ⟨p, 0, none⟩), .int .i64 a, .int .i64 d] w fun e w' => e = .returned (.int .i64 (t.further a d)) ∧ w'.Alike w := by
  have h7 := hT.c7
  have h11 := hT.c11
  have b1 := ok.count
  have b2 := ok.rows0
  have b3 := ok.rows
  have HF : Hid (t.further a d = (a * (t.count + 1) + d) % t.rows) := rfl
  clear hT ok
  generalize t.further a d = x at *
  generalize t.count = m at *
  generalize t.rows = n at *
  have p1 : (a : Int) * ((m : Int) + 1) ≤ 771000 := by
    have h : a * (m + 1) ≤ 771000 := Nat.le_trans (Nat.mul_le_mul (show a ≤ 3000 by omega) (show m + 1 ≤ 257 by omega)) (by decide)
    have e : (a : Int) * ((m : Int) + 1) = ((a * (m + 1) : Nat) : Int) := by simp
    rw [e]; omega
  have p2 : 0 ≤ (a : Int) * ((m : Int) + 1) := by
    have e : (a : Int) * ((m : Int) + 1) = ((a * (m + 1) : Nat) : Int) := by simp
    rw [e]; omega
  have hn0 : ((n : Int) == 0) = false := by rw [beq_eq_false_iff_ne]; omega
  go_enter Try.func45, Try.ntmps45
  go_wp2
  go_quiet (fail)
  go_wp2
  go_ret
  exact ⟨ret_int' (by rw [HF.out]; simp), rfl, rfl, rfl⟩

def Tb.longer (t : Tb) (a s : Nat) : Bool := decide (t.long ((a * t.nst + s) / 8) / 2 ^ ((a * t.nst + s) % 8) % 2 = 1)

theorem longer_eq (x k : Nat) (hx : x < 256) : (bits BinOp.and IntKind.u8 ((x : Int) / 2 ^ k) 1 == 1) = decide (x / 2 ^ k % 2 = 1) := by
  have h1 : x / 2 ^ k ≤ x := Nat.div_le_self _ _
  have h := u8_and_nat (x / 2 ^ k) 1 (by omega) (by decide)
  rw [div_pow_cast]
  rw [show ((1 : Nat) : Int) = 1 from rfl] at h
  rw [h, Nat.and_one_is_mod, Bool.eq_iff_iff]
  simp only [beq_iff_eq, decide_eq_true_eq]
  omega

set_option maxHeartbeats 400000 in
theorem longer_calls (p : Nat) (w : World) (S : Nat → Prop) (t : Tb) (hT : TabAt w S p t) (ok : t.Ok) (a s : Nat) (ha : a < t.rows) (hs : s < t.nst) :
    Calls Try.prog 58 #[.pointer (some ⟨p, 0, none⟩), .int .i64 a, .int .i64 s] w fun e w' => e = .returned (.bool (t.longer a s)) ∧ w'.Alike w := by
  obtain ⟨_, h8, b, o, cap, hb, rfl, hcap, hml, hN⟩ := hT.c8
  obtain ⟨_, h12, b3, o3, cap3, hb3, rfl, hcap3, hml3, hL⟩ := hT.c12
  have hm : a * t.nst + s < 8 * t.nlong := by
    have h1 : (a + 1) * t.nst ≤ t.rows * t.nst := Nat.mul_le_mul_right _ ha
    have h2 := ok.long
    rw [Nat.add_mul] at h1
    omega
  have hx : w.cell? ⟨b3, o3 + (a * t.nst + s) / 8, none⟩ = some (.int .u8 (t.long ((a * t.nst + s) / 8) : Nat)) := hL _ (by omega)
  have hxb := ok.longB ((a * t.nst + s) / 8) (by omega)
  have b1 := ok.rows
  have b2 := ok.nst
  have HF : Hid (t.longer a s = decide (t.long ((a * t.nst + s) / 8) / 2 ^ ((a * t.nst + s) % 8) % 2 = 1)) := rfl
  have hp : a * t.nst ≤ 600000 := Nat.le_trans (Nat.mul_le_mul (show a ≤ 3000 by omega) b2) (by decide)
  clear hT ok hN hL
  generalize t.longer a s = res at *
  generalize t.long ((a * t.nst + s) / 8) = x at *
  generalize t.nst = n at *
  generalize t.nlong = nl at *
  have p1 : (a : Int) * (n : Int) ≤ 600000 := by
    have e : (a : Int) * (n : Int) = ((a * n : Nat) : Int) := by simp
    rw [e]; omega
  have p2 : 0 ≤ (a : Int) * (n : Int) := by
    have e : (a : Int) * (n : Int) = ((a * n : Nat) : Int) := by simp
    rw [e]; omega
  go_enter Try.func58, Try.ntmps58
  go_wp2
  go_ret
  exact ⟨ret_bool' (by rw [HF.out]; exact longer_eq x _ hxb), rfl, rfl, rfl⟩

end Go.Proofs.Yteflpladkmihdaa
