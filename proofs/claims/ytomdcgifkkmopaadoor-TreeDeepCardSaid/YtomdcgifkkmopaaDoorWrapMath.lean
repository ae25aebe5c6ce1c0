/- Plain numbers for the layer wrap: what One and Two answer, as functions on Int (wOne, wTwo, wHas), and the forms in which a walk meets them. No condition. -/
import Derived.WalkKit
import Derived.OpenShut
namespace Go.Proofs.YtomdcgifkkmopaaDoor
open Go.RowKit (wrap64 wrap32)
theorem wrap64_of_mod {n : Nat} {z : Int} (h : (n : Int) = z % 18446744073709551616) : IntKind.i64.wrap (n : Int) = IntKind.i64.wrap z := by
  rw [IntKind.wrap_i64, IntKind.wrap_i64]; omega
theorem ofInt64_toNat (z : Int) : (((BitVec.ofInt 64 z).toNat : Nat) : Int) = z % 18446744073709551616 := by
  rw [BitVec.toNat_ofInt]
  have : (0 : Int) ≤ z % 18446744073709551616 := by omega
  show (((z % 18446744073709551616).toNat : Nat) : Int) = _
  omega
/-- and with a mask of the lowest j bits -/
theorem i64_and_mask (z : Int) (j : Nat) (hj : j ≤ 63) : bits .and .i64 z ((2 ^ j - 1 : Nat) : Int) = z % (2 ^ j : Nat) := by
  have hp : 2 ^ j ≤ 2 ^ 63 := Nat.pow_le_pow_right (by decide) hj
  have h1 : 1 ≤ 2 ^ j := Nat.one_le_two_pow
  have hz := ofInt64_toNat z
  show IntKind.i64.wrap ((BitVec.ofInt 64 z &&& BitVec.ofInt 64 ((2 ^ j - 1 : Nat) : Int)).toNat : Nat) = _
  rw [BitVec.toNat_and]
  have hm : (BitVec.ofInt 64 ((2 ^ j - 1 : Nat) : Int)).toNat = 2 ^ j - 1 := by
    have := ofInt64_toNat ((2 ^ j - 1 : Nat) : Int)
    have h2 : ((2 ^ j - 1 : Nat) : Int) % 18446744073709551616 = ((2 ^ j - 1 : Nat) : Int) := Int.emod_eq_of_lt (by omega) (by omega)
    omega
  rw [hm, Nat.and_two_pow_sub_one_eq_mod]
  have hd : (((2 ^ j : Nat) : Int)) ∣ 18446744073709551616 := by
    have : (2 ^ j : Nat) ∣ 18446744073709551616 := (Nat.pow_dvd_pow 2 (by omega : j ≤ 64) : (2 ^ j : Nat) ∣ 2 ^ 64)
    exact Int.natCast_dvd_natCast.2 this
  have he : (((BitVec.ofInt 64 z).toNat % 2 ^ j : Nat) : Int) = z % (2 ^ j : Nat) := by
    rw [Int.natCast_emod, hz, Int.emod_emod_of_dvd _ hd]
  rw [he]
  have hb1 := Int.emod_nonneg z (b := ((2 ^ j : Nat) : Int)) (by omega)
  have hb2 := Int.emod_lt_of_pos z (b := ((2 ^ j : Nat) : Int)) (by omega)
  rw [IntKind.wrap_i64]; omega
theorem u64_and_mask (z : Int) (j : Nat) (hj : j ≤ 63) : bits .and .u64 z ((2 ^ j - 1 : Nat) : Int) = z % (2 ^ j : Nat) := by
  have hp : 2 ^ j ≤ 2 ^ 63 := Nat.pow_le_pow_right (by decide) hj
  have h1 : 1 ≤ 2 ^ j := Nat.one_le_two_pow
  have hz := ofInt64_toNat z
  show IntKind.u64.wrap ((BitVec.ofInt 64 z &&& BitVec.ofInt 64 ((2 ^ j - 1 : Nat) : Int)).toNat : Nat) = _
  rw [BitVec.toNat_and]
  have hm : (BitVec.ofInt 64 ((2 ^ j - 1 : Nat) : Int)).toNat = 2 ^ j - 1 := by
    have := ofInt64_toNat ((2 ^ j - 1 : Nat) : Int)
    have h2 : ((2 ^ j - 1 : Nat) : Int) % 18446744073709551616 = ((2 ^ j - 1 : Nat) : Int) := Int.emod_eq_of_lt (by omega) (by omega)
    omega
  rw [hm, Nat.and_two_pow_sub_one_eq_mod]
  have hd : (((2 ^ j : Nat) : Int)) ∣ 18446744073709551616 := by
    have : (2 ^ j : Nat) ∣ 18446744073709551616 := (Nat.pow_dvd_pow 2 (by omega : j ≤ 64) : (2 ^ j : Nat) ∣ 2 ^ 64)
    exact Int.natCast_dvd_natCast.2 this
  have he : (((BitVec.ofInt 64 z).toNat % 2 ^ j : Nat) : Int) = z % (2 ^ j : Nat) := by
    rw [Int.natCast_emod, hz, Int.emod_emod_of_dvd _ hd]
  rw [he]
  have hb1 := Int.emod_nonneg z (b := ((2 ^ j : Nat) : Int)) (by omega)
  have hb2 := Int.emod_lt_of_pos z (b := ((2 ^ j : Nat) : Int)) (by omega)
  rw [IntKind.wrap_u64]; omega
theorem i64_and63 (b : Int) : bits .and .i64 b 63 = b % 64 := i64_and_mask b 6 (by decide)
theorem u64_and63 (b : Int) : bits .and .u64 b 63 = b % 64 := u64_and_mask b 6 (by decide)
theorem i64_and255 (b : Int) : bits .and .i64 b 255 = b % 256 := i64_and_mask b 8 (by decide)
theorem i64_and65535 (b : Int) : bits .and .i64 b 65535 = b % 65536 := i64_and_mask b 16 (by decide)
theorem i64_and4294967295 (b : Int) : bits .and .i64 b 4294967295 = b % 4294967296 := i64_and_mask b 32 (by decide)
theorem nat_xor_top (x i : Nat) (h : x < 2 ^ (i + 1)) : x ^^^ 2 ^ i = if x < 2 ^ i then x + 2 ^ i else x - 2 ^ i := by
  have hp : 2 ^ (i + 1) = 2 * 2 ^ i := by rw [Nat.pow_succ]; omega
  split
  · rename_i hx
    have h1 : x + 2 ^ i = 2 ^ i ||| x := by rw [Nat.add_comm]; exact Nat.two_pow_add_eq_or_of_lt hx 1 |> fun e => by simpa using e
    rw [h1]
    apply Nat.eq_of_testBit_eq
    intro j
    rw [Nat.testBit_xor, Nat.testBit_or, Nat.testBit_two_pow]
    by_cases hj : i = j
    · subst hj; simp [Nat.testBit_lt_two_pow hx]
    · simp [hj]
  · rename_i hx
    obtain ⟨y, rfl⟩ : ∃ y, x = 2 ^ i + y := ⟨x - 2 ^ i, by omega⟩
    have hy : y < 2 ^ i := by omega
    have h1 : 2 ^ i + y = 2 ^ i ||| y := Nat.two_pow_add_eq_or_of_lt hy 1 |> fun e => by simpa using e
    rw [Nat.add_sub_cancel_left, h1]
    apply Nat.eq_of_testBit_eq
    intro j
    rw [Nat.testBit_xor, Nat.testBit_or, Nat.testBit_two_pow]
    by_cases hj : i = j
    · subst hj; simp [Nat.testBit_lt_two_pow hy]
    · simp [hj]
theorem i64_xor_top (z : Int) (i : Nat) (hi : i ≤ 62) (h0 : 0 ≤ z) (h : z < (2 ^ (i + 1) : Nat)) : bits .xor .i64 z ((2 ^ i : Nat) : Int) = if z < (2 ^ i : Nat) then z + (2 ^ i : Nat) else z - (2 ^ i : Nat) := by
  have hp : 2 ^ (i + 1) = 2 * 2 ^ i := by rw [Nat.pow_succ]; omega
  have hq : 2 ^ i ≤ 2 ^ 62 := Nat.pow_le_pow_right (by decide) hi
  obtain ⟨n, rfl⟩ := Int.eq_ofNat_of_zero_le h0
  have h1 := ofInt64_toNat (n : Int)
  have h2 := ofInt64_toNat ((2 ^ i : Nat) : Int)
  have e1 : (BitVec.ofInt 64 (n : Int)).toNat = n := by omega
  have e2 : (BitVec.ofInt 64 ((2 ^ i : Nat) : Int)).toNat = 2 ^ i := by omega
  show IntKind.i64.wrap ((BitVec.ofInt 64 (n : Int) ^^^ BitVec.ofInt 64 ((2 ^ i : Nat) : Int)).toNat : Nat) = _
  rw [BitVec.toNat_xor, e1, e2, nat_xor_top n i (by omega), IntKind.wrap_i64]
  split <;> split <;> omega
theorem i8_ref (a : Int) : (bits .xor .i64 (a % 256) 128) - 128 = IntKind.i8.wrap a := by
  have := i64_xor_top (a % 256) 7 (by decide) (by omega) (by omega)
  simp only [Nat.reducePow] at this
  erw [this]
  simp only [IntKind.wrap, IntKind.bits, IntKind.signed]; simp; split <;> split <;> omega
theorem i16_ref (a : Int) : (bits .xor .i64 (a % 65536) 32768) - 32768 = IntKind.i16.wrap a := by
  have := i64_xor_top (a % 65536) 15 (by decide) (by omega) (by omega)
  simp only [Nat.reducePow] at this
  erw [this]
  simp only [IntKind.wrap, IntKind.bits, IntKind.signed]; simp; split <;> split <;> omega
theorem i32_ref (a : Int) : (bits .xor .i64 (a % 4294967296) 2147483648) - 2147483648 = IntKind.i32.wrap a := by
  have := i64_xor_top (a % 4294967296) 31 (by decide) (by omega) (by omega)
  simp only [Nat.reducePow] at this
  erw [this]
  simp only [IntKind.wrap, IntKind.bits, IntKind.signed]; simp; split <;> split <;> omega
theorem i64_not (a : Int) (h : (Lit.int .i64 a).wf = true) : bits .xor .i64 (-1) a = -1 - a := by
  have hb := bounds_i64 h
  have h1 := ofInt64_toNat a
  show IntKind.i64.wrap ((BitVec.ofInt 64 (-1) ^^^ BitVec.ofInt 64 a).toNat : Nat) = _
  have e : BitVec.ofInt 64 (-1) ^^^ BitVec.ofInt 64 a = ~~~ (BitVec.ofInt 64 a) := by
    have : (BitVec.ofInt 64 (-1)) = BitVec.allOnes 64 := by decide
    rw [this, BitVec.allOnes_xor]
  rw [e, BitVec.toNat_not, IntKind.wrap_i64]
  have := (BitVec.ofInt 64 a).isLt
  omega
/-- What One answers (A1). -/
def wOne (op a : Int) : Int :=
  if op = 20 then wrap64 (-a) else if op = 21 then -1 - a else if op = 22 then (if a = 0 then 1 else 0) else if op = 23 then IntKind.i8.wrap a else if op = 24 then IntKind.i16.wrap a
  else if op = 25 then wrap32 a else if op = 26 then a % 256 else if op = 27 then a % 65536 else if op = 28 then a % 4294967296 else 0
theorem wrap64_of {n : Int} (h : -9223372036854775808 ≤ n ∧ n ≤ 9223372036854775807) : wrap64 n = n := by unfold wrap64; omega
theorem i8_bd (a : Int) : -128 ≤ IntKind.i8.wrap a ∧ IntKind.i8.wrap a ≤ 127 := by
  simp only [IntKind.wrap, IntKind.bits, IntKind.signed]; simp; split <;> omega
theorem i16_bd (a : Int) : -32768 ≤ IntKind.i16.wrap a ∧ IntKind.i16.wrap a ≤ 32767 := by
  simp only [IntKind.wrap, IntKind.bits, IntKind.signed]; simp; split <;> omega
theorem u16_eq (a : Int) : IntKind.u16.wrap a = a % 65536 := by
  simp only [IntKind.wrap, IntKind.bits, IntKind.signed]; simp
theorem i32_eq (a : Int) : IntKind.i32.wrap a = wrap32 a := IntWalk.i32_left a
theorem w_i8 (a : Int) : wrap64 (IntKind.i8.wrap a) = IntKind.i8.wrap a := wrap64_of (by have := i8_bd a; omega)
theorem w_i16 (a : Int) : wrap64 (IntKind.i16.wrap a) = IntKind.i16.wrap a := wrap64_of (by have := i16_bd a; omega)
theorem w_u16 (a : Int) : wrap64 (IntKind.u16.wrap a) = a % 65536 := by rw [u16_eq]; exact wrap64_of (by omega)
theorem w_i32 (a : Int) : wrap64 (wrap32 a) = wrap32 a := wrap64_of (by unfold wrap32; omega)
theorem r_not (a : Int) (h : (Lit.int .i64 a).wf = true) : wrap64 (-1 - a) = -1 - a := wrap64_of (by have := bounds_i64 h; omega)
theorem r_i8 (a : Int) : wrap64 (bits .xor .i64 (a % 256) 128 - 128) = IntKind.i8.wrap a := by rw [i8_ref]; exact w_i8 a
theorem r_i16 (a : Int) : wrap64 (bits .xor .i64 (a % 65536) 32768 - 32768) = IntKind.i16.wrap a := by rw [i16_ref]; exact w_i16 a
theorem r_i32 (a : Int) : wrap64 (bits .xor .i64 (a % 4294967296) 2147483648 - 2147483648) = wrap32 a := by rw [i32_ref, i32_eq]; exact w_i32 a
/-- The shift's count. -/
def cnt (b : Int) : Nat := (b % 64).toNat
theorem cnt_lt (b : Int) : cnt b < 64 := by unfold cnt; omega
/-- What Two answers (A2). -/
def flag (b : Bool) : Int := if b then 1 else 0
def wHas (op b : Int) : Bool := decide (1 ≤ op) && decide (op ≤ 17) && !((decide (op = 4) || decide (op = 5)) && decide (b = 0))

def cmp (op a b : Int) : Bool :=
  if op = 12 then decide (a < b) else if op = 13 then decide (a ≤ b) else if op = 14 then decide (b < a) else if op = 15 then decide (b ≤ a) else if op = 16 then a == b else a != b
def sft (op a b : Int) : Int :=
  if op = 9 then wrap64 (a * 2 ^ cnt b) else if op = 10 then a / 2 ^ cnt b else wrap64 (a % 18446744073709551616 / 2 ^ cnt b)
def dvd (op a b : Int) : Int := if b = 0 then 0 else if op = 4 then wrap64 (a.tdiv b) else a.tmod b
def wTwo (op a b : Int) : Int :=
  if op = 1 then wrap64 (a + b) else if op = 2 then wrap64 (a - b) else if op = 3 then wrap64 (a * b)
  else if op = 4 ∨ op = 5 then dvd op a b
  else if op = 6 then bits .and .i64 a b else if op = 7 then bits .or .i64 a b else if op = 8 then bits .xor .i64 a b
  else if op = 9 ∨ op = 10 ∨ op = 11 then sft op a b else if 12 ≤ op ∧ op ≤ 17 then flag (cmp op a b) else 0
theorem u64_and63' (b : Int) : bits .and .u64 (IntKind.u64.wrap b) 63 = b % 64 := by rw [u64_and63, IntKind.wrap_u64]; omega

theorem wTwo_out (op a b : Int) (h : op < 1 ∨ 17 < op) : wTwo op a b = 0 := by
  unfold wTwo
  repeat (rw [if_neg (by omega)])
theorem wHas_out (op b : Int) (h : op < 1 ∨ 17 < op) : wHas op b = false := by
  unfold wHas
  rcases h with h | h
  · have : decide (1 ≤ op) = false := by simpa using h
    simp [this]
  · have : decide (op ≤ 17) = false := by simpa using h
    simp [this]
/-- The rows of the document's table, by the operators' numbers; row 0 is empty. -/
def sgnL : List (List UInt8) := [[], [43], [45], [42], [47], [37], [38], [124], [94], [60, 60], [62, 62], [62, 62, 62], [60], [60, 61], [62], [62, 61], [61, 61], [33, 61], [38, 38], [124, 124], [45], [126], [33], [105, 56], [105, 49, 54], [105, 51, 50], [117, 56], [117, 49, 54], [117, 51, 50]]
def lvlL : List Int := [0, 9, 9, 10, 10, 10, 5, 3, 4, 8, 8, 8, 7, 7, 7, 7, 6, 6, 2, 1, 0, 0, 0, 0, 0, 0, 0, 0, 0]
def sgn (k : Nat) : ByteArray := ⟨(sgnL.getD k []).toArray⟩
def lvl (k : Nat) : Int := lvlL.getD k 0
/-- What Sign and Level answer (A3). -/
def sgnOf (op : Int) : ByteArray := if 1 ≤ op ∧ op ≤ 28 then sgn op.toNat else ⟨#[]⟩
def lvlOf (op : Int) : Int := if 1 ≤ op ∧ op ≤ 28 then lvl op.toNat else 0
end Go.Proofs.YtomdcgifkkmopaaDoor
