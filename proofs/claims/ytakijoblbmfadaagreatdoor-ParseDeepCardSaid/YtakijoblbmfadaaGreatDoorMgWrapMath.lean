import Derived.WalkKit
import Derived.OpenShut
import Derived.Test.YtakijoblbmfadaaGreatDoorMgTokMath
import Derived.Lib.ItoaMem
set_option linter.unusedSimpArgs false
set_option linter.unusedVariables false
/- Plain numbers for the layer wrap: what One and Two answer, as functions on Int (wOne, wTwo, wHas), and the forms in which a walk meets them. No condition. -/
namespace Go.Proofs.YtakijoblbmfadaaGreatDoor
open Go.RowKit (wrap64 wrap32)
theorem wrap64_of_mod {n : Nat} {z : Int} (h : (n : Int) = z % 18446744073709551616) : IntKind.i64.wrap (n : Int) = IntKind.i64.wrap z := by
  rw [IntKind.wrap_i64, IntKind.wrap_i64]; omega
theorem ofInt64_toNat (z : Int) : (((BitVec.ofInt 64 z).toNat : Nat) : Int) = z % 18446744073709551616 := by
  rw [BitVec.toNat_ofInt]
  have : (0 : Int) ≤ z % 18446744073709551616 := by omega
  show (((z % 18446744073709551616).toNat : Nat) : Int) = _
  omega
/-- and with a mask of the lowest j bits -/
theorem i64_and_mask (z : Int) (j : Nat) (hj : j ≤ 63) : bits .and .i64 z ((2 ^ j - 1 : Nat) : Int) = z % (2 ^ j : Nat) := by
  have hp : 2 ^ j ≤ 2 ^ 63 := Nat.pow_le_pow_right (by decide) hj
  have h1 : 1 ≤ 2 ^ j := Nat.one_le_two_pow
  have hz := ofInt64_toNat z
  show IntKind.i64.wrap ((BitVec.ofInt 64 z &&& BitVec.ofInt 64 ((2 ^ j - 1 : Nat) : Int)).toNat : Nat) = _
  rw [BitVec.toNat_and]
  have hm : (BitVec.ofInt 64 ((2 ^ j - 1 : Nat) : Int)).toNat = 2 ^ j - 1 := by
    have := ofInt64_toNat ((2 ^ j - 1 : Nat) : Int)
    have h2 : ((2 ^ j - 1 : Nat) : Int) % 18446744073709551616 = ((2 ^ j - 1 : Nat) : Int) := Int.emod_eq_of_lt (by omega) (by omega)
    omega
  rw [hm, Nat.and_two_pow_sub_one_eq_mod]
  have hd : (((2 ^ j : Nat) : Int)) ∣ 18446744073709551616 := by
    have : (2 ^ j : Nat) ∣ 18446744073709551616 := (Nat.pow_dvd_pow 2 (by omega : j ≤ 64) : (2 ^ j : Nat) ∣ 2 ^ 64)
    exact Int.natCast_dvd_natCast.2 this
  have he : (((BitVec.ofInt 64 z).toNat % 2 ^ j : Nat) : Int) = z % (2 ^ j : Nat) := by
    rw [Int.natCast_emod, hz, Int.emod_emod_of_dvd _ hd]
  rw [he]
  have hb1 := Int.emod_nonneg z (b := ((2 ^ j : Nat) : Int)) (by omega)
  have hb2 := Int.emod_lt_of_pos z (b := ((2 ^ j : Nat) : Int)) (by omega)
  rw [IntKind.wrap_i64]; omega
theorem u64_and_mask (z : Int) (j : Nat) (hj : j ≤ 63) : bits .and .u64 z ((2 ^ j - 1 : Nat) : Int) = z % (2 ^ j : Nat) := by
  have hp : 2 ^ j ≤ 2 ^ 63 := Nat.pow_le_pow_right (by decide) hj
  have h1 : 1 ≤ 2 ^ j := Nat.one_le_two_pow
  have hz := ofInt64_toNat z
  show IntKind.u64.wrap ((BitVec.ofInt 64 z &&& BitVec.ofInt 64 ((2 ^ j - 1 : Nat) : Int)).toNat : Nat) = _
  rw [BitVec.toNat_and]
  have hm : (BitVec.ofInt 64 ((2 ^ j - 1 : Nat) : Int)).toNat = 2 ^ j - 1 := by
    have := ofInt64_toNat ((2 ^ j - 1 : Nat) : Int)
    have h2 : ((2 ^ j - 1 : Nat) : Int) % 18446744073709551616 = ((2 ^ j - 1 : Nat) : Int) := Int.emod_eq_of_lt (by omega) (by omega)
    omega
  rw [hm, Nat.and_two_pow_sub_one_eq_mod]
  have hd : (((2 ^ j : Nat) : Int)) ∣ 18446744073709551616 := by
    have : (2 ^ j : Nat) ∣ 18446744073709551616 := (Nat.pow_dvd_pow 2 (by omega : j ≤ 64) : (2 ^ j : Nat) ∣ 2 ^ 64)
    exact Int.natCast_dvd_natCast.2 this
  have he : (((BitVec.ofInt 64 z).toNat % 2 ^ j : Nat) : Int) = z % (2 ^ j : Nat) := by
    rw [Int.natCast_emod, hz, Int.emod_emod_of_dvd _ hd]
  rw [he]
  have hb1 := Int.emod_nonneg z (b := ((2 ^ j : Nat) : Int)) (by omega)
  have hb2 := Int.emod_lt_of_pos z (b := ((2 ^ j : Nat) : Int)) (by omega)
  rw [IntKind.wrap_u64]; omega
theorem i64_and63 (b : Int) : bits .and .i64 b 63 = b % 64 := i64_and_mask b 6 (by decide)
theorem u64_and63 (b : Int) : bits .and .u64 b 63 = b % 64 := u64_and_mask b 6 (by decide)
theorem i64_and255 (b : Int) : bits .and .i64 b 255 = b % 256 := i64_and_mask b 8 (by decide)
theorem i64_and65535 (b : Int) : bits .and .i64 b 65535 = b % 65536 := i64_and_mask b 16 (by decide)
theorem i64_and4294967295 (b : Int) : bits .and .i64 b 4294967295 = b % 4294967296 := i64_and_mask b 32 (by decide)
theorem nat_xor_top (x i : Nat) (h : x < 2 ^ (i + 1)) : x ^^^ 2 ^ i = if x < 2 ^ i then x + 2 ^ i else x - 2 ^ i := by
  have hp : 2 ^ (i + 1) = 2 * 2 ^ i := by rw [Nat.pow_succ]; omega
  split
  · rename_i hx
    have h1 : x + 2 ^ i = 2 ^ i ||| x := by rw [Nat.add_comm]; exact Nat.two_pow_add_eq_or_of_lt hx 1 |> fun e => by simpa using e
    rw [h1]
    apply Nat.eq_of_testBit_eq
    intro j
    rw [Nat.testBit_xor, Nat.testBit_or, Nat.testBit_two_pow]
    by_cases hj : i = j
    · subst hj; simp [Nat.testBit_lt_two_pow hx]
    · simp [hj]
  · rename_i hx
    obtain ⟨y, rfl⟩ : ∃ y, x = 2 ^ i + y := ⟨x - 2 ^ i, by omega⟩
    have hy : y < 2 ^ i := by omega
    have h1 : 2 ^ i + y = 2 ^ i ||| y := Nat.two_pow_add_eq_or_of_lt hy 1 |> fun e => by simpa using e
    rw [Nat.add_sub_cancel_left, h1]
    apply Nat.eq_of_testBit_eq
    intro j
    rw [Nat.testBit_xor, Nat.testBit_or, Nat.testBit_two_pow]
    by_cases hj : i = j
    · subst hj; simp [Nat.testBit_lt_two_pow hy]
    · simp [hj]
theorem i64_xor_top (z : Int) (i : Nat) (hi : i ≤ 62) (h0 : 0 ≤ z) (h : z < (2 ^ (i + 1) : Nat)) : bits .xor .i64 z ((2 ^ i : Nat) : Int) = if z < (2 ^ i : Nat) then z + (2 ^ i : Nat) else z - (2 ^ i : Nat) := by
  have hp : 2 ^ (i + 1) = 2 * 2 ^ i := by rw [Nat.pow_succ]; omega
  have hq : 2 ^ i ≤ 2 ^ 62 := Nat.pow_le_pow_right (by decide) hi
  obtain ⟨n, rfl⟩ := Int.eq_ofNat_of_zero_le h0
  have h1 := ofInt64_toNat (n : Int)
  have h2 := ofInt64_toNat ((2 ^ i : Nat) : Int)
  have e1 : (BitVec.ofInt 64 (n : Int)).toNat = n := by omega
  have e2 : (BitVec.ofInt 64 ((2 ^ i : Nat) : Int)).toNat = 2 ^ i := by omega
  show IntKind.i64.wrap ((BitVec.ofInt 64 (n : Int) ^^^ BitVec.ofInt 64 ((2 ^ i : Nat) : Int)).toNat : Nat) = _
  rw [BitVec.toNat_xor, e1, e2, nat_xor_top n i (by omega), IntKind.wrap_i64]
  split <;> split <;> omega
theorem i8_ref (a : Int) : (bits .xor .i64 (a % 256) 128) - 128 = IntKind.i8.wrap a := by
  have := i64_xor_top (a % 256) 7 (by decide) (by omega) (by omega)
  simp only [Nat.reducePow] at this
  erw [this]
  simp only [IntKind.wrap, IntKind.bits, IntKind.signed]; simp; split <;> split <;> omega
theorem i16_ref (a : Int) : (bits .xor .i64 (a % 65536) 32768) - 32768 = IntKind.i16.wrap a := by
  have := i64_xor_top (a % 65536) 15 (by decide) (by omega) (by omega)
  simp only [Nat.reducePow] at this
  erw [this]
  simp only [IntKind.wrap, IntKind.bits, IntKind.signed]; simp; split <;> split <;> omega
theorem i32_ref (a : Int) : (bits .xor .i64 (a % 4294967296) 2147483648) - 2147483648 = IntKind.i32.wrap a := by
  have := i64_xor_top (a % 4294967296) 31 (by decide) (by omega) (by omega)
  simp only [Nat.reducePow] at this
  erw [this]
  simp only [IntKind.wrap, IntKind.bits, IntKind.signed]; simp; split <;> split <;> omega
theorem i64_not (a : Int) (h : (Lit.int .i64 a).wf = true) : bits .xor .i64 (-1) a = -1 - a := by
  have hb := bounds_i64 h
  have h1 := ofInt64_toNat a
  show IntKind.i64.wrap ((BitVec.ofInt 64 (-1) ^^^ BitVec.ofInt 64 a).toNat : Nat) = _
  have e : BitVec.ofInt 64 (-1) ^^^ BitVec.ofInt 64 a = ~~~ (BitVec.ofInt 64 a) := by
    have : (BitVec.ofInt 64 (-1)) = BitVec.allOnes 64 := by decide
    rw [this, BitVec.allOnes_xor]
  rw [e, BitVec.toNat_not, IntKind.wrap_i64]
  have := (BitVec.ofInt 64 a).isLt
  omega
/-- What One answers (A1). -/
def wOne (op a : Int) : Int :=
  if op = 20 then wrap64 (-a) else if op = 21 then -1 - a else if op = 22 then (if a = 0 then 1 else 0) else if op = 23 then IntKind.i8.wrap a else if op = 24 then IntKind.i16.wrap a
  else if op = 25 then wrap32 a else if op = 26 then a % 256 else if op = 27 then a % 65536 else if op = 28 then a % 4294967296 else 0
theorem wrap64_of {n : Int} (h : -9223372036854775808 ≤ n ∧ n ≤ 9223372036854775807) : wrap64 n = n := by unfold wrap64; omega
theorem i8_bd (a : Int) : -128 ≤ IntKind.i8.wrap a ∧ IntKind.i8.wrap a ≤ 127 := by
  simp only [IntKind.wrap, IntKind.bits, IntKind.signed]; simp; split <;> omega
theorem i16_bd (a : Int) : -32768 ≤ IntKind.i16.wrap a ∧ IntKind.i16.wrap a ≤ 32767 := by
  simp only [IntKind.wrap, IntKind.bits, IntKind.signed]; simp; split <;> omega
theorem u16_eq (a : Int) : IntKind.u16.wrap a = a % 65536 := by
  simp only [IntKind.wrap, IntKind.bits, IntKind.signed]; simp
theorem i32_eq (a : Int) : IntKind.i32.wrap a = wrap32 a := IntWalk.i32_left a
theorem w_i8 (a : Int) : wrap64 (IntKind.i8.wrap a) = IntKind.i8.wrap a := wrap64_of (by have := i8_bd a; omega)
theorem w_i16 (a : Int) : wrap64 (IntKind.i16.wrap a) = IntKind.i16.wrap a := wrap64_of (by have := i16_bd a; omega)
theorem w_u16 (a : Int) : wrap64 (IntKind.u16.wrap a) = a % 65536 := by rw [u16_eq]; exact wrap64_of (by omega)
theorem w_i32 (a : Int) : wrap64 (wrap32 a) = wrap32 a := wrap64_of (by unfold wrap32; omega)
theorem r_not (a : Int) (h : (Lit.int .i64 a).wf = true) : wrap64 (-1 - a) = -1 - a := wrap64_of (by have := bounds_i64 h; omega)
theorem r_i8 (a : Int) : wrap64 (bits .xor .i64 (a % 256) 128 - 128) = IntKind.i8.wrap a := by rw [i8_ref]; exact w_i8 a
theorem r_i16 (a : Int) : wrap64 (bits .xor .i64 (a % 65536) 32768 - 32768) = IntKind.i16.wrap a := by rw [i16_ref]; exact w_i16 a
theorem r_i32 (a : Int) : wrap64 (bits .xor .i64 (a % 4294967296) 2147483648 - 2147483648) = wrap32 a := by rw [i32_ref, i32_eq]; exact w_i32 a
/-- The shift's count. -/
def cnt (b : Int) : Nat := (b % 64).toNat
theorem cnt_lt (b : Int) : cnt b < 64 := by unfold cnt; omega
/-- What Two answers (A2). -/
def flag (b : Bool) : Int := if b then 1 else 0
def wHas (op b : Int) : Bool := decide (1 ≤ op) && decide (op ≤ 17) && !((decide (op = 4) || decide (op = 5)) && decide (b = 0))

def cmp (op a b : Int) : Bool :=
  if op = 12 then decide (a < b) else if op = 13 then decide (a ≤ b) else if op = 14 then decide (b < a) else if op = 15 then decide (b ≤ a) else if op = 16 then a == b else a != b
def sft (op a b : Int) : Int :=
  if op = 9 then wrap64 (a * 2 ^ cnt b) else if op = 10 then a / 2 ^ cnt b else wrap64 (a % 18446744073709551616 / 2 ^ cnt b)
def dvd (op a b : Int) : Int := if b = 0 then 0 else if op = 4 then wrap64 (a.tdiv b) else a.tmod b
def wTwo (op a b : Int) : Int :=
  if op = 1 then wrap64 (a + b) else if op = 2 then wrap64 (a - b) else if op = 3 then wrap64 (a * b)
  else if op = 4 ∨ op = 5 then dvd op a b
  else if op = 6 then bits .and .i64 a b else if op = 7 then bits .or .i64 a b else if op = 8 then bits .xor .i64 a b
  else if op = 9 ∨ op = 10 ∨ op = 11 then sft op a b else if 12 ≤ op ∧ op ≤ 17 then flag (cmp op a b) else 0
theorem u64_and63' (b : Int) : bits .and .u64 (IntKind.u64.wrap b) 63 = b % 64 := by rw [u64_and63, IntKind.wrap_u64]; omega

theorem wTwo_out (op a b : Int) (h : op < 1 ∨ 17 < op) : wTwo op a b = 0 := by
  unfold wTwo
  repeat (rw [if_neg (by omega)])
theorem wHas_out (op b : Int) (h : op < 1 ∨ 17 < op) : wHas op b = false := by
  unfold wHas
  rcases h with h | h
  · have : decide (1 ≤ op) = false := by simpa using h
    simp [this]
  · have : decide (op ≤ 17) = false := by simpa using h
    simp [this]
/-- The rows of the document's table, by the operators' numbers; row 0 is empty. -/
def sgnL : List (List UInt8) := [[], [43], [45], [42], [47], [37], [38], [124], [94], [60, 60], [62, 62], [62, 62, 62], [60], [60, 61], [62], [62, 61], [61, 61], [33, 61], [38, 38], [124, 124], [45], [126], [33], [105, 56], [105, 49, 54], [105, 51, 50], [117, 56], [117, 49, 54], [117, 51, 50]]
def lvlL : List Int := [0, 9, 9, 10, 10, 10, 5, 3, 4, 8, 8, 8, 7, 7, 7, 7, 6, 6, 2, 1, 0, 0, 0, 0, 0, 0, 0, 0, 0]
def sgn (k : Nat) : ByteArray := ⟨(sgnL.getD k []).toArray⟩
def lvl (k : Nat) : Int := lvlL.getD k 0
/-- What Sign and Level answer (A3). -/
def sgnOf (op : Int) : ByteArray := if 1 ≤ op ∧ op ≤ 28 then sgn op.toNat else ⟨#[]⟩
def lvlOf (op : Int) : Int := if 1 ≤ op ∧ op ≤ 28 then lvl op.toNat else 0
end Go.Proofs.YtakijoblbmfadaaGreatDoor

/- Programs as plain trees, whether they are valid, and their texts: no Go, no program. -/
namespace Go.Proofs.YtakijoblbmfadaaGreatDoor
open Go

/-- An expression. -/
inductive Ex where
  | mk (kind op n : Int) (name : ByteArray) (args : List Ex)
/-- A statement. -/
inductive St where
  | mk (kind type : Int) (name : ByteArray) (args : List Ex) (thn els : List St)
structure Pa where
  name : ByteArray
  type : Int
structure Fu where
  name : ByteArray
  type : Int
  params : List Pa
  body : List St
structure Ar where
  name : ByteArray
  size : Int
structure Pr where
  arrays : List Ar
  funcs : List Fu

def Ex.kind : Ex → Int | .mk k _ _ _ _ => k
def Ex.op : Ex → Int | .mk _ o _ _ _ => o
def Ex.n : Ex → Int | .mk _ _ n _ _ => n
def Ex.name : Ex → ByteArray | .mk _ _ _ s _ => s
def Ex.args : Ex → List Ex | .mk _ _ _ _ l => l

def nmB (s : ByteArray) : Bool := nameB s.data.toList
def eB (s : ByteArray) : Bool := decide (s.size = 0)
def tyB (t : Int) : Bool := decide (t = 1 ∨ t = 2)

/-! ### validity -/
def formE (k op n : Int) (name : ByteArray) (len : Nat) : Bool :=
  if k = 1 then decide (0 ≤ n) && decide (op = 0) && eB name && decide (len = 0)
  else if k = 2 then decide (n = 0 ∨ n = 1) && decide (op = 0) && eB name && decide (len = 0)
  else if k = 3 then nmB name && decide (op = 0) && decide (n = 0) && decide (len = 0)
  else if k = 4 then decide (20 ≤ op ∧ op ≤ 28) && decide (n = 0) && eB name && decide (len = 1)
  else if k = 5 then decide (0 < lvlOf op) && decide (n = 0) && eB name && decide (len = 2)
  else if k = 6 then nmB name && decide (op = 0) && decide (n = 0) && decide (len = 1)
  else if k = 7 then nmB name && decide (op = 0) && decide (n = 0) && decide (len ≤ 8)
  else if k = 8 then decide (op = 0) && decide (n = 0) && eB name && decide (len = 0)
  else false

mutual
/-- Valid, and so deep at the most. -/
def exOK : Ex → Nat → Bool
  | .mk k op n name args, m => decide (1 ≤ m) && formE k op n name args.length && exsOK args (m - 1)
def exsOK : List Ex → Nat → Bool
  | [], _ => true
  | e :: r, m => exOK e m && exsOK r m
end

def callB (args : List Ex) : Bool := match args with | e :: _ => decide (e.kind = 7) | [] => false

def formS (k ty : Int) (name : ByteArray) (nargs nthn nels : Nat) (isCall : Bool) : Bool :=
  if k = 1 then tyB ty && nmB name && decide (nargs = 1) && decide (nthn = 0) && decide (nels = 0)
  else if k = 2 then decide (ty = 0) && nmB name && decide (nargs = 1) && decide (nthn = 0) && decide (nels = 0)
  else if k = 3 then decide (ty = 0) && nmB name && decide (nargs = 2) && decide (nthn = 0) && decide (nels = 0)
  else if k = 4 then decide (ty = 0) && eB name && decide (nargs = 1)
  else if k = 5 then decide (ty = 0) && eB name && decide (nargs = 1) && decide (nels = 0)
  else if k = 6 ∨ k = 7 then decide (ty = 0) && eB name && decide (nargs = 0) && decide (nthn = 0) && decide (nels = 0)
  else if k = 8 ∨ k = 9 then decide (ty = 0) && eB name && decide (nargs = 1) && decide (nthn = 0) && decide (nels = 0)
  else if k = 10 then decide (ty = 0) && eB name && decide (nargs = 1) && decide (nthn = 0) && decide (nels = 0) && isCall
  else false

mutual
def stOK : St → Nat → Bool
  | .mk k ty name args thn els, m => decide (1 ≤ m) && formS k ty name args.length thn.length els.length (callB args) && exsOK args 100 && stsOK thn (m - 1) && stsOK els (m - 1)
def stsOK : List St → Nat → Bool
  | [], _ => true
  | s :: r, m => stOK s m && stsOK r m
end

def arOK (a : Ar) : Bool := nmB a.name && decide (1 ≤ a.size ∧ a.size ≤ 1000)
def paOK (x : Pa) : Bool := nmB x.name && tyB x.type
def fuOK (f : Fu) : Bool := nmB f.name && tyB f.type && decide (f.params.length ≤ 8) && f.params.all paOK && stsOK f.body 100
/-- C1. -/
def prOK (p : Pr) : Bool := p.arrays.all arOK && p.funcs.all fuOK

/-! ### texts -/
def parT (lev : Int) (c : Int × Int × List UInt8) : List UInt8 := if c.1 = 5 ∧ lvlOf c.2.1 < lev then 40 :: (c.2.2 ++ [41]) else c.2.2
def joinC : List (List UInt8) → List UInt8
  | [] => []
  | [x] => x
  | x :: y :: r => x ++ 44 :: 32 :: joinC (y :: r)
def boolT (b : Bool) : List UInt8 := if b then [116, 114, 117, 101] else [102, 97, 108, 115, 101]
def tyT (t : Int) : List UInt8 := if t = 2 then [98, 111, 111, 108] else [105, 110, 116]
def kid (cs : List (Int × Int × List UInt8)) (i : Nat) : Int × Int × List UInt8 := cs.getD i (0, 0, [])
def nodeT (k op n : Int) (name : ByteArray) (cs : List (Int × Int × List UInt8)) : List UInt8 :=
  if k = 1 then Lib.itoa n
  else if k = 2 then boolT (decide (n = 1))
  else if k = 3 then name.data.toList
  else if k = 4 then (if 23 ≤ op then (sgnOf op).data.toList ++ 40 :: ((kid cs 0).2.2 ++ [41]) else (sgnOf op).data.toList ++ parT 11 (kid cs 0))
  else if k = 5 then parT (lvlOf op) (kid cs 0) ++ 32 :: ((sgnOf op).data.toList ++ 32 :: parT (lvlOf op + 1) (kid cs 1))
  else if k = 6 then name.data.toList ++ 91 :: ((kid cs 0).2.2 ++ [93])
  else if k = 7 then name.data.toList ++ 40 :: (joinC (cs.map (·.2.2)) ++ [41])
  else [114, 101, 97, 100, 40, 41]
mutual
def exT : Ex → List UInt8
  | .mk k op n name args => nodeT k op n name (exTs args)
def exTs : List Ex → List (Int × Int × List UInt8)
  | [] => []
  | e :: r => (e.kind, e.op, exT e) :: exTs r
end
def opT (lev : Int) (e : Ex) : List UInt8 := parT lev (e.kind, e.op, exT e)
def tabT (n : Nat) : List UInt8 := List.replicate n 9
def argT (args : List Ex) (i : Nat) : List UInt8 := (kid (exTs args) i).2.2
/-- A statement's own first line, without tabs and the line's end. -/
def headT (k ty : Int) (name : ByteArray) (args : List Ex) : List UInt8 :=
  if k = 1 then tyT ty ++ 32 :: (name.data.toList ++ 32 :: 61 :: 32 :: (argT args 0 ++ [59]))
  else if k = 2 then name.data.toList ++ 32 :: 61 :: 32 :: (argT args 0 ++ [59])
  else if k = 3 then name.data.toList ++ 91 :: (argT args 0 ++ 93 :: 32 :: 61 :: 32 :: (argT args 1 ++ [59]))
  else if k = 4 then 105 :: 102 :: 32 :: 40 :: (argT args 0 ++ [41, 32, 123])
  else if k = 5 then 119 :: 104 :: 105 :: 108 :: 101 :: 32 :: 40 :: (argT args 0 ++ [41, 32, 123])
  else if k = 6 then [98, 114, 101, 97, 107, 59]
  else if k = 7 then [99, 111, 110, 116, 105, 110, 117, 101, 59]
  else if k = 8 then 114 :: 101 :: 116 :: 117 :: 114 :: 110 :: 32 :: (argT args 0 ++ [59])
  else if k = 9 then 112 :: 114 :: 105 :: 110 :: 116 :: 40 :: (argT args 0 ++ [41, 59])
  else argT args 0 ++ [59]
mutual
def stT : St → Nat → List UInt8
  | .mk k ty name args thn els, t =>
    tabT t ++ (headT k ty name args ++ 10 ::
      (if k = 4 then stsT thn (t + 1) ++ ((if els.length = 0 then [] else tabT t ++ ([125, 32, 101, 108, 115, 101, 32, 123] ++ 10 :: stsT els (t + 1))) ++ (tabT t ++ [125, 10]))
       else if k = 5 then stsT thn (t + 1) ++ (tabT t ++ [125, 10]) else []))
def stsT : List St → Nat → List UInt8
  | [], _ => []
  | s :: r, t => stT s t ++ stsT r t
end
def arT (a : Ar) : List UInt8 := [105, 110, 116, 32] ++ (a.name.data.toList ++ 91 :: (Lib.itoa a.size ++ [93, 59, 10]))
def paT (x : Pa) : List UInt8 := tyT x.type ++ 32 :: x.name.data.toList
def fuT (f : Fu) : List UInt8 := tyT f.type ++ 32 :: (f.name.data.toList ++ 40 :: (joinC (f.params.map paT) ++ [41, 32, 123, 10] ++ (stsT f.body 1 ++ [125, 10])))
/-- C2, of a valid program. -/
def prT (p : Pr) : List UInt8 := (p.arrays.map arT).flatten ++ (p.funcs.map fuT).flatten

/-! ### plain facts -/
theorem exOK_mk (k op n : Int) (name : ByteArray) (args : List Ex) (m : Nat) : exOK (.mk k op n name args) m = (decide (1 ≤ m) && formE k op n name args.length && exsOK args (m - 1)) := by rw [exOK]
theorem exsOK_nil (m : Nat) : exsOK [] m = true := by rw [exsOK]
theorem exsOK_cons (e : Ex) (r : List Ex) (m : Nat) : exsOK (e :: r) m = (exOK e m && exsOK r m) := by rw [exsOK]
theorem exsOK_at {l : List Ex} {m : Nat} (h : exsOK l m = true) {i : Nat} {e : Ex} (hi : l[i]? = some e) : exOK e m = true := by
  induction l generalizing i with
  | nil => simp at hi
  | cons a r ih =>
    rw [exsOK_cons, Bool.and_eq_true] at h
    cases i with
    | zero => simp at hi; subst hi; exact h.1
    | succ i => exact ih h.2 (by simpa using hi)
theorem exsOK_app (a b : List Ex) (m : Nat) : exsOK (a ++ b) m = (exsOK a m && exsOK b m) := by
  induction a with
  | nil => simp [exsOK_nil]
  | cons e r ih => rw [List.cons_append, exsOK_cons, exsOK_cons, ih, Bool.and_assoc]
theorem exsOK_take {l : List Ex} {m i : Nat} {e : Ex} (hi : l[i]? = some e) : exsOK (l.take (i + 1)) m = (exsOK (l.take i) m && exOK e m) := by
  rw [List.take_add_one, hi]
  simp only [Option.toList_some]
  rw [exsOK_app, exsOK_cons, exsOK_nil, Bool.and_true]
theorem exsOK_bad {l : List Ex} {m i : Nat} {e : Ex} (hi : l[i]? = some e) (h : exOK e m = false) : exsOK l m = false := by
  rw [Bool.eq_false_iff]
  intro hc
  rw [exsOK_at hc hi] at h
  cases h
theorem stOK_mk (k ty : Int) (name : ByteArray) (args : List Ex) (thn els : List St) (m : Nat) : stOK (.mk k ty name args thn els) m = (decide (1 ≤ m) && formS k ty name args.length thn.length els.length (callB args) && exsOK args 100 && stsOK thn (m - 1) && stsOK els (m - 1)) := by rw [stOK]
theorem stsOK_nil (m : Nat) : stsOK [] m = true := by rw [stsOK]
theorem stsOK_cons (e : St) (r : List St) (m : Nat) : stsOK (e :: r) m = (stOK e m && stsOK r m) := by rw [stsOK]
theorem stsOK_at {l : List St} {m : Nat} (h : stsOK l m = true) {i : Nat} {e : St} (hi : l[i]? = some e) : stOK e m = true := by
  induction l generalizing i with
  | nil => simp at hi
  | cons a r ih =>
    rw [stsOK_cons, Bool.and_eq_true] at h
    cases i with
    | zero => simp at hi; subst hi; exact h.1
    | succ i => exact ih h.2 (by simpa using hi)
theorem stsOK_app (a b : List St) (m : Nat) : stsOK (a ++ b) m = (stsOK a m && stsOK b m) := by
  induction a with
  | nil => simp [stsOK_nil]
  | cons e r ih => rw [List.cons_append, stsOK_cons, stsOK_cons, ih, Bool.and_assoc]
theorem stsOK_take {l : List St} {m i : Nat} {e : St} (hi : l[i]? = some e) : stsOK (l.take (i + 1)) m = (stsOK (l.take i) m && stOK e m) := by
  rw [List.take_add_one, hi]
  simp only [Option.toList_some]
  rw [stsOK_app, stsOK_cons, stsOK_nil, Bool.and_true]
theorem stsOK_bad {l : List St} {m i : Nat} {e : St} (hi : l[i]? = some e) (h : stOK e m = false) : stsOK l m = false := by
  rw [Bool.eq_false_iff]
  intro hc
  rw [stsOK_at hc hi] at h
  cases h
theorem exT_mk (k op n : Int) (name : ByteArray) (args : List Ex) : exT (.mk k op n name args) = nodeT k op n name (exTs args) := by rw [exT]
theorem exTs_map (l : List Ex) : exTs l = l.map fun e => (e.kind, e.op, exT e) := by
  induction l with
  | nil => rw [exTs]; rfl
  | cons e r ih => rw [exTs, ih]; rfl
theorem kid_at {l : List Ex} {i : Nat} {e : Ex} (h : l[i]? = some e) : kid (exTs l) i = (e.kind, e.op, exT e) := by
  unfold kid
  rw [exTs_map, List.getD_eq_getElem?_getD, List.getElem?_map, h]
  rfl
theorem argT_at {l : List Ex} {i : Nat} {e : Ex} (h : l[i]? = some e) : argT l i = exT e := by unfold argT; rw [kid_at h]
theorem joinC_snoc (l : List (List UInt8)) (x : List UInt8) : joinC (l ++ [x]) = joinC l ++ ((if l.length = 0 then [] else [44, 32]) ++ x) := by
  induction l with
  | nil => simp [joinC]
  | cons a r ih =>
    cases r with
    | nil => simp [joinC]
    | cons b t =>
      have e : (a :: b :: t) ++ [x] = a :: b :: (t ++ [x]) := rfl
      rw [e, joinC, joinC]
      have ih' : joinC (b :: (t ++ [x])) = joinC (b :: t) ++ ([44, 32] ++ x) := by
        have := ih
        simpa using this
      rw [ih']
      simp
theorem joinC_take {α : Type} (f : α → List UInt8) {l : List α} {i : Nat} {x : α} (h : l[i]? = some x) : joinC ((l.take (i + 1)).map f) = joinC ((l.take i).map f) ++ ((if i = 0 then [] else [44, 32]) ++ f x) := by
  have hlt : i < l.length := (List.getElem?_eq_some_iff.1 h).1
  rw [List.take_add_one, h]
  simp only [Option.toList_some]
  rw [List.map_append, List.map_cons, List.map_nil, joinC_snoc, List.length_map, List.length_take, Nat.min_eq_left (by omega)]
theorem stT_mk (k ty : Int) (name : ByteArray) (args : List Ex) (thn els : List St) (t : Nat) : stT (.mk k ty name args thn els) t =
    tabT t ++ (headT k ty name args ++ 10 ::
      (if k = 4 then stsT thn (t + 1) ++ ((if els.length = 0 then [] else tabT t ++ ([125, 32, 101, 108, 115, 101, 32, 123] ++ 10 :: stsT els (t + 1))) ++ (tabT t ++ [125, 10]))
       else if k = 5 then stsT thn (t + 1) ++ (tabT t ++ [125, 10]) else [])) := by rw [stT]
theorem stsT_nil (t : Nat) : stsT [] t = [] := by rw [stsT]
theorem stsT_cons (s : St) (r : List St) (t : Nat) : stsT (s :: r) t = stT s t ++ stsT r t := by rw [stsT]
theorem stsT_app (a b : List St) (t : Nat) : stsT (a ++ b) t = stsT a t ++ stsT b t := by
  induction a with
  | nil => simp [stsT_nil]
  | cons s r ih => rw [List.cons_append, stsT_cons, stsT_cons, ih, List.append_assoc]
theorem stsT_take {l : List St} {i t : Nat} {s : St} (h : l[i]? = some s) : stsT (l.take (i + 1)) t = stsT (l.take i) t ++ stT s t := by
  rw [List.take_add_one, h]
  simp only [Option.toList_some]
  rw [stsT_app, stsT_cons, stsT_nil, List.append_nil]
theorem flatten_take {α : Type} (f : α → List UInt8) {l : List α} {i : Nat} {x : α} (h : l[i]? = some x) : ((l.take (i + 1)).map f).flatten = ((l.take i).map f).flatten ++ f x := by
  rw [List.take_add_one, h]
  simp
theorem tabT_succ (n : Nat) : tabT (n + 1) = tabT n ++ [9] := by
  unfold tabT
  rw [List.replicate_succ']

end Go.Proofs.YtakijoblbmfadaaGreatDoor
