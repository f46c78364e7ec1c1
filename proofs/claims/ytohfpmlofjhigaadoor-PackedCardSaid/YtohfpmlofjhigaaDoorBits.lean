/-
  Bits and bytes: a text told by its bits, the lowest of each byte first.
-/
import Derived.RowKit
import Derived.KernelRfl
namespace Go.Proofs.YtohfpmlofjhigaaDoor
open Go

/-- The low k bits of n, the lowest first. -/
def lowB (n : Nat) : Nat → List Bool
  | 0 => []
  | k + 1 => n.testBit 0 :: lowB (n / 2) k
/-- The low k bits of n, the highest first. -/
def highB (n k : Nat) : List Bool := (lowB n k).reverse
/-- The number that bits tell, the lowest first. -/
def numB : List Bool → Nat
  | [] => 0
  | b :: l => b.toNat + 2 * numB l

@[simp] theorem lowB_length (n k : Nat) : (lowB n k).length = k := by
  induction k generalizing n with
  | zero => rfl
  | succ k ih => simp [lowB, ih]
@[simp] theorem highB_length (n k : Nat) : (highB n k).length = k := by simp [highB]
theorem lowB_get (n k i : Nat) (h : i < k) : (lowB n k)[i]'(by simpa using h) = n.testBit i := by
  induction k generalizing n i with
  | zero => omega
  | succ k ih =>
    match i with
    | 0 => simp [lowB]
    | i + 1 =>
      simp only [lowB, List.getElem_cons_succ]
      rw [ih _ _ (by omega), Nat.testBit_div_two]
theorem lowB_succ (n k : Nat) : lowB n (k + 1) = lowB n k ++ [n.testBit k] := by
  apply List.ext_getElem
  · simp
  · intro i h1 h2
    have h1' : i < k + 1 := by simpa using h1
    rw [lowB_get _ _ _ h1']
    by_cases hi : i < k
    · rw [List.getElem_append_left (by simpa using hi), lowB_get _ _ _ hi]
    · obtain rfl : i = k := by omega
      simp
theorem highB_get (n k i : Nat) (h : i < k) : (highB n k)[i]'(by simpa using h) = n.testBit (k - 1 - i) := by
  unfold highB
  rw [List.getElem_reverse]
  simp only [lowB_length]
  rw [lowB_get _ _ _ (by omega)]
theorem bit_parts (n : Nat) : n = (n.testBit 0).toNat + 2 * (n / 2) := by
  rw [Nat.toNat_testBit]; omega
theorem numB_lowB (n k : Nat) (h : n < 2 ^ k) : numB (lowB n k) = n := by
  induction k generalizing n with
  | zero => simp at h; simp [lowB, numB, h]
  | succ k ih =>
    rw [lowB, numB, ih _ (by rw [Nat.pow_succ] at h; omega)]
    exact (bit_parts n).symm
theorem numB_append (a b : List Bool) : numB (a ++ b) = numB a + 2 ^ a.length * numB b := by
  induction a with
  | nil => simp [numB]
  | cons x a ih =>
    simp only [List.cons_append, numB, ih, List.length_cons, Nat.pow_succ]
    rw [Nat.mul_add, Nat.mul_comm (2 ^ a.length) 2, Nat.mul_assoc]
    omega
theorem numB_lt (a : List Bool) : numB a < 2 ^ a.length := by
  induction a with
  | nil => simp [numB]
  | cons x a ih =>
    simp only [numB, List.length_cons, Nat.pow_succ]
    have : x.toNat ≤ 1 := by cases x <;> simp
    omega
theorem numB_testBit (l : List Bool) (k : Nat) : (numB l).testBit k = l.getD k false := by
  induction l generalizing k with
  | nil => simp [numB]
  | cons b l ih =>
    match k with
    | 0 =>
      simp only [numB, List.getD_cons_zero]
      rw [Nat.testBit_zero]
      cases b <;> simp <;> omega
    | k + 1 =>
      simp only [numB, List.getD_cons_succ]
      rw [Nat.testBit_succ]
      have : (b.toNat + 2 * numB l) / 2 = numB l := by cases b <;> simp <;> omega
      rw [this, ih]
theorem numB_take (l : List Bool) (k : Nat) : numB (l.take k) = numB l % 2 ^ k := by
  by_cases hk : k ≤ l.length
  · have h : l = l.take k ++ l.drop k := (List.take_append_drop k l).symm
    have hl : (l.take k).length = k := by rw [List.length_take]; omega
    conv => rhs; rw [h, numB_append, hl]
    rw [Nat.add_mul_mod_self_left]
    exact (Nat.mod_eq_of_lt (by have := numB_lt (l.take k); rwa [hl] at this)).symm
  · rw [List.take_of_length_le (by omega)]
    refine (Nat.mod_eq_of_lt ?_).symm
    exact Nat.lt_of_lt_of_le (numB_lt l) (Nat.pow_le_pow_right (by omega) (by omega))
theorem numB_noughts (r : Nat) : numB (List.replicate r false) = 0 := by
  induction r with
  | zero => rfl
  | succ r ih => simp [List.replicate_succ, numB, ih]

/-- Byte j of bits. -/
def byteAt (B : List Bool) (j : Nat) : Nat := numB ((B.drop (8 * j)).take 8)
theorem byteAt_lt (B : List Bool) (j : Nat) : byteAt B j < 256 := by
  unfold byteAt
  refine Nat.lt_of_lt_of_le (numB_lt _) ?_
  rw [show (256 : Nat) = 2 ^ 8 by decide]
  exact Nat.pow_le_pow_right (by omega) (by rw [List.length_take]; omega)
/-- The bytes of bits: what is left of the last is 0. -/
def pack (B : List Bool) : List UInt8 := (List.range ((B.length + 7) / 8)).map fun j => UInt8.ofNat (byteAt B j)
@[simp] theorem pack_length (B : List Bool) : (pack B).length = (B.length + 7) / 8 := by simp [pack]
theorem pack_get (B : List Bool) (j : Nat) (h : j < (pack B).length) : (pack B)[j] = UInt8.ofNat (byteAt B j) := by simp [pack]
theorem pack_nil : pack [] = [] := rfl
theorem ofNat_byteAt (B : List Bool) (j : Nat) : (UInt8.ofNat (byteAt B j)).toNat = byteAt B j :=
  UInt8.toNat_ofNat_of_lt' (byteAt_lt B j)
theorem byteAt_left (A C : List Bool) (j : Nat) (h : 8 * j + 8 ≤ A.length) : byteAt (A ++ C) j = byteAt A j := by
  unfold byteAt
  rw [List.drop_append_of_le_length (by omega), List.take_append_of_le_length (by rw [List.length_drop]; omega)]
theorem byteAt_right (A C : List Bool) (m j : Nat) (h : A.length = 8 * m) : byteAt (A ++ C) (m + j) = byteAt C j := by
  unfold byteAt
  rw [List.drop_append, show 8 * (m + j) - A.length = 8 * j by omega, List.drop_eq_nil_of_le (by omega), List.nil_append]
theorem pack_append (A C : List Bool) (h : A.length % 8 = 0) : pack (A ++ C) = pack A ++ pack C := by
  apply List.ext_getElem
  · simp; omega
  · intro j h1 h2
    rw [pack_get]
    by_cases hj : j < (pack A).length
    · rw [List.getElem_append_left hj, pack_get, byteAt_left _ _ _ (by simp at hj; omega)]
    · rw [List.getElem_append_right (by omega), pack_get]
      have h3 : j = A.length / 8 + (j - (pack A).length) := by simp at hj ⊢; omega
      rw [show byteAt (A ++ C) j = byteAt (A ++ C) (A.length / 8 + (j - (pack A).length)) by rw [← h3], byteAt_right _ _ _ _ (by omega)]
theorem pack_bit (B : List Bool) (b : Bool) (h : B.length % 8 = 0) : pack (B ++ [b]) = pack B ++ [UInt8.ofNat b.toNat] := by
  rw [pack_append _ _ h]
  congr 1
  cases b <;> rfl
theorem byteAt_last (B : List Bool) (b : Bool) : byteAt (B ++ [b]) (B.length / 8) = byteAt B (B.length / 8) + b.toNat * 2 ^ (B.length % 8) := by
  unfold byteAt
  rw [List.drop_append_of_le_length (by omega), List.take_of_length_le (by simp; omega), List.take_of_length_le (by simp; omega), numB_append]
  simp only [numB, List.length_drop]
  rw [show B.length - 8 * (B.length / 8) = B.length % 8 by omega]
  simp [Nat.mul_comm]
theorem byteAt_open (B : List Bool) : byteAt B (B.length / 8) < 2 ^ (B.length % 8) := by
  unfold byteAt
  refine Nat.lt_of_lt_of_le (numB_lt _) (Nat.pow_le_pow_right (by omega) ?_)
  rw [List.length_take, List.length_drop]
  omega
/-- A bit more in a byte that is begun. -/
theorem pack_more (B : List Bool) (b : Bool) (_ : B.length % 8 ≠ 0) : pack (B ++ [b]) = (pack B).take (B.length / 8) ++ [UInt8.ofNat (byteAt B (B.length / 8) + b.toNat * 2 ^ (B.length % 8))] := by
  apply List.ext_getElem
  · simp; omega
  · intro j h1 h2
    rw [pack_get]
    have h1' : j < (B.length + 1 + 7) / 8 := by simpa using h1
    by_cases hj : j < B.length / 8
    · rw [List.getElem_append_left (by simp; omega), List.getElem_take, pack_get, byteAt_left _ _ _ (by omega)]
    · obtain rfl : j = B.length / 8 := by omega
      rw [List.getElem_append_right (by simp; omega), byteAt_last]
      simp
theorem pack_pad (B : List Bool) (r : Nat) (h : (B.length + r + 7) / 8 = (B.length + 7) / 8) : pack (B ++ List.replicate r false) = pack B := by
  apply List.ext_getElem
  · simp; omega
  · intro j h1 h2
    rw [pack_get, pack_get]
    congr 1
    unfold byteAt
    rw [List.drop_append, List.take_append, numB_append]
    rw [List.drop_replicate, List.take_replicate, numB_noughts]
    simp
theorem pack_take (B : List Bool) (k : Nat) (hk : k ≤ B.length) (h : k % 8 = 0) : pack (B.take k) = (pack B).take (k / 8) := by
  have hl : (B.take k).length = k := by rw [List.length_take]; omega
  have e : pack B = pack (B.take k) ++ pack (B.drop k) := by rw [← pack_append _ _ (by rw [hl]; exact h), List.take_append_drop]
  have hp : (pack (B.take k)).length = k / 8 := by rw [pack_length, hl]; omega
  rw [e, List.take_append_of_le_length (by omega), ← hp, List.take_length]
theorem pack_take' (B : List Bool) (k : Nat) (hk : k ≤ B.length) (h : k % 8 ≠ 0) : pack (B.take k) = (pack B).take (k / 8) ++ [UInt8.ofNat (byteAt B (k / 8) % 2 ^ (k % 8))] := by
  have hl : (B.take k).length = k := by rw [List.length_take]; omega
  apply List.ext_getElem
  · simp; omega
  · intro j h1 h2
    rw [pack_get]
    have h1' : j < (k + 7) / 8 := by have := h1; rw [pack_length, hl] at this; exact this
    by_cases hj : j < k / 8
    · rw [List.getElem_append_left (by simp; omega), List.getElem_take, pack_get]
      congr 1
      unfold byteAt
      rw [List.drop_take, List.take_take, show min 8 (k - 8 * j) = 8 by omega]
    · obtain rfl : j = k / 8 := by omega
      rw [List.getElem_append_right (by simp; omega)]
      simp only [List.length_take, pack_length, List.getElem_singleton]
      congr 1
      unfold byteAt
      rw [List.drop_take, List.take_take, show min 8 (k - 8 * (k / 8)) = k % 8 by omega, numB_take, numB_take]
      rw [Nat.mod_mod_of_dvd]
      exact Nat.pow_dvd_pow 2 (by omega)

/-- The bits of bytes. -/
def bitsOf (bs : List UInt8) : List Bool := bs.flatMap fun b => lowB b.toNat 8
@[simp] theorem bitsOf_length (bs : List UInt8) : (bitsOf bs).length = 8 * bs.length := by
  induction bs with
  | nil => rfl
  | cons b bs ih =>
    have : bitsOf (b :: bs) = lowB b.toNat 8 ++ bitsOf bs := rfl
    rw [this, List.length_append, ih]
    simp; omega
theorem pack_bitsOf (bs : List UInt8) : pack (bitsOf bs) = bs := by
  induction bs with
  | nil => rfl
  | cons b bs ih =>
    have : bitsOf (b :: bs) = lowB b.toNat 8 ++ bitsOf bs := rfl
    rw [this, pack_append _ _ (by simp), ih]
    have e : pack (lowB b.toNat 8) = [b] := by
      apply List.ext_getElem
      · simp
      · intro j h1 h2
        obtain rfl : j = 0 := by simp at h2; omega
        rw [pack_get]
        unfold byteAt
        rw [List.drop_zero, List.take_of_length_le (by simp), numB_lowB _ _ (by have := b.toNat_lt; simpa using this)]
        simp
    rw [e]
    rfl
theorem pack_bytes (B : List Bool) (bs : List UInt8) (h : B.length % 8 = 0) : pack (B ++ bitsOf bs) = pack B ++ bs := by
  rw [pack_append _ _ h, pack_bitsOf]

/-- Bit i of bytes. -/
def tb (bs : List UInt8) (i : Nat) : Bool := (bs.getD (i / 8) 0).toNat.testBit (i % 8)
theorem tb_pack (B : List Bool) (i : Nat) (h : i < B.length) : tb (pack B) i = B[i] := by
  unfold tb
  have h8 : i / 8 < (pack B).length := by rw [pack_length]; omega
  rw [List.getD_eq_getElem?_getD, List.getElem?_eq_getElem h8, Option.getD_some, pack_get, ofNat_byteAt]
  unfold byteAt
  rw [numB_testBit, List.getD_eq_getElem?_getD, List.getElem?_take_of_lt (by omega), List.getElem?_drop, show 8 * (i / 8) + i % 8 = i by omega, List.getElem?_eq_getElem h]
  rfl
/-- From bit i on the bytes say l. -/
structure Says (bs : List UInt8) (i : Nat) (l : List Bool) : Prop where
  le : i + l.length ≤ 8 * bs.length
  eq : ∀ k (h : k < l.length), tb bs (i + k) = l[k]
theorem Says.pack (A l C : List Bool) : Says (pack (A ++ l ++ C)) A.length l := by
  refine ⟨?_, fun k h => ?_⟩
  · simp; omega
  · rw [tb_pack _ _ (by simp; omega), List.getElem_append_left (by simp; omega), List.getElem_append_right (by omega)]
    simp
theorem Says.left {bs : List UInt8} {i : Nat} {a b : List Bool} (h : Says bs i (a ++ b)) : Says bs i a :=
  ⟨by have := h.le; rw [List.length_append] at this; omega, fun k hk => by rw [h.eq k (by rw [List.length_append]; omega), List.getElem_append_left hk]⟩
theorem Says.right {bs : List UInt8} {i : Nat} {a b : List Bool} (h : Says bs i (a ++ b)) : Says bs (i + a.length) b :=
  ⟨by have := h.le; rw [List.length_append] at this; omega, fun k hk => by
    rw [Nat.add_assoc, h.eq (a.length + k) (by rw [List.length_append]; omega), List.getElem_append_right (by omega)]
    simp⟩
theorem Says.head {bs : List UInt8} {i : Nat} {b : Bool} {l : List Bool} (h : Says bs i (b :: l)) : tb bs i = b := h.eq 0 (by simp)
theorem Says.tail {bs : List UInt8} {i : Nat} {b : Bool} {l : List Bool} (h : Says bs i (b :: l)) : Says bs (i + 1) l := Says.right (a := [b]) h
theorem Says.lt {bs : List UInt8} {i : Nat} {b : Bool} {l : List Bool} (h : Says bs i (b :: l)) : i < 8 * bs.length := by have := h.le; simp at this; omega
end Go.Proofs.YtohfpmlofjhigaaDoor
