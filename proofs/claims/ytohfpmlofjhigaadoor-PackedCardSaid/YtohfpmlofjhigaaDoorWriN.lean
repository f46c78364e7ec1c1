/-
  flate: (*bitWriter).number, word, toByte.
-/
import Derived.Test.YtohfpmlofjhigaaDoorWriA
import Derived.Test.YtohfpmlofjhigaaDoorWriB
namespace Go.Proofs.YtohfpmlofjhigaaDoor
open Go Go.RowKit Go.Extern.Stop Go.Stop Go.Extern

theorem bit_any (db : Nat) (B : List Bool) (b : Bool) (x : Int) (w : World) (hx : x = b.toNat) (hN : B.length ≤ 70368744177664) (hW : Wr w db B) :
    Calls Tryd.prog 47 #[.pointer (some ⟨db, 0, none⟩), .int .i64 x] w fun e w' => e = .returned (.tuple #[]) ∧ Wr w' db (B ++ [b]) ∧ Kp db 0 w w' := by
  subst hx
  by_cases h8 : B.length % 8 = 0
  · exact bit_new db B b w hN hW h8
  · exact bit_more db B b w hN hW h8
theorem shr_bit (n i : Nat) (hn : n < 9223372036854775808) : Go.bits .and .i64 ((n : Int) / 2 ^ i) 1 = ((n.testBit i).toNat : Int) := by
  have e : (n : Int) / 2 ^ i = ((n / 2 ^ i : Nat) : Int) := by push_cast; rfl
  have hle : n / 2 ^ i ≤ n := Nat.div_le_self _ _
  rw [e, Nat.toNat_testBit]
  generalize n / 2 ^ i = q at *
  show IntKind.i64.wrap ((BitVec.ofInt 64 (q : Int) &&& BitVec.ofInt 64 1).toNat : Int) = _
  have h1 : BitVec.ofInt 64 1 = 1#64 := by decide
  rw [h1, BitVec.toNat_and]
  have h2 : (BitVec.ofInt 64 (q : Int)).toNat = q := by
    simp
    omega
  rw [h2]
  simp [Nat.and_one_is_mod, IntKind.wrap, IntKind.bits, IntKind.signed]
  omega

set_option maxRecDepth 4000 in
set_option maxHeartbeats 1000000 in
theorem number_any (db : Nat) (B : List Bool) (n k : Nat) (w : World) (hN : B.length + k ≤ 70368744177664) (hn : n < 9223372036854775808) (hk : k ≤ 16) (hW : Wr w db B) :
    Calls Tryd.prog 29 #[.pointer (some ⟨db, 0, none⟩), .int .i64 n, .int .i64 k] w fun e w' => e = .returned (.tuple #[]) ∧ Wr w' db (B ++ lowB n k) ∧ Kp db 0 w w' := by
  have HN : Hid (B.length + k ≤ 70368744177664) := hN
  have HNN : Hid (n < 9223372036854775808) := hn
  clear hN hn
  go_enter Tryd.func29, Tryd.ntmps29
  go_wp2
  go_loopw [8] (fun cnt wr => ∃ (j : Nat), j ≤ k ∧ cnt = .int .i64 j ∧ Wr wr db (B ++ lowB n j) ∧ Kp db 0 w wr) (fun cnt _ => k - (intOf cnt).toNat)
  case atStart => exact ⟨0, Nat.zero_le _, rfl, by simpa [lowB] using hW, Kp.refl _ _ _⟩
  case round =>
    obtain ⟨j, hj, rfl, hwr, hkp⟩ := hrel
    by_cases hlt : j < k
    · have hbit := fun x (hx : x = ((n.testBit j).toNat : Int)) => bit_any db (B ++ lowB n j) (n.testBit j) x wr hx (by have := HN.out; simp; omega) hwr
      rw [List.append_assoc, ← lowB_succ] at hbit
      go_wp2_with (go_at_call 47; refine (hbit _ (by have := shr_bit n j HNN.out; simpa using this)).mono ?_; rintro e w1 ⟨rfl, hw1, hk1⟩)
      go_roundw
      case rel => exact ⟨j + 1, by omega, by go_num, hw1, hkp.trans hk1⟩
      case measure => simp [intOf]; omega
    · obtain rfl : j = k := by omega
      go_wp2
      go_end0
      exact ⟨rfl, hwr, hkp⟩
theorem highB_take (n k j : Nat) (h : j < k) : (highB n k).take (j + 1) = (highB n k).take j ++ [n.testBit (k - 1 - j)] := by
  rw [← highB_get n k j h, List.take_append_getElem]

set_option maxRecDepth 4000 in
set_option maxHeartbeats 1000000 in
theorem word_any (db : Nat) (B : List Bool) (n k : Nat) (w : World) (hN : B.length + k ≤ 70368744177664) (hn : n < 9223372036854775808) (hk : k ≤ 16) (hW : Wr w db B) :
    Calls Tryd.prog 51 #[.pointer (some ⟨db, 0, none⟩), .int .i64 n, .int .i64 k] w fun e w' => e = .returned (.tuple #[]) ∧ Wr w' db (B ++ highB n k) ∧ Kp db 0 w w' := by
  have HN : Hid (B.length + k ≤ 70368744177664) := hN
  have HNN : Hid (n < 9223372036854775808) := hn
  clear hN hn
  go_enter Tryd.func51, Tryd.ntmps51
  go_wp2
  go_loopw [8] (fun cnt wr => ∃ (j : Nat), j ≤ k ∧ cnt = .int .i64 j ∧ Wr wr db (B ++ (highB n k).take j) ∧ Kp db 0 w wr) (fun cnt _ => k - (intOf cnt).toNat)
  case atStart => exact ⟨0, Nat.zero_le _, rfl, by simpa using hW, Kp.refl _ _ _⟩
  case round =>
    obtain ⟨j, hj, rfl, hwr, hkp⟩ := hrel
    by_cases hlt : j < k
    · have hbit := fun x (hx : x = ((n.testBit (k - 1 - j)).toNat : Int)) => bit_any db (B ++ (highB n k).take j) (n.testBit (k - 1 - j)) x wr hx (by have := HN.out; simp; omega) hwr
      rw [List.append_assoc, ← highB_take n k j hlt] at hbit
      have hsh : (k : Int) - 1 - j = ((k - 1 - j : Nat) : Int) := by omega
      have hw1 : wrap64 (wrap64 ((k : Int) - 1) - (j : Int)) = ((k - 1 - j : Nat) : Int) := by unfold wrap64; omega
      have hw2 : wrap64 ((k : Int) - 1 - (j : Int)) = ((k - 1 - j : Nat) : Int) := by unfold wrap64; omega
      have hw3 : wrap64 ((k : Int) - 1) = (k : Int) - 1 := by unfold wrap64; omega
      have hsm : ((k - 1 - j : Nat) : Int) < 64 := by omega
      have HLT : Hid (j < k) := hlt
      go_wp2_with (go_at_call 47; refine (hbit _ (by have := shr_bit n (k - 1 - j) HNN.out; simpa [hsh] using this)).mono ?_; rintro e w1 ⟨rfl, hw1, hk1⟩)
      go_roundw
      case rel => exact ⟨j + 1, by omega, by go_num, hw1, hkp.trans hk1⟩
      case measure => simp [intOf]; omega
    · obtain rfl : j = k := by omega
      go_wp2
      go_end0
      exact ⟨rfl, by rwa [List.take_of_length_le (by simp)] at hwr, hkp⟩

set_option maxRecDepth 4000 in
theorem toByte_any (db : Nat) (B : List Bool) (w : World) (hN : B.length ≤ 70368744177664) (hW : Wr w db B) :
    Calls Tryd.prog 34 #[.pointer (some ⟨db, 0, none⟩)] w fun e w' => e = .returned (.tuple #[]) ∧ Wr w' db (B ++ List.replicate ((B.length + 7) / 8 * 8 - B.length) false) ∧ Kp db 0 w w' := by
  obtain ⟨⟨v, k0, hrow, hbd⟩, k1, kz, kf⟩ := hW
  have hpl : (pack B).length = (B.length + 7) / 8 := pack_length B
  have HPL : Hid ((pack B).length * 8 = (B.length + 7) / 8 * 8) := by show _ = _; rw [hpl]
  have HROW : Hid (Bytes w v (pack B)) := hrow
  obtain ⟨a, c, hv⟩ := hrow.shape
  subst hv
  have hwm : wrap64 (((pack B).length : Int) * 8) = ((pack B).length : Int) * 8 := by unfold wrap64; omega
  clear hpl hN hrow
  generalize hm : (pack B).length = m at *
  go_enter Tryd.func34, Tryd.ntmps34
  go_wp2
  go_end0
  have hp : pack (B ++ List.replicate ((B.length + 7) / 8 * 8 - B.length) false) = pack B := pack_pad _ _ (by omega)
  refine ⟨rfl, ⟨⟨_, (World.cell?_setCell_other _ _ _ _ (by simp)).trans k0, ?_, hbd⟩, ?_, by rw [World.frozen?_setCell]; exact kz, by rw [World.frozen?_setCell]; exact kf⟩, Kp.set1 _ _ _ _ (by decide)⟩
  · rw [hp]
    have hb := HROW.out
    refine Row.carry hb (fun i hi => Below.heap_setCell w ⟨db, 1, none⟩ _ i (fun e => hbd (by rw [hi]; exact congrArg some e)))
  · rw [World.cell?_setCell_same _ _ _ k1]
    have := HPL.out
    simp only [List.length_append, List.length_replicate]
    congr 2
    omega
end Go.Proofs.YtohfpmlofjhigaaDoor
