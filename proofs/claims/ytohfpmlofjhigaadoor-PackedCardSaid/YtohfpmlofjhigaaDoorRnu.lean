/-
  flate: bitReader's number, toByte, isAtEnd.
-/
import Derived.Test.YtohfpmlofjhigaaDoorStp
import Derived.Laws.BitsAllLaws
namespace Go.Proofs.YtohfpmlofjhigaaDoor
open Go Go.RowKit Go.Extern.Stop Go.Stop Go.Extern

theorem i64_or_low (a k : Nat) (b : Bool) (ha : a < 2 ^ k) (hk : k < 32) : Go.bits .or .i64 (a : Int) (wrap64 ((b.toNat : Int) * 2 ^ k)) = ((a + 2 ^ k * b.toNat : Nat) : Int) := by
  have hp : 2 ^ k ≤ 4294967296 := Nat.le_trans (Nat.pow_le_pow_right (by omega) (show k ≤ 32 by omega)) (by decide)
  have hb : b.toNat * 2 ^ k ≤ 4294967296 := by cases b <;> simp <;> omega
  have e1 : (b.toNat : Int) * 2 ^ k = ((b.toNat * 2 ^ k : Nat) : Int) := by push_cast; rfl
  have e2 : wrap64 ((b.toNat * 2 ^ k : Nat) : Int) = ((b.toNat * 2 ^ k : Nat) : Int) := by unfold wrap64; omega
  rw [e1, e2, Nat.mul_comm (2 ^ k)]
  have h := Nat.shiftLeft_add_eq_or_of_lt (i := k) (b := a) ha b.toNat
  rw [Nat.shiftLeft_eq] at h
  generalize b.toNat * 2 ^ k = q at *
  show IntKind.i64.wrap ((BitVec.ofInt 64 (a : Int) ||| BitVec.ofInt 64 (q : Int)).toNat : Int) = _
  have h1 : ∀ x : Nat, x ≤ 4294967296 → (BitVec.ofInt 64 (x : Int)).toNat = x := fun x hx => by
    simp
    omega
  rw [BitVec.toNat_or, h1 a (by omega), h1 q hb, Nat.or_comm, ← h, IntKind.wrap_i64]
  omega
theorem numB_more (l : List Bool) (j : Nat) (h : j < l.length) : numB (l.take (j + 1)) = numB (l.take j) + 2 ^ j * l[j].toNat := by
  rw [List.take_add_one, List.getElem?_eq_getElem h, numB_append]
  have : (l.take j).length = j := by rw [List.length_take]; omega
  rw [this]
  simp [numB]
theorem numB_take_lt (l : List Bool) (j : Nat) : numB (l.take j) < 2 ^ j := Nat.lt_of_lt_of_le (numB_lt _) (Nat.pow_le_pow_right (by omega) (by rw [List.length_take]; omega))
theorem bit_in {i j k z : Nat} (h : j < k) (h2 : i + k ≤ 8 * z) : i + j < 8 * z := by omega
theorem FErr.kr {w w' : World} {rb : Nat} {cap : Value} (h : FErr w cap) (hrb : 32 ≤ rb) (k : Kr rb w w') : FErr w' cap := by
  have hc : ∀ g x, g < 32 → w.cell? ⟨g, 0, none⟩ = some x → w'.cell? ⟨g, 0, none⟩ = some x := fun g x hg hx => k.cell (by omega) hx
  obtain ⟨⟨v1, e1, h1⟩, ⟨v2, h2⟩, ⟨v3, h3⟩, ⟨v4, h4⟩, ⟨v5, h5⟩, ⟨v6, h6⟩⟩ := h
  exact ⟨⟨v1, e1, hc _ _ (by decide) h1⟩, ⟨v2, hc _ _ (by decide) h2⟩, ⟨v3, hc _ _ (by decide) h3⟩, ⟨v4, hc _ _ (by decide) h4⟩, ⟨v5, hc _ _ (by decide) h5⟩, ⟨v6, hc _ _ (by decide) h6⟩⟩

set_option maxRecDepth 8000 in
set_option maxHeartbeats 1000000 in
theorem rnumber_any (rb : Nat) (p : ByteArray) (i : Nat) (l : List Bool) (y : Int) (cap : Value) (w : World) (hrb : 32 ≤ rb) (hy : y = l.length) (hl : l.length ≤ 16) (hE : FErr w cap) (hR : Rd w rb p i) (hS : Says p.data.toList i l) (hz : p.size ≤ 70368744177000) :
    Calls Tryd.prog 38 #[.pointer (some ⟨rb, 0, none⟩), .int .i64 y] w fun e w' => e = .returned (.int .i64 (numB l : Nat)) ∧ Rd w' rb p (i + l.length) ∧ Kr rb w w' := by
  have HZ : Hid (p.size ≤ 70368744177000) := hz
  have HS : Hid (Says p.data.toList i l) := hS
  have HE : Hid (∀ w', Kr rb w w' → FErr w' cap) := fun w' k => hE.kr hrb k
  have hpd : p.data.toList.length = p.size := by simp
  have HLE : Hid (i + l.length ≤ 8 * p.size) := by have := hS.le; rw [hpd] at this; exact this
  subst hy
  clear hS hE hz hrb hpd
  generalize hk : l.length = k at *
  go_enter Tryd.func38, Tryd.ntmps38
  go_wp2
  go_loopw [5, 8] (fun n cnt wr => ∃ (j : Nat), j ≤ k ∧ cnt = .int .i64 j ∧ n = .int .i64 (numB (l.take j) : Nat) ∧ Rd wr rb p (i + j) ∧ Kr rb w wr) (fun _ cnt _ => k - (intOf cnt).toNat)
  case atStart => exact ⟨0, Nat.zero_le _, rfl, rfl, hR, Kr.refl _ _⟩
  case round =>
    obtain ⟨j, hj, rfl, rfl, hrd, hkp⟩ := hrel
    by_cases hlt : j < k
    · have hjl : j < l.length := by rw [hk]; exact hlt
      have hbit := rbit_any rb p (i + j) cap wr (HE.out wr hkp) hrd (bit_in hlt HLE.out) HZ.out
      rw [HS.out.eq j hjl] at hbit
      have hor := i64_or_low (numB (l.take j)) j l[j] (numB_take_lt l j) (Nat.lt_of_lt_of_le hlt (Nat.le_trans hl (by decide)))
      rw [← numB_more l j hjl] at hor
      have HOR : Hid (Go.bits .or .i64 (numB (l.take j) : Int) (wrap64 ((l[j].toNat : Int) * 2 ^ j)) = ((numB (l.take (j + 1)) : Nat) : Int)) := hor
      have HJ : Hid (k - (j + 1) < k - j ∧ j + 1 ≤ k) := ⟨by omega, hlt⟩
      clear hor
      generalize l[j] = b at *
      clear hjl
      go_wp2_with (go_at_call 37; refine hbit.mono ?_; rintro e w1 ⟨rfl, hrd1, hk1⟩)
      go_roundw
      case rel => exact ⟨j + 1, HJ.out.2, by go_num, by rw [HOR.out], hrd1, hkp.trans hk1⟩
      case measure => simp only [intOf]; exact HJ.out.1
    · obtain rfl : j = k := by omega
      have HT : Hid (l.take j = l) := by show l.take j = l; rw [← hk]; exact List.take_length
      go_wp2
      go_ret
      exact ⟨by rw [HT.out]; rfl, hrd, hkp⟩

set_option maxRecDepth 8000 in
set_option maxHeartbeats 1000000 in
theorem rtoByte_any (rb : Nat) (p : ByteArray) (i : Nat) (w : World) (hR : Rd w rb p i) (hi : i ≤ 70368744177000) :
    Calls Tryd.prog 56 #[.pointer (some ⟨rb, 0, none⟩)] w fun e w' => e = .returned (.tuple #[]) ∧ Rd w' rb p ((i + 7) / 8 * 8) ∧ Kr rb w w' := by
  have hwb := wholeBytes_any i w (by omega)
  have HR : Hid (Rd w rb p i) := hR
  obtain ⟨c0, c1, f1⟩ := hR
  have hw : wrap64 (((i + 7) / 8 : Nat) * 8 : Int) = (((i + 7) / 8 * 8 : Nat) : Int) := by unfold wrap64; omega
  have hwk : ((((i + 7) / 8 : Nat) : Int) * 8) = (((i + 7) / 8 * 8 : Nat) : Int) := by omega
  have HW : Hid (∀ w : World, Rd w rb p i → Rd (w.setCell ⟨rb, 1, none⟩ (.int .i64 ((((i + 7) / 8 : Nat) : Int) * 8))) rb p ((i + 7) / 8 * 8)) := fun w h => by rw [hwk]; exact Rd.set _ _ _ _ _ h
  have hle : (i + 7) / 8 ≤ 70368744177000 := by omega
  clear hi hw hwk
  generalize (i + 7) / 8 = m at *
  go_enter Tryd.func56, Tryd.ntmps56
  go_wp2_with (go_at_call 18; refine hwb.mono ?_; rintro e w1 ⟨rfl, rfl⟩)
  go_end0
  exact ⟨rfl, HW.out _ HR.out, Kr.set1 _ _ _⟩

set_option maxRecDepth 8000 in
set_option maxHeartbeats 1000000 in
theorem isAtEnd_yes (rb : Nat) (p : ByteArray) (i : Nat) (w : World) (hR : Rd w rb p i) (hi : i ≤ 70368744177000) (he : (i + 7) / 8 = p.size) :
    Calls Tryd.prog 44 #[.pointer (some ⟨rb, 0, none⟩)] w fun e w' => e = .returned (.bool true) ∧ ∃ n, w' = w.drewN n := by
  have hwb := fun w => wholeBytes_any i w (by omega)
  rw [he] at hwb
  obtain ⟨c0, c1, f1⟩ := hR
  clear hi he
  go_enter Tryd.func44, Tryd.ntmps44
  go_wp2
  go_quiet ((go_at_call 18; exact Calls.quiet_of_same (hwb _)))
  go_wp2
  go_ret
  exact ⟨rfl, _, rfl⟩
end Go.Proofs.YtohfpmlofjhigaaDoor
