/-
  flate: fixedWord, lengthPlace, distancePlace.
-/
import Derived.Test.YtohfpmlofjhigaaDoorWri
namespace Go.Proofs.YtohfpmlofjhigaaDoor
open Go Go.RowKit Go.Extern.Stop Go.Stop Go.Extern

theorem ret_pair {a b c d : Int} (h1 : a = c) (h2 : b = d) : Ending.returned (.tuple #[.int .i64 a, .int .i64 b]) = .returned (.tuple #[.int .i64 c, .int .i64 d]) := by rw [h1, h2]
theorem ret_i64 {a b : Int} (h : a = b) : Ending.returned (.int .i64 a) = .returned (.int .i64 b) := by rw [h]

theorem fixedWord_any (v : Nat) (w : World) (h : v < 288) :
    Calls Tryd.prog 52 #[.int .i64 v] w fun e w' => e = .returned (.tuple #[.int .i64 (fixW v).1, .int .i64 (fixW v).2]) ∧ w' = w := by
  by_cases h1 : v < 144
  · have e : fixW v = (48 + v, 8) := by unfold fixW; rw [if_pos h1]
    have t1 : ((v : Int) < 144) = True := by simp; omega
    have HH : Hid (v < 288) := h
    rw [e]
    clear h h1
    go_enter Tryd.func52, Tryd.ntmps52
    go_wp2
    go_ret2
    exact ⟨ret_pair (by have := HH.out; unfold wrap64; push_cast; omega) rfl, rfl⟩
  · by_cases h2 : v < 256
    · have e : fixW v = (400 + v - 144, 9) := by unfold fixW; rw [if_neg h1, if_pos h2]
      have t1 : ((v : Int) < 144) = False := by simp; omega
      have t2 : ((v : Int) < 256) = True := by simp; omega
      have HH : Hid (v < 288) := h
      rw [e]
      clear h h1 h2
      go_enter Tryd.func52, Tryd.ntmps52
      go_wp2
      go_ret2
      exact ⟨ret_pair (by have := HH.out; unfold wrap64; omega) rfl, rfl⟩
    · by_cases h3 : v < 280
      · have e : fixW v = (v - 256, 7) := by unfold fixW; rw [if_neg h1, if_neg h2, if_pos h3]
        have t1 : ((v : Int) < 144) = False := by simp; omega
        have t2 : ((v : Int) < 256) = False := by simp; omega
        have t3 : ((v : Int) < 280) = True := by simp; omega
        have HH : Hid (256 ≤ v ∧ v < 288) := by show _ ∧ _; omega
        rw [e]
        clear h h1 h2 h3
        go_enter Tryd.func52, Tryd.ntmps52
        go_wp2
        go_ret2
        exact ⟨ret_pair (by have := HH.out; unfold wrap64; omega) rfl, rfl⟩
      · have e : fixW v = (192 + v - 280, 8) := by unfold fixW; rw [if_neg h1, if_neg h2, if_neg h3]
        have t1 : ((v : Int) < 144) = False := by simp; omega
        have t2 : ((v : Int) < 256) = False := by simp; omega
        have t3 : ((v : Int) < 280) = False := by simp; omega
        have HH : Hid (280 ≤ v ∧ v < 288) := by show _ ∧ _; omega
        rw [e]
        clear h h1 h2 h3
        go_enter Tryd.func52, Tryd.ntmps52
        go_wp2
        go_ret2
        exact ⟨ret_pair (by have := HH.out; unfold wrap64; omega) rfl, rfl⟩

/-- Spans as they lie in memory. -/
def SpAt (w : World) (g : Nat) (l : List (Nat × Nat)) : Prop := ∀ p, p < l.length → w.cell? ⟨g, p * 2, none⟩ = some (.int .i64 (spF l p)) ∧ w.cell? ⟨g, p * 2 + 1, none⟩ = some (.int .i64 (spB l p))
theorem down_step (l : List (Nat × Nat)) (x p q : Nat) (h : down l x p = q) (hlt : q ≤ p) : (x < spF l p ∧ 0 < p → down l x (p - 1) = q) := by
  intro ⟨h1, h2⟩
  obtain ⟨p', rfl⟩ : ∃ p', p = p' + 1 := ⟨p - 1, by omega⟩
  rw [down, if_pos h1] at h
  exact h

set_option maxRecDepth 4000 in
set_option maxHeartbeats 1000000 in
theorem lengthPlace_any (x : Nat) (w : World) (hx : 3 ≤ x) (hS : SpAt w 20 lenF) :
    Calls Tryd.prog 53 #[.int .i64 x] w fun e w' => e = .returned (.int .i64 (lenP x)) ∧ w' = w := by
  go_enter Tryd.func53, Tryd.ntmps53
  go_wp2
  go_loop [3] (fun pl => ∃ (p : Nat), p ≤ 28 ∧ pl = .int .i64 p ∧ down lenF x p = lenP x) (fun pl => (intOf pl).toNat)
  case atStart => exact ⟨28, by omega, rfl, rfl⟩
  case round =>
    obtain ⟨p, hp, rfl, hd⟩ := hrel
    have hc := (hS p (by show p < 29; omega)).1
    by_cases hlt : x < spF lenF p
    · have hp0 : 0 < p := by
        rcases Nat.eq_zero_or_pos p with rfl | h
        · have : spF lenF 0 = 3 := rfl
          omega
        · exact h
      have hd' := down_step lenF x p _ hd (by rw [← hd]; exact down_le _ _ _) ⟨hlt, hp0⟩
      have HP0 : Hid (0 < p) := hp0
      have t : ((x : Int) < (spF lenF p : Int)) = True := by simp; omega
      have t' : ((spF lenF p : Int) > (x : Int)) = True := by simp; omega
      obtain ⟨p', rfl⟩ : ∃ p', p = p' + 1 := ⟨p - 1, by omega⟩
      generalize spF lenF (p' + 1) = f at *
      clear hlt hp0
      go_wp2
      go_round
      case rel => exact ⟨p', by omega, by go_num, hd'⟩
      case measure => simp [intOf]
    · have t : ((x : Int) < (spF lenF p : Int)) = False := by simp; omega
      have t' : ((spF lenF p : Int) > (x : Int)) = False := by simp; omega
      have HE : Hid (lenP x = p) := by
        show _ = _
        rw [← hd]
        match p, hlt with
        | 0, _ => rfl
        | q + 1, h => rw [down, if_neg h]
      generalize spF lenF p = f at *
      clear hlt hd
      go_wp2
      go_ret
      exact ⟨by rw [HE.out]; rfl, rfl⟩

set_option maxRecDepth 4000 in
set_option maxHeartbeats 1000000 in
theorem distancePlace_any (x : Nat) (w : World) (hx : 1 ≤ x) (hS : SpAt w 21 disF) :
    Calls Tryd.prog 54 #[.int .i64 x] w fun e w' => e = .returned (.int .i64 (disP x)) ∧ w' = w := by
  go_enter Tryd.func54, Tryd.ntmps54
  go_wp2
  go_loop [3] (fun pl => ∃ (p : Nat), p ≤ 29 ∧ pl = .int .i64 p ∧ down disF x p = disP x) (fun pl => (intOf pl).toNat)
  case atStart => exact ⟨29, by omega, rfl, rfl⟩
  case round =>
    obtain ⟨p, hp, rfl, hd⟩ := hrel
    have hc := (hS p (by show p < 30; omega)).1
    by_cases hlt : x < spF disF p
    · have hp0 : 0 < p := by
        rcases Nat.eq_zero_or_pos p with rfl | h
        · have : spF disF 0 = 1 := rfl
          omega
        · exact h
      have hd' := down_step disF x p _ hd (by rw [← hd]; exact down_le _ _ _) ⟨hlt, hp0⟩
      have t : ((x : Int) < (spF disF p : Int)) = True := by simp; omega
      obtain ⟨p', rfl⟩ : ∃ p', p = p' + 1 := ⟨p - 1, by omega⟩
      generalize spF disF (p' + 1) = f at *
      clear hlt hp0
      go_wp2
      go_round
      case rel => exact ⟨p', by omega, by go_num, hd'⟩
      case measure => simp [intOf]
    · have t : ((x : Int) < (spF disF p : Int)) = False := by simp; omega
      have HE : Hid (disP x = p) := by
        show _ = _
        rw [← hd]
        match p, hlt with
        | 0, _ => rfl
        | q + 1, h => rw [down, if_neg h]
      generalize spF disF p = f at *
      clear hlt hd
      go_wp2
      go_ret
      exact ⟨by rw [HE.out]; rfl, rfl⟩
end Go.Proofs.YtohfpmlofjhigaaDoor
