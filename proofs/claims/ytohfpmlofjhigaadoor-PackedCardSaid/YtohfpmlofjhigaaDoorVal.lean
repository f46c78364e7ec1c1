/-
  flate: value, head, repeat.
-/
import Derived.Test.YtohfpmlofjhigaaDoorWriN
import Derived.Test.YtohfpmlofjhigaaDoorPlc
namespace Go.Proofs.YtohfpmlofjhigaaDoor
open Go Go.RowKit Go.Extern.Stop Go.Stop Go.Extern

theorem Wr.drew {w : World} {db : Nat} {B : List Bool} (h : Wr w db B) : Wr w.drew db B := by
  obtain ⟨⟨v, c0, hr, hb⟩, c1, f0, f1⟩ := h
  exact ⟨⟨v, c0, hr.drew, hb⟩, c1, f0, f1⟩
theorem fixW_lt (v : Nat) (h : v < 288) : (fixW v).1 < 512 := by unfold fixW; split <;> (try split) <;> (try split) <;> simp <;> omega

set_option maxRecDepth 8000 in
set_option maxHeartbeats 1000000 in
theorem value_any (db : Nat) (B : List Bool) (v : Nat) (w : World) (hv : v < 288) (hN : B.length ≤ 70368744177000) (hW : Wr w db B) :
    Calls Tryd.prog 31 #[.pointer (some ⟨db, 0, none⟩), .int .i64 v] w fun e w' => e = .returned (.tuple #[]) ∧ Wr w' db (B ++ valB v) ∧ Kp db 0 w w' := by
  have hfw := fun w1 => fixedWord_any v w1 hv
  have h1 := fixW_lt v hv
  have h2 := (fixW_bits v).1
  have hwd := fun w1 (h : Wr w1 db B) => word_any db B (fixW v).1 (fixW v).2 w1 (by omega) (by omega) (by omega) h
  have hvb : valB v = highB (fixW v).1 (fixW v).2 := rfl
  rw [← hvb] at hwd
  clear hvb h1 h2 hN hv
  generalize (fixW v).1 = a at *
  generalize (fixW v).2 = b at *
  go_enter Tryd.func31, Tryd.ntmps31
  go_wp2
  have hWd : Wr w.drew db B := hW.drew
  go_region_with (first
    | (go_at_call 52; refine (hfw _).mono ?_; rintro e w1 ⟨rfl, rfl⟩)
    | (go_at_call 51; refine (hwd _ hWd).mono ?_; rintro e w2 ⟨rfl, hw2, hk2⟩))
  go_end0
  exact ⟨rfl, hw2, (Kp.drew _ _ _).trans hk2⟩

/-- .. with numbers as they stand in the code. -/
theorem number_eq (db : Nat) (B : List Bool) (n k : Nat) (x y : Int) (w : World) (hx : x = n) (hy : y = k) (hN : B.length + k ≤ 70368744177664) (hn : n < 9223372036854775808) (hk : k ≤ 16) (hW : Wr w db B) :
    Calls Tryd.prog 29 #[.pointer (some ⟨db, 0, none⟩), .int .i64 x, .int .i64 y] w fun e w' => e = .returned (.tuple #[]) ∧ Wr w' db (B ++ lowB n k) ∧ Kp db 0 w w' := by
  subst hx hy
  exact number_any db B n k w hN hn hk hW
theorem word_eq (db : Nat) (B : List Bool) (n k : Nat) (x y : Int) (w : World) (hx : x = n) (hy : y = k) (hN : B.length + k ≤ 70368744177664) (hn : n < 9223372036854775808) (hk : k ≤ 16) (hW : Wr w db B) :
    Calls Tryd.prog 51 #[.pointer (some ⟨db, 0, none⟩), .int .i64 x, .int .i64 y] w fun e w' => e = .returned (.tuple #[]) ∧ Wr w' db (B ++ highB n k) ∧ Kp db 0 w w' := by
  subst hx hy
  exact word_any db B n k w hN hn hk hW
theorem lowB_one : lowB 1 1 = [true] := rfl
theorem lowB_nought : lowB 0 1 = [false] := rfl

set_option maxRecDepth 8000 in
set_option maxHeartbeats 1000000 in
theorem head_any (db : Nat) (B : List Bool) (t : ByteArray) (kind to : Nat) (w : World) (hk : kind < 4) (hN : B.length ≤ 70368744177000) (hW : Wr w db B) (c2 : w.cell? ⟨db, 2, none⟩ = some (.string t)) :
    Calls Tryd.prog 16 #[.pointer (some ⟨db, 0, none⟩), .int .i64 kind, .int .i64 to] w fun e w' => e = .returned (.tuple #[]) ∧ Wr w' db (B ++ decide (to = t.size) :: lowB kind 2) ∧ Kp db 0 w w' := by
  have hn2 := fun (b : Bool) w1 (h : Wr w1 db (B ++ [b])) => number_eq db (B ++ [b]) kind 2 kind 2 w1 rfl rfl (by simp; omega) (by omega) (by omega) h
  by_cases he : to = t.size
  · have hn1 := number_eq db B 1 1 1 1 w rfl rfl (by omega) (by omega) (by omega) hW
    have hd : decide (to = t.size) = true := by simpa using he
    have hi : ((to : Int) == (t.size : Int)) = true := by simp; omega
    rw [hd, show B ++ true :: lowB kind 2 = (B ++ [true]) ++ lowB kind 2 by simp]
    rw [lowB_one] at hn1
    clear he hN hk hd
    go_enter Tryd.func16, Tryd.ntmps16
    go_wp2_with (first
      | (go_at_call 29; refine (hn2 true _ hw1).mono ?_; rintro e w2 ⟨rfl, hw2, hk2⟩)
      | (go_at_call 29; refine hn1.mono ?_; rintro e w1 ⟨rfl, hw1, hk1⟩))
    go_end0
    exact ⟨rfl, hw2, hk1.trans hk2⟩
  · have hn1 := number_eq db B 0 1 0 1 w rfl rfl (by omega) (by omega) (by omega) hW
    have hd : decide (to = t.size) = false := by simpa using he
    have hi : ((to : Int) == (t.size : Int)) = false := by simp; omega
    rw [hd, show B ++ false :: lowB kind 2 = (B ++ [false]) ++ lowB kind 2 by simp]
    rw [lowB_nought] at hn1
    clear he hN hk hd
    go_enter Tryd.func16, Tryd.ntmps16
    go_wp2_with (first
      | (go_at_call 29; refine (hn2 false _ hw1).mono ?_; rintro e w2 ⟨rfl, hw2, hk2⟩)
      | (go_at_call 29; refine hn1.mono ?_; rintro e w1 ⟨rfl, hw1, hk1⟩))
    go_end0
    exact ⟨rfl, hw2, hk1.trans hk2⟩

end Go.Proofs.YtohfpmlofjhigaaDoor
