/-
  avrokeep: small, pick (laid by a template over this cut).
-/
import Derived.Test.YtohfpmlofjhigaaDoorProg
import Derived.WalkKit
import Derived.LoopTactic
import Derived.Deep.QuietTactic
import Derived.BigQuiet
namespace Go.Proofs.YtohfpmlofjhigaaDoor
open Go.RowKit Go.Extern.Stop Go.Stop Go.Extern

/-- The letters of the first k steps. -/
def letters (S : Nat → ByteArray) : Nat → Nat
  | 0 => 0
  | k + 1 => letters S k + (S k).size
theorem letters_mono (S : Nat → ByteArray) {a b : Nat} (h : a ≤ b) : letters S a ≤ letters S b := by
  induction h with
  | refl => exact Nat.le_refl _
  | step _ ih => exact Nat.le_trans ih (Nat.le_add_right _ _)
/-- Is a script small? -/
def smallB (n : Nat) (S : Nat → ByteArray) : Bool := decide (n + letters S n ≤ 262144)

theorem ret_int {k : IntKind} {a b : Int} (h : a = b) : Ending.returned (.int k a) = .returned (.int k b) := by rw [h]
theorem pick_any (c n : Int) (w : World) (hc : -9223372036854775808 ≤ c) (hc2 : c ≤ 9223372036854775807) (h0 : 0 < n) (h1 : n ≤ 1000000000) :
    Calls Tryd.prog 5 #[.int .i64 c, .int .i64 n] w fun e w' => e = .returned (.int .i64 ((if c < 0 then -(c + 1) else c) % n)) ∧ w' = w := by
  by_cases h : c < 0
  · go_enter Tryd.func5, Tryd.ntmps5
    go_wp2
    go_ret
    exact ⟨ret_int (by rw [← Int.neg_tmod, Int.tmod_eq_emod_of_nonneg (by omega)]), rfl⟩
  · have h' : 0 ≤ c := by omega
    go_enter Tryd.func5, Tryd.ntmps5
    go_wp2
    go_ret
    exact ⟨ret_int rfl, rfl⟩

set_option maxHeartbeats 1000000 in
theorem small_any (sb so n cap : Nat) (S : Nat → ByteArray) (w : World) (hn : n ≤ 140737488355328) (hS : ∀ i : Nat, i < n → w.cell? ⟨sb, so + i * 5 + 4, none⟩ = some (.string (S i))) (hl : ∀ i, i < n → (S i).size ≤ 140737488355328) :
    Calls Tryd.prog 4 #[.slice (some ⟨sb, so, none⟩) n cap] w fun e w' => e = .returned (.bool (smallB n S)) ∧ w' = w := by
  by_cases hbig : 262144 < n
  · have hf : smallB n S = false := by unfold smallB; simp; omega
    rw [hf]
    go_enter Tryd.func4, Tryd.ntmps4
    go_wp2
    go_ret
    exact ⟨rfl, rfl⟩
  · go_enter Tryd.func4, Tryd.ntmps4
    go_wp2
    go_loop [3, 4] (fun t i => ∃ k : Nat, k ≤ n ∧ n + letters S k ≤ 262144 ∧ i = .int .i64 k ∧ t = .int .i64 ((n + letters S k : Nat) : Int)) (fun _ i => n - (intOf i).toNat)
    case atStart => exact ⟨0, by omega, by simp [letters]; omega, rfl, by simp [letters]⟩
    case round =>
      obtain ⟨k, hk, hle, rfl, rfl⟩ := hrel
      by_cases hlt : k < n
      · have hcell := hS k hlt
        have hlk := hl k hlt
        have hm := letters_mono S (show k + 1 ≤ n by omega)
        have hs : letters S (k + 1) = letters S k + (S k).size := rfl
        by_cases hov : n + letters S (k + 1) ≤ 262144
        · have hov' : ¬ (262144 < (n : Int) + (letters S k : Int) + ((S k).size : Int)) := by omega
          have HS : Hid (letters S (k + 1) = letters S k + (S k).size) := hs
          clear hs hm hS hl
          go_wp2
          go_round
          case rel => exact ⟨k + 1, by omega, hov, by go_num, by rw [HS.out]; go_num⟩
          case measure => simp [intOf]; omega
        · have hf : smallB n S = false := by unfold smallB; simp; omega
          have hov' : 262144 < (n : Int) + (letters S k : Int) + ((S k).size : Int) := by omega
          have HF : Hid (smallB n S = false) := hf
          clear hs hm hS hl hf
          go_wp2
          go_ret
          exact ⟨by rw [HF.out]; rfl, rfl⟩
      · obtain rfl : k = n := by omega
        have HF : Hid (smallB k S = true) := by show smallB k S = true; unfold smallB; simp; omega
        clear hS hl
        go_wp2
        go_ret
        exact ⟨by rw [HF.out]; rfl, rfl⟩
end Go.Proofs.YtohfpmlofjhigaaDoor
