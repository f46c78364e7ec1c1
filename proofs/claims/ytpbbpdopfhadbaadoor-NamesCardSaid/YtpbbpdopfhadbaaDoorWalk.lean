/-
  avrolaw.Names: Walk (laid by a template over this cut).
-/
import Derived.Test.YtpbbpdopfhadbaaDoorReason
namespace Go.Proofs.YtpbbpdopfhadbaaDoor
open Go.RowKit Go.Extern.Stop Go.Stop Go.Extern

set_option maxHeartbeats 1000000 in
theorem names_walk (a : Nat → Addr) (w : World) (M : Met a w) :
    Calls Tryd.prog 3 #[] w fun e w' => e = .returned (.bool true) ∧ Ext w w' := by
  have HM : Hid (Met a w) := M
  clear M
  go_enter Tryd.func3, Tryd.ntmps3
  go_wp2_with fail
  go_loopw [1] (fun i wr => ∃ j : Nat, j ≤ 16 ∧ i = .int .i64 j ∧ Hid (Ext w wr)) (fun i _ => 16 - (intOf i).toNat)
  case atStart => exact ⟨0, by omega, rfl, Ext.refl w⟩
  case round =>
    obtain ⟨j, hj, rfl, HE⟩ := hrel
    by_cases hend : j < 16
    · have hjl : (j : Int) < 16 := by omega
      have hM1 := HM.out.ext HE.out
      have r1 := reason_plain a j hend wr hM1
      have r2 : ∀ w1, Ext wr w1 → Calls Tryd.prog 4 #[.int .i64 j, .bool true] w1 fun e w' => e = .returned (.tuple #[.int .i64 (j + 1), .int .i64 7, .bool true]) ∧ Ext w1 w' := fun w1 h => reason_fault a j hend w1 (hM1.ext h)
      have R1 : Hid (Calls Tryd.prog 4 #[.int .i64 j, .bool false] wr fun e w' => e = .returned (.tuple #[.int .i64 (j + 1), .int .i64 (-1), .bool true]) ∧ Ext wr w') := r1
      have R2 : Hid (∀ w1, Ext wr w1 → Calls Tryd.prog 4 #[.int .i64 j, .bool true] w1 fun e w' => e = .returned (.tuple #[.int .i64 (j + 1), .int .i64 7, .bool true]) ∧ Ext w1 w') := r2
      clear r1 r2 hM1
      go_wp2_with (go_at_call 4; first
        | (refine (R2.out _ HX.out).mono ?_; rintro e w2 ⟨rfl, hy⟩; have HY : Hid (Ext w1 w2) := hy; clear hy)
        | (refine R1.out.mono ?_; rintro e w1 ⟨rfl, hx⟩; have HX : Hid (Ext wr w1) := hx; clear hx R1))
      go_roundw
      case rel => exact ⟨j + 1, by omega, by go_num, (HE.out.trans HX.out).trans HY.out⟩
      case measure => simp [intOf]; omega
    · obtain rfl : j = 16 := by omega
      go_wp2
      go_ret
      exact ⟨rfl, HE.out⟩
end Go.Proofs.YtpbbpdopfhadbaaDoor
