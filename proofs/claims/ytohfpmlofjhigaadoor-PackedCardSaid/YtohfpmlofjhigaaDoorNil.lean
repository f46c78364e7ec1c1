/-
  avrokeep.Packed of a script without steps (laid by a template over this cut).
-/
import Derived.Test.YtohfpmlofjhigaaDoorPkd
namespace Go.Proofs.YtohfpmlofjhigaaDoor
open Go Go.RowKit Go.Extern.Stop Go.Stop Go.Extern

theorem small_none (sa : Option Addr) (cap : Nat) (w : World) :
    Calls Tryd.prog 4 #[.slice sa 0 cap] w fun e w' => e = .returned (.bool true) ∧ w' = w := by
  go_enter Tryd.func4, Tryd.ntmps4
  go_wp2
  go_loop [3, 4] (fun t i => i = .int .i64 0 ∧ t = .int .i64 0) (fun _ _ => 0)
  case atStart => exact ⟨rfl, rfl⟩
  case round =>
    obtain ⟨rfl, rfl⟩ := hrel
    go_wp2
    go_ret
    exact ⟨rfl, rfl⟩

set_option maxRecDepth 100000 in
set_option maxHeartbeats 4000000 in
theorem packed_none (a : Nat → Addr) (b : Addr) (sa : Option Addr) (cap : Nat) (w : World) (hst : Stand a b w) :
    Calls Tryd.prog 3 #[.slice sa 0 cap] w fun e w' => e = .returned (.bool true) ∧ Fr w.heap.size w w' := by
  have hsm := small_none sa cap w
  have HST : Hid (Stand a b w) := hst
  have hdef := adeflate_any ⟨#[]⟩ w (by decide) hst.ng hst.ls hst.ds
  have hinf := fun B w2 (hB : Defl ⟨#[]⟩ B) (hs : Stand a b w2) => pinflate_ok ⟨#[]⟩ B 0 _ w2 hB.rest (defl_len hB (by decide)) (by decide) (.inl (Int.le_refl _)) hs.err hs.ng hs.ls hs.ds
  clear hst
  go_enter Tryd.func3, Tryd.ntmps3
  go_wp2_with (go_at_call 4; refine hsm.mono ?_; rintro e w1 ⟨rfl, rfl⟩)
  go_loopw [4, 5] (fun al cnt wr => cnt = .int .i64 0 ∧ al = .string ⟨#[]⟩ ∧ wr = w1) (fun _ _ _ => 0)
  case atStart => exact ⟨rfl, rfl, rfl⟩
  case round =>
    obtain ⟨rfl, rfl, rfl⟩ := hrel
    go_wp2_with (first
      | (go_at_call 6; refine hdef.mono ?_; rintro e w2 ⟨B, hB, rfl, hf2⟩; have hs2 := HST.out.fr hf2)
      | (go_at_call 7; refine (hinf B w2 hB hs2).mono ?_; rintro e w3 ⟨rfl, hf3⟩))
    have hlen : (strOf (pack B)).size ≤ (⟨#[]⟩ : ByteArray).size + 5 * ((⟨#[]⟩ : ByteArray).size / 65535 + 1) := by have := hB.most; rw [strOf_size, pack_length]; exact this
    have hdec : decide (((strOf (pack B)).size : Int) ≤ 5) = true := by simp only [decide_eq_true_eq]; have : (⟨#[]⟩ : ByteArray).size = 0 := rfl; rw [this] at hlen; omega
    go_ret
    exact ⟨(show Ending.returned (Value.bool (decide _)) = _ from by rw [hdec]), hf2.trans (hf3.mono hf2.size)⟩
end Go.Proofs.YtohfpmlofjhigaaDoor
