/-
  avrolaw.Names: Reason (laid by a template over this cut).
-/
import Derived.Test.YtpbbpdopfhadbaaDoorNum
import Derived.Deep.QuietTactic
import Derived.BigQuiet
namespace Go.Proofs.YtpbbpdopfhadbaaDoor
open Go.RowKit Go.Extern.Stop Go.Stop Go.Extern

theorem Ext.drewN (w : World) (n : Nat) : Ext w (w.drewN n) := ⟨rfl, rfl, Nat.le_refl _, fun _ _ => rfl⟩
theorem Tryd.methodErrorE (v : Value) (w : World) : (Go.method 218 66 v "Error").run Tryd.prog w = .ok (63, v) w := by kernel_rfl
theorem Tryd.methodErrorF (v : Value) (w : World) : (Go.method 218 28 v "Error").run Tryd.prog w = .ok (33, v) w := by kernel_rfl

/-- A reason's text. -/
theorem text_of (x : Addr) (s : ByteArray) (w : World) (h : w.cell? x = some (.string s)) :
    Calls Tryd.prog 63 #[.pointer (some x)] w fun e w' => e = .returned (.string s) ∧ w' = w := by
  obtain ⟨xb, xo, xs⟩ := x
  go_enter Tryd.func63, Tryd.ntmps63
  go_wp2
  go_ret
  exact ⟨rfl, rfl⟩

set_option maxHeartbeats 4000000 in
theorem reason_plain (a : Nat → Addr) (k : Nat) (hk : k < 16) (w : World) (M : Met a w) :
    Calls Tryd.prog 4 #[.int .i64 k, .bool false] w fun e w' => e = .returned (.tuple #[.int .i64 (k + 1), .int .i64 (-1), .bool true]) ∧ Ext w w' := by
  have e0 := M.cell 0 (by decide)
  have e1 := M.cell 1 (by decide)
  have e2 := M.cell 2 (by decide)
  have e3 := M.cell 3 (by decide)
  have e4 := M.cell 4 (by decide)
  have e5 := M.cell 5 (by decide)
  have e6 := M.cell 6 (by decide)
  have e7 := M.cell 7 (by decide)
  have e8 := M.cell 8 (by decide)
  have e9 := M.cell 9 (by decide)
  have e10 := M.cell 10 (by decide)
  have e11 := M.cell 11 (by decide)
  have e12 := M.cell 12 (by decide)
  have e13 := M.cell 13 (by decide)
  have e14 := M.cell 14 (by decide)
  have e15 := M.cell 15 (by decide)
  have hx1 : Ext w (w.alloc (.cells #[.iface 66 (.pointer (some (a 0))), .iface 66 (.pointer (some (a 1))), .iface 66 (.pointer (some (a 2))), .iface 66 (.pointer (some (a 3))), .iface 66 (.pointer (some (a 4))), .iface 66 (.pointer (some (a 5))), .iface 66 (.pointer (some (a 6))), .iface 66 (.pointer (some (a 7))), .iface 66 (.pointer (some (a 8))), .iface 66 (.pointer (some (a 9))), .iface 66 (.pointer (some (a 10))), .iface 66 (.pointer (some (a 11))), .iface 66 (.pointer (some (a 12))), .iface 66 (.pointer (some (a 13))), .iface 66 (.pointer (some (a 14))), .iface 66 (.pointer (some (a 15)))] 26)) := Ext.alloc _ _
  have M1 := M.ext hx1
  have hnew := new_row w a k hk
  have hcell := row_at a k hk
  simp only [rowOf] at hcell hnew
  have hkl : (k : Int) < 16 := by omega
  have mE := Tryd.methodErrorE
  obtain ⟨s, hs0, hz, _⟩ := M.text k hk
  go_enter Tryd.func4, Tryd.ntmps4
  go_wp2_with (first | (go_at_call 5; refine (number_plain a k hk _ M1).mono ?_; rintro e w' ⟨rfl, hx⟩; have hs := (hx1.trans hx).cell _ _ hs0) | (go_at_call 63; refine (text_of _ s _ hs).mono ?_; rintro e w' ⟨rfl, rfl⟩))
  go_ret3
  exact ⟨rfl, hx1.trans hx⟩

set_option maxHeartbeats 4000000 in
/-- strconv.Itoa(7). -/
theorem itoa7 (w : World) : Calls Tryd.prog 35 #[.int .i64 7] w fun e w' => e = .returned (.string ⟨#[55]⟩) ∧ w' = w := by
  go_enter Tryd.func35, Tryd.ntmps35
  go_wp2
  go_ret
  exact ⟨rfl, rfl⟩

set_option maxHeartbeats 4000000 in
/-- A Fault's text. -/
theorem fault_text (fb : Nat) (x : Addr) (s : ByteArray) (w : World) (f0 : w.cell? ⟨fb, 0, none⟩ = some (.int .i64 7)) (f1 : w.cell? ⟨fb, 1, none⟩ = some (.iface 66 (.pointer (some x)))) (h : w.cell? x = some (.string s)) (hs : s.size < 1000) :
    Calls Tryd.prog 33 #[.pointer (some ⟨fb, 0, none⟩)] w fun e w' => (∃ t : ByteArray, e = .returned (.string t) ∧ t.toList.isEmpty = false) ∧ Ext w w' := by
  have mE := Tryd.methodErrorE
  go_enter Tryd.func33, Tryd.ntmps33
  go_wp2_with fail
  go_quiet (first | (go_at_call 35; refine Calls.quiet_of_same (itoa7 _)) | (go_at_call 63; refine Calls.quiet_of_same (text_of _ s _ ?_); exact h))
  go_wp2
  go_ret
  exact ⟨⟨_, rfl, by rw [ByteArray.toList_eq]; simp⟩, Ext.drewN _ _⟩

set_option maxHeartbeats 4000000 in
theorem reason_fault (a : Nat → Addr) (k : Nat) (hk : k < 16) (w : World) (M : Met a w) :
    Calls Tryd.prog 4 #[.int .i64 k, .bool true] w fun e w' => e = .returned (.tuple #[.int .i64 (k + 1), .int .i64 7, .bool true]) ∧ Ext w w' := by
  have e0 := M.cell 0 (by decide)
  have e1 := M.cell 1 (by decide)
  have e2 := M.cell 2 (by decide)
  have e3 := M.cell 3 (by decide)
  have e4 := M.cell 4 (by decide)
  have e5 := M.cell 5 (by decide)
  have e6 := M.cell 6 (by decide)
  have e7 := M.cell 7 (by decide)
  have e8 := M.cell 8 (by decide)
  have e9 := M.cell 9 (by decide)
  have e10 := M.cell 10 (by decide)
  have e11 := M.cell 11 (by decide)
  have e12 := M.cell 12 (by decide)
  have e13 := M.cell 13 (by decide)
  have e14 := M.cell 14 (by decide)
  have e15 := M.cell 15 (by decide)
  have hx1 : Ext w ((w.alloc (.cells #[.iface 66 (.pointer (some (a 0))), .iface 66 (.pointer (some (a 1))), .iface 66 (.pointer (some (a 2))), .iface 66 (.pointer (some (a 3))), .iface 66 (.pointer (some (a 4))), .iface 66 (.pointer (some (a 5))), .iface 66 (.pointer (some (a 6))), .iface 66 (.pointer (some (a 7))), .iface 66 (.pointer (some (a 8))), .iface 66 (.pointer (some (a 9))), .iface 66 (.pointer (some (a 10))), .iface 66 (.pointer (some (a 11))), .iface 66 (.pointer (some (a 12))), .iface 66 (.pointer (some (a 13))), .iface 66 (.pointer (some (a 14))), .iface 66 (.pointer (some (a 15)))] 26)).alloc (.cells #[.int .i64 7, .iface 66 (.pointer (some (a k)))] 30)) := (Ext.alloc _ _).trans (Ext.alloc _ _)
  have M1 := M.ext hx1
  have hnew := new_row w a k hk
  have hcell := row_at a k hk
  simp only [rowOf] at hcell hnew
  have hkl : (k : Int) < 16 := by omega
  have mE := Tryd.methodErrorF
  obtain ⟨s, hs0, hz, hs1⟩ := M.text k hk
  have g0 : ((w.alloc (.cells #[.iface 66 (.pointer (some (a 0))), .iface 66 (.pointer (some (a 1))), .iface 66 (.pointer (some (a 2))), .iface 66 (.pointer (some (a 3))), .iface 66 (.pointer (some (a 4))), .iface 66 (.pointer (some (a 5))), .iface 66 (.pointer (some (a 6))), .iface 66 (.pointer (some (a 7))), .iface 66 (.pointer (some (a 8))), .iface 66 (.pointer (some (a 9))), .iface 66 (.pointer (some (a 10))), .iface 66 (.pointer (some (a 11))), .iface 66 (.pointer (some (a 12))), .iface 66 (.pointer (some (a 13))), .iface 66 (.pointer (some (a 14))), .iface 66 (.pointer (some (a 15)))] 26)).alloc (.cells #[.int .i64 7, .iface 66 (.pointer (some (a k)))] 30)).cell? ⟨w.heap.size + 1, 0, none⟩ = some (.int .i64 7) := by simp
  have g1 : ((w.alloc (.cells #[.iface 66 (.pointer (some (a 0))), .iface 66 (.pointer (some (a 1))), .iface 66 (.pointer (some (a 2))), .iface 66 (.pointer (some (a 3))), .iface 66 (.pointer (some (a 4))), .iface 66 (.pointer (some (a 5))), .iface 66 (.pointer (some (a 6))), .iface 66 (.pointer (some (a 7))), .iface 66 (.pointer (some (a 8))), .iface 66 (.pointer (some (a 9))), .iface 66 (.pointer (some (a 10))), .iface 66 (.pointer (some (a 11))), .iface 66 (.pointer (some (a 12))), .iface 66 (.pointer (some (a 13))), .iface 66 (.pointer (some (a 14))), .iface 66 (.pointer (some (a 15)))] 26)).alloc (.cells #[.int .i64 7, .iface 66 (.pointer (some (a k)))] 30)).cell? ⟨w.heap.size + 1, 1, none⟩ = some (.iface 66 (.pointer (some (a k)))) := by simp
  go_enter Tryd.func4, Tryd.ntmps4
  go_wp2_with (first
    | (go_at_call 5; refine (number_fault a k hk _ M1 _ g0 g1).mono ?_; rintro e w' ⟨rfl, hx⟩; have hs := (hx1.trans hx).cell _ _ hs0; have k0 := hx.cell _ _ g0; have k1 := hx.cell _ _ g1)
    | (go_at_call 33; refine (fault_text _ _ s _ k0 k1 hs hs1).mono ?_; rintro e w' ⟨⟨t, rfl, ht⟩, hy⟩))
  go_ret3
  exact ⟨rfl, (hx1.trans hx).trans hy⟩
end Go.Proofs.YtpbbpdopfhadbaaDoor
