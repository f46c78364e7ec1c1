/-
  avro.Deflate, avro.Inflate, plain.Inflate: of what Deflate tells.
-/
import Derived.Test.YtohfpmlofjhigaaDoorIfl
import Derived.Test.YtohfpmlofjhigaaDoorRef
namespace Go.Proofs.YtohfpmlofjhigaaDoor
open Go Go.RowKit Go.Extern.Stop Go.Stop Go.Extern

theorem adeflate_any (t : ByteArray) (w : World) (hz : t.size ≤ 1000000) (hn0 : 32 ≤ w.heap.size) (hS : SpAt w 20 lenF) (hT : SpAt w 21 disF) :
    Calls Tryd.prog 6 #[.string t] w fun e w' => ∃ B, Defl t B ∧ e = .returned (.string (strOf (pack B))) ∧ Fr w.heap.size w w' := by
  have h := fdeflate_any t w hz hn0 hS hT
  clear hz hn0 hS hT
  go_enter Tryd.func6, Tryd.ntmps6
  go_wp2_with (go_at_call 8; refine h.mono ?_; rintro e w1 ⟨B, hB, rfl, hf⟩)
  go_ret
  exact ⟨B, hB, rfl, hf⟩
theorem number_nil (w : World) : Calls Tryd.prog 10 #[.nilIface] w fun e w' => e = .returned (.tuple #[.int .i64 0, .int .i64 (-1)]) ∧ w' = w := by
  go_enter Tryd.func10, Tryd.ntmps10
  go_wp2
  go_ret2
  exact ⟨rfl, rfl⟩
set_option maxRecDepth 8000 in
theorem pinflate_ok (t : ByteArray) (B : List Bool) (most : Int) (cap : Value) (w : World) (hB : Rest t 0 0 B) (hBl : B.length ≤ 1000000000) (ht : t.size ≤ 1000000) (hm : (t.size : Int) ≤ most ∨ t.size = 0) (hE : FErr w cap) (hn : 32 ≤ w.heap.size) (hS : SpAt w 20 lenF) (hT : SpAt w 21 disF) :
    Calls Tryd.prog 7 #[.string (strOf (pack B)), .int .i64 most] w fun e w' => e = .returned (.tuple #[.string t, .int .i64 0]) ∧ Fr w.heap.size w w' := by
  have h := finflate_ok t B most cap w hB hBl ht hm hE hn hS hT
  have ha : Calls Tryd.prog 9 #[.string (strOf (pack B)), .int .i64 most] w fun e w' => e = .returned (.tuple #[.string t, .nilIface]) ∧ Fr w.heap.size w w' := by
    clear hB hBl ht hm hE hn hS hT
    go_enter Tryd.func9, Tryd.ntmps9
    go_wp2_with (go_at_call 12; refine h.mono ?_; rintro e w1 ⟨rfl, hf⟩)
    go_ret2
    exact ⟨rfl, hf⟩
  clear hB hBl ht hm hE hn hS hT h
  go_enter Tryd.func7, Tryd.ntmps7
  go_wp2_with (first
    | (go_at_call 9; refine ha.mono ?_; rintro e w1 ⟨rfl, hf⟩)
    | (go_at_call 10; refine (number_nil _).mono ?_; rintro e w2 ⟨rfl, rfl⟩))
  go_ret2
  exact ⟨rfl, hf⟩

theorem Ext.of_fr {w w' : World} (h : Fr w.heap.size w w') : Ext w w' := ⟨h.os, h.output, h.size, h.old⟩
theorem Fr.of_ext {w w' : World} (h : Ext w w') : Fr w.heap.size w w' := ⟨h.1, h.2.1, h.2.2.1, h.2.2.2⟩
theorem uninflated_cap (b : Addr) (x : Value) (w : World) (hc : w.cell? ⟨16, 0, none⟩ = some (.iface 131 (.pointer (some b)))) (hx : w.cell? ⟨8, 0, none⟩ = some x) :
    Calls Tryd.prog 13 #[.iface 131 (.pointer (some b))] w fun e w' => e = .returned x ∧ w' = w := by
  go_enter Tryd.func13, Tryd.ntmps13
  go_wp2_with (go_at_call 14; refine (is_same _ _).mono ?_; rintro e w1 ⟨rfl, rfl⟩)
  go_ret
  exact ⟨rfl, rfl⟩
set_option maxRecDepth 8000 in
theorem pinflate_cap (t : ByteArray) (B : List Bool) (most : Int) (b : Addr) (a : Nat → Addr) (w : World) (hB : Rest t 0 0 B) (hBl : B.length ≤ 1000000000) (ht : t.size ≤ 1000000) (h0 : 0 ≤ most) (hm : most < (t.size : Int)) (M : Met a w) (hE : FErr w (.iface 131 (.pointer (some b)))) (hn : 32 ≤ w.heap.size) (hS : SpAt w 20 lenF) (hT : SpAt w 21 disF) :
    Calls Tryd.prog 7 #[.string (strOf (pack B)), .int .i64 most] w fun e w' => e = .returned (.tuple #[.string ⟨#[]⟩, .int .i64 9]) ∧ Fr w.heap.size w w' := by
  have h := finflate_cap t B most (.pointer (some b)) w hB hBl ht h0 hm hE hn hS hT
  obtain ⟨cv, hcv, hcap⟩ := hE.cap
  have HC : Hid (∀ w1, Fr w.heap.size w w1 → w1.cell? ⟨16, 0, none⟩ = some (.iface 131 (.pointer (some b))) ∧ w1.cell? ⟨8, 0, none⟩ = some (.iface 131 (.pointer (some (a 8))))) := fun w1 k => ⟨(k.cell (Nat.lt_of_lt_of_le (by decide) hn)).trans hcap, (k.cell (Nat.lt_of_lt_of_le (by decide) hn)).trans (M.cell 8 (by decide))⟩
  have ha : Calls Tryd.prog 9 #[.string (strOf (pack B)), .int .i64 most] w fun e w' => ∃ rb, e = .returned (.tuple #[.string ⟨#[]⟩, .iface 45 (.pointer (some ⟨rb, 0, none⟩))]) ∧ w'.cell? ⟨rb, 0, none⟩ = some (.iface 131 (.pointer (some (a 8)))) ∧ Fr w.heap.size w w' := by
    clear hB hBl ht hm hE hn hS hT h0 hcap hcv M
    go_enter Tryd.func9, Tryd.ntmps9
    go_wp2_with (first
      | (go_at_call 12; refine h.mono ?_; rintro e w1 ⟨rfl, hf⟩; obtain ⟨q1, q2⟩ := HC.out w1 hf)
      | (go_at_call 13; refine (uninflated_cap b _ _ q1 q2).mono ?_; rintro e w2 ⟨rfl, rfl⟩))
    go_ret2
    exact ⟨_, rfl, by simp, hf.trans (Fr.alloc _ _ hf.size)⟩
  have HM : Hid (∀ w1, Fr w.heap.size w w1 → Met a w1) := fun w1 k => M.ext (Ext.of_fr k)
  clear hB hBl ht hm hE hn hS hT h h0 hcap hcv M
  go_enter Tryd.func7, Tryd.ntmps7
  go_wp2_with (first
    | (go_at_call 9; refine ha.mono ?_; rintro e w1 ⟨rb, rfl, hr, hf⟩)
    | (go_at_call 10; refine (number_refusal a 8 (by decide) _ (HM.out w1 hf) rb hr).mono ?_; rintro e w2 ⟨rfl, hx⟩))
  go_ret2
  exact ⟨rfl, hf.trans ((Fr.of_ext hx).mono hf.size)⟩
end Go.Proofs.YtohfpmlofjhigaaDoor
