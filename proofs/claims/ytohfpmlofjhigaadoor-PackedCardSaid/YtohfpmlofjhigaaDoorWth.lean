/-
  flate: (*inflater).within, length, distance.
-/
import Derived.Test.YtohfpmlofjhigaaDoorTel
import Derived.Test.YtohfpmlofjhigaaDoorVal
namespace Go.Proofs.YtohfpmlofjhigaaDoor
open Go Go.RowKit Go.Extern.Stop Go.Stop Go.Extern

theorem len_first : (List.range 29).all (fun p => decide (spF lenF p ≤ 40000)) = true := by kernel_rfl
theorem dis_first : (List.range 30).all (fun p => decide (spF disF p ≤ 40000)) = true := by kernel_rfl

set_option maxRecDepth 8000 in
set_option maxHeartbeats 1000000 in
theorem within_any (ib : Nat) (p : ByteArray) (i : Nat) (l : List Bool) (f : Nat) (cap : Value) (w : World) (hib : 32 ≤ ib) (hl : l.length ≤ 13) (hf : f ≤ 40000) (hE : FErr w cap) (hR : Rd w ib p i) (hS : Says p.data.toList i l) (hz : p.size ≤ 70368744177000) :
    Calls Tryd.prog 62 #[.pointer (some ⟨ib, 0, none⟩), .agg #[.int .i64 f, .int .i64 l.length]] w fun e w' => e = .returned (.int .i64 ((f + numB l : Nat) : Int)) ∧ Rd w' ib p (i + l.length) ∧ Kr ib w w' := by
  have hlt : ib < w.heap.size := World.block_lt_of_cell? _ _ hR.c0
  have hn : ∀ o, Calls Tryd.prog 38 #[.pointer (some ⟨ib, 0, none⟩), .int .i64 l.length] (w.alloc o).drew fun e w' => e = .returned (.int .i64 (numB l : Nat)) ∧ Rd w' ib p (i + l.length) ∧ Kr ib (w.alloc o).drew w' := fun o =>
    rnumber_any ib p i l l.length cap (w.alloc o).drew hib rfl (by omega) (hE.kr hib ((Kr.alloc _ _ _ hlt).trans (Kr.drew _ _))) ⟨(World.cell?_alloc_lt w o ⟨ib, 0, none⟩ hlt).trans hR.c0, (World.cell?_alloc_lt w o ⟨ib, 1, none⟩ hlt).trans hR.c1, (World.frozen?_alloc_old w o ⟨ib, 1, none⟩ (Nat.ne_of_lt hlt)).trans hR.f1⟩ hS hz
  have hnb : numB l ≤ 8192 := by
    have h1 := numB_lt l
    have h2 : 2 ^ l.length ≤ 2 ^ 13 := Nat.pow_le_pow_right (by omega) hl
    have h3 : (2 : Nat) ^ 13 = 8192 := by decide
    omega
  clear hS hE hR hz hl hib
  generalize numB l = n at *
  generalize l.length = k at *
  have HW : Hid (IntKind.i64.wrap ((f : Int) + (n : Int)) = ((f + n : Nat) : Int)) := by show _ = _; rw [IntKind.wrap_i64]; omega
  go_enter Tryd.func62, Tryd.ntmps62
  go_wp2
  go_region_with (go_at_call 38; refine (hn _).mono ?_; rintro e w1 ⟨rfl, hr1, hk1⟩; have hc0 := hk1.cell (b := w.heap.size) (o := 0) (by omega) (x := .int .i64 f) (by simp))
  all_goals go_wp2
  all_goals go_ret
  all_goals exact ⟨(show Ending.returned (Value.int .i64 (IntKind.i64.wrap ((f : Int) + (n : Int)))) = _ from by rw [HW.out]), hr1, ((Kr.alloc _ _ _ hlt).trans (Kr.drew _ _)).trans hk1⟩

set_option maxRecDepth 8000 in
set_option maxHeartbeats 1000000 in
theorem rlength_any (ib : Nat) (p : ByteArray) (i q : Nat) (l : List Bool) (cap : Value) (w : World) (hib : 32 ≤ ib) (hq : q < 29) (hl : l.length = spB lenF q) (hE : FErr w cap) (hR : Rd w ib p i) (hS : Says p.data.toList i l) (hz : p.size ≤ 70368744177000) (hsp : SpAt w 20 lenF) :
    Calls Tryd.prog 59 #[.pointer (some ⟨ib, 0, none⟩), .int .i64 q] w fun e w' => e = .returned (.int .i64 ((spF lenF q + numB l : Nat) : Int)) ∧ Rd w' ib p (i + l.length) ∧ Kr ib w w' := by
  obtain ⟨v, hv⟩ := hE.word
  have hb : spB lenF q ≤ 13 := by
    have := of_decide_eq_true (List.all_eq_true.1 len_bits _ (List.mem_range.2 hq))
    omega
  have hf : spF lenF q ≤ 40000 := of_decide_eq_true (List.all_eq_true.1 len_first _ (List.mem_range.2 hq))
  have hwi := within_any ib p i l (spF lenF q) cap w hib (by omega) hf hE hR hS hz
  obtain ⟨s0, s1⟩ := hsp q hq
  rw [← hl] at s1
  have hqi : ((q : Int) < 29) = True := by simp; omega
  clear hib hl hE hR hS hz hsp hb hf
  generalize spF lenF q = f at *
  generalize l.length = k at *
  generalize numB l = n at *
  go_enter Tryd.func59, Tryd.ntmps59
  go_wp2_with (first
    | (go_at_call 43; refine (unless_true _ _ _).mono ?_; rintro e w1 ⟨rfl, rfl⟩)
    | (go_at_call 62; refine hwi.mono ?_; rintro e w2 ⟨rfl, hr2, hk2⟩))
  go_ret
  exact ⟨rfl, hr2, hk2⟩

set_option maxRecDepth 8000 in
set_option maxHeartbeats 1000000 in
theorem rdistance_any (ib : Nat) (p : ByteArray) (i q : Nat) (l : List Bool) (cap : Value) (w : World) (hib : 32 ≤ ib) (hq : q < 30) (hl : l.length = spB disF q) (hE : FErr w cap) (hR : Rd w ib p i) (hS : Says p.data.toList i l) (hz : p.size ≤ 70368744177000) (hsp : SpAt w 21 disF) :
    Calls Tryd.prog 60 #[.pointer (some ⟨ib, 0, none⟩), .int .i64 q] w fun e w' => e = .returned (.int .i64 ((spF disF q + numB l : Nat) : Int)) ∧ Rd w' ib p (i + l.length) ∧ Kr ib w w' := by
  obtain ⟨v, hv⟩ := hE.word
  have hb : spB disF q ≤ 13 := of_decide_eq_true (List.all_eq_true.1 dis_bits _ (List.mem_range.2 hq))
  have hf : spF disF q ≤ 40000 := of_decide_eq_true (List.all_eq_true.1 dis_first _ (List.mem_range.2 hq))
  have hwi := within_any ib p i l (spF disF q) cap w hib (by omega) hf hE hR hS hz
  obtain ⟨s0, s1⟩ := hsp q hq
  rw [← hl] at s1
  have hqi : ((q : Int) < 30) = True := by simp; omega
  clear hib hl hE hR hS hz hsp hb hf
  generalize spF disF q = f at *
  generalize l.length = k at *
  generalize numB l = n at *
  go_enter Tryd.func60, Tryd.ntmps60
  go_wp2_with (first
    | (go_at_call 43; refine (unless_true _ _ _).mono ?_; rintro e w1 ⟨rfl, rfl⟩)
    | (go_at_call 62; refine hwi.mono ?_; rintro e w2 ⟨rfl, hr2, hk2⟩))
  go_ret
  exact ⟨rfl, hr2, hk2⟩
end Go.Proofs.YtohfpmlofjhigaaDoor
