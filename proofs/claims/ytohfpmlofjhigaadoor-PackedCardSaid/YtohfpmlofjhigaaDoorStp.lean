/-
  stop.With, stop.Unless; the reader of bits.
-/
import Derived.Test.YtohfpmlofjhigaaDoorPlc
import Derived.WalkSmall
import Derived.RegionDies
import Derived.Deep.QuietTactic
import Derived.BigQuiet
namespace Go.Proofs.YtohfpmlofjhigaaDoor
open Go Go.RowKit Go.Extern.Stop Go.Stop Go.Extern

/-- A reading is stopped with an error. -/
def stopped (err : Value) : List PanicEntry := [{ v := .iface 84 (.agg #[err]), recovered := false }]

theorem with_any (T : TypeId) (v : Value) (w : World) :
    Calls Tryd.prog 42 #[.iface T v] w fun e w' => e = .panicked (stopped (.iface T v)) ∧ w' = w := by
  go_enter Tryd.func42, Tryd.ntmps42
  go_wp2
  exact ⟨rfl, rfl, rfl⟩
theorem unless_true (T : TypeId) (v : Value) (w : World) :
    Calls Tryd.prog 43 #[.bool true, .iface T v] w fun e w' => e = .returned (.tuple #[]) ∧ w' = w := by
  go_enter Tryd.func43, Tryd.ntmps43
  go_wp2
  go_end0
  exact ⟨rfl, rfl⟩
theorem unless_false (T : TypeId) (v : Value) (w : World) :
    Calls Tryd.prog 43 #[.bool false, .iface T v] w fun e w' => e = .panicked (stopped (.iface T v)) ∧ w' = w := by
  go_enter Tryd.func43, Tryd.ntmps43
  go_wp2_with (go_at_call 42; refine (with_any _ _ _).mono ?_; rintro e w1 ⟨rfl, rfl⟩)
  exact ⟨rfl, rfl, rfl⟩

/-- The errors of package flate that are met. -/
structure FErr (w : World) (cap : Value) : Prop where
  cap : ∃ v, cap = .iface 131 v ∧ w.cell? ⟨16, 0, none⟩ = some cap
  ends : ∃ v, w.cell? ⟨22, 0, none⟩ = some (.iface 131 v)
  behind : ∃ v, w.cell? ⟨19, 0, none⟩ = some (.iface 131 v)
  stored : ∃ v, w.cell? ⟨23, 0, none⟩ = some (.iface 131 v)
  word : ∃ v, w.cell? ⟨26, 0, none⟩ = some (.iface 131 v)
  distance : ∃ v, w.cell? ⟨27, 0, none⟩ = some (.iface 131 v)
/-- Of what was there only cell 1 of block rb may have turned. -/
structure Kr (rb : Nat) (w w' : World) : Prop where
  os : w'.os = w.os
  output : w'.output = w.output
  size : w.heap.size ≤ w'.heap.size
  old : ∀ i, i < w.heap.size → i ≠ rb → w'.heap[i]? = w.heap[i]?
  rest : ∀ o, o ≠ 1 → w'.cell? ⟨rb, o, none⟩ = w.cell? ⟨rb, o, none⟩
  froz : ∀ o, w'.frozen? ⟨rb, o, none⟩ = w.frozen? ⟨rb, o, none⟩
theorem Kr.refl (rb : Nat) (w : World) : Kr rb w w := ⟨rfl, rfl, Nat.le_refl _, fun _ _ _ => rfl, fun _ _ => rfl, fun _ => rfl⟩
theorem Kr.trans {rb : Nat} {a b c : World} (h : Kr rb a b) (k : Kr rb b c) : Kr rb a c := ⟨k.os.trans h.os, k.output.trans h.output, Nat.le_trans h.size k.size, fun i hi hd => (k.old i (Nat.lt_of_lt_of_le hi h.size) hd).trans (h.old i hi hd), fun o ho => (k.rest o ho).trans (h.rest o ho), fun o => (k.froz o).trans (h.froz o)⟩
theorem Kr.drew (rb : Nat) (w : World) : Kr rb w w.drew := ⟨rfl, rfl, Nat.le_refl _, fun _ _ _ => rfl, fun _ _ => rfl, fun _ => rfl⟩
theorem Kr.drewN (rb : Nat) (w : World) : ∀ n, Kr rb w (w.drewN n)
  | 0 => Kr.refl _ _
  | n + 1 => (Kr.drewN rb w n).trans (Kr.drew _ _)
theorem Kr.set1 (rb : Nat) (w : World) (v : Value) : Kr rb w (w.setCell ⟨rb, 1, none⟩ v) :=
  ⟨rfl, rfl, by simp, fun i _ hd => Below.heap_setCell w ⟨rb, 1, none⟩ v i hd, fun o h1 => World.cell?_setCell_other _ _ _ _ (by simp <;> omega), fun o => by rw [World.frozen?_setCell]⟩
theorem Kr.cell {rb : Nat} {w w' : World} (h : Kr rb w w') {b o : Nat} {x : Value} (hd : b ≠ rb) (hx : w.cell? ⟨b, o, none⟩ = some x) : w'.cell? ⟨b, o, none⟩ = some x :=
  (World.cell?_of_block (a := ⟨b, o, none⟩) (h.old b (World.block_lt_of_cell? _ _ hx) hd)).trans hx
/-- The reader's cells. -/
structure Rd (w : World) (rb : Nat) (p : ByteArray) (i : Nat) : Prop where
  c0 : w.cell? ⟨rb, 0, none⟩ = some (.string p)
  c1 : w.cell? ⟨rb, 1, none⟩ = some (.int .i64 i)
  f1 : w.frozen? ⟨rb, 1, none⟩ = false
theorem Rd.set (w : World) (rb : Nat) (p : ByteArray) (i j : Nat) (h : Rd w rb p i) : Rd (w.setCell ⟨rb, 1, none⟩ (.int .i64 j)) rb p j :=
  ⟨(World.cell?_setCell_other _ _ _ _ (by simp)).trans h.c0, World.cell?_setCell_same _ _ _ h.c1, by rw [World.frozen?_setCell]; exact h.f1⟩
theorem Rd.drewN {w : World} {rb : Nat} {p : ByteArray} {i : Nat} (h : Rd w rb p i) : ∀ n, Rd (w.drewN n) rb p i
  | 0 => h
  | n + 1 => by
    obtain ⟨a, b, c⟩ := Rd.drewN h n
    exact ⟨a, b, c⟩
theorem bit_facts (p : ByteArray) (i : Nat) (h : i < 8 * p.size) (hz : p.size ≤ 70368744177000) : wrap64 ((p.size : Int) * 8) = (p.size : Int) * 8 ∧ IntKind.i64.wrap ((p.size : Int) * 8) = (p.size : Int) * 8 ∧ ((i : Int) < (p.size : Int) * 8) = True ∧ Int.tdiv (i : Int) 8 = ((i / 8 : Nat) : Int) ∧ Int.tmod (i : Int) 8 = ((i % 8 : Nat) : Int) ∧ i / 8 < p.size ∧ ((i / 8 : Nat) : Int) < (p.size : Int) ∧ ((i % 8 : Nat) : Int) < 64 ∧ wrap64 ((i : Int) + 1) = (i : Int) + 1 ∧ wrap64 ((i / 8 : Nat) : Int) = ((i / 8 : Nat) : Int) ∧ IntKind.i64.wrap ((i / 8 : Nat) : Int) = ((i / 8 : Nat) : Int) := by
  have e : wrap64 ((p.size : Int) * 8) = (p.size : Int) * 8 := by unfold wrap64; omega
  have e2 : wrap64 ((i / 8 : Nat) : Int) = ((i / 8 : Nat) : Int) := by unfold wrap64; omega
  refine ⟨e, by rw [IntKind.wrap_i64]; unfold wrap64 at e; exact e, by simp; omega, ?_, ?_, by omega, by omega, by omega, by unfold wrap64; omega, e2, by rw [IntKind.wrap_i64]; unfold wrap64 at e2; exact e2⟩
  · rw [Int.tdiv_eq_ediv_of_nonneg (by omega)]; omega
  · rw [Int.tmod_eq_emod_of_nonneg (by omega)]; omega
theorem u8_shr1 (x k : Nat) (h : x < 256) : Go.bits .and .u8 ((x : Int) / 2 ^ k) 1 = ((x.testBit k).toNat : Int) := by
  have e : (x : Int) / 2 ^ k = ((x / 2 ^ k : Nat) : Int) := by push_cast; rfl
  have hle : x / 2 ^ k ≤ x := Nat.div_le_self _ _
  rw [e, show (1 : Int) = ((1 : Nat) : Int) from rfl, u8_and_nat _ _ (by omega) (by decide), Nat.and_one_is_mod, Nat.toNat_testBit]
theorem tb_get (p : ByteArray) (i : Nat) (h : i / 8 < p.size) : p[i / 8].toNat.testBit (i % 8) = tb p.data.toList i := by
  unfold tb
  rw [List.getD_eq_getElem?_getD, List.getElem?_eq_getElem (by simpa using h)]
  rfl

set_option maxRecDepth 8000 in
set_option maxHeartbeats 1000000 in
theorem rbit_any (rb : Nat) (p : ByteArray) (i : Nat) (cap : Value) (w : World) (hE : FErr w cap) (hR : Rd w rb p i) (hi : i < 8 * p.size) (hz : p.size ≤ 70368744177000) :
    Calls Tryd.prog 37 #[.pointer (some ⟨rb, 0, none⟩)] w fun e w' => e = .returned (.int .i64 ((tb p.data.toList i).toNat : Nat)) ∧ Rd w' rb p (i + 1) ∧ Kr rb w w' := by
  obtain ⟨v, hv⟩ := hE.ends
  obtain ⟨a1, a2, a3, a5, a6, a7, a8, a9, a10, a11, a12⟩ := bit_facts p i hi hz
  have hb := tb_get p i a7
  have hx := p[i / 8].toNat_lt
  have hand := u8_shr1 p[i / 8].toNat (i % 8) hx
  rw [hb] at hand
  have HR : Hid (Rd w rb p i) := hR
  obtain ⟨c0, c1, f1⟩ := hR
  clear hE hi hz hb hx
  generalize tb p.data.toList i = b at *
  have hk8 : min (i % 8) 8 = i % 8 := by omega
  generalize i % 8 = k at *
  generalize i / 8 = m at *
  go_enter Tryd.func37, Tryd.ntmps37
  go_wp2
  go_quiet ((go_at_call 43; exact Calls.quiet_of_same (unless_true _ _ _)))
  go_wp2
  go_quiet (fail)
  go_wp2
  go_ret
  refine ⟨ret_i64 ?_, ?_, (Kr.drewN _ _ _).trans (Kr.set1 _ _ _)⟩
  · have hb1 : b.toNat ≤ 1 := by cases b <;> simp
    unfold wrap64
    omega
  · exact Rd.set _ _ _ _ _ (HR.out.drewN _)
end Go.Proofs.YtohfpmlofjhigaaDoor
