/-
  flate: Inflate of what Deflate tells.
-/
import Derived.Test.YtohfpmlofjhigaaDoorBks
import Derived.Test.YtohfpmlofjhigaaDoorCat
namespace Go.Proofs.YtohfpmlofjhigaaDoor
open Go Go.RowKit Go.Extern.Stop Go.Stop Go.Extern

theorem strOf_self (t : ByteArray) : strOf t.data.toList = t := by cases t; simp [strOf]
theorem FErr.fr {w w' : World} {cap : Value} {n : Nat} (h : FErr w cap) (k : Fr n w w') (hn : 32 ≤ n) : FErr w' cap := by
  have hc : ∀ g x, g < 32 → w.cell? ⟨g, 0, none⟩ = some x → w'.cell? ⟨g, 0, none⟩ = some x := fun g x hg hx => (k.cell (by omega)).trans hx
  obtain ⟨⟨v1, e1, h1⟩, ⟨v2, h2⟩, ⟨v3, h3⟩, ⟨v4, h4⟩, ⟨v5, h5⟩, ⟨v6, h6⟩⟩ := h
  exact ⟨⟨v1, e1, hc _ _ (by decide) h1⟩, ⟨v2, hc _ _ (by decide) h2⟩, ⟨v3, hc _ _ (by decide) h3⟩, ⟨v4, hc _ _ (by decide) h4⟩, ⟨v5, hc _ _ (by decide) h5⟩, ⟨v6, hc _ _ (by decide) h6⟩⟩
/-- The inflater as Inflate lays it, and Caught's cell behind it. -/
theorem ifl_start (p : ByteArray) (most : Int) (cap : Value) (w : World) (T T2 : TypeId) (hE : FErr w cap) (hn : 32 ≤ w.heap.size) :
    ∃ W1 W2, W1 = w.alloc (Obj.cells #[Value.string p, Value.int IntKind.i64 0, Value.slice none 0 0, Value.int IntKind.i64 most] T) ∧ W2 = W1.alloc (Obj.cells #[.nilIface] T2) ∧ W1.heap.size = w.heap.size + 1 ∧ W2.heap.size = w.heap.size + 2 ∧ Inf W2 w.heap.size p 0 [] most cap ∧ W2.cell? ⟨w.heap.size, 2, none⟩ = some (.slice none 0 0) ∧ Fr w.heap.size w W2 ∧ W2.cell? ⟨w.heap.size + 1, 0, none⟩ = some .nilIface ∧ W2.frozen? ⟨w.heap.size + 1, 0, none⟩ = false := by
  obtain ⟨n1, s1⟩ := new_block w (Obj.cells #[Value.string p, Value.int IntKind.i64 0, Value.slice none 0 0, Value.int IntKind.i64 most] T)
  have z1 : ∀ i, (w.alloc (Obj.cells #[Value.string p, Value.int IntKind.i64 0, Value.slice none 0 0, Value.int IntKind.i64 most] T)).frozen? ⟨w.heap.size, i, none⟩ = false := fun i => World.frozen?_alloc_new _ _ _ _
  have f1 : Fr w.heap.size w (w.alloc (Obj.cells #[Value.string p, Value.int IntKind.i64 0, Value.slice none 0 0, Value.int IntKind.i64 most] T)) := Fr.alloc w _ (Nat.le_refl _)
  refine ⟨_, _, rfl, rfl, s1, ?_⟩
  generalize w.alloc (Obj.cells #[Value.string p, Value.int IntKind.i64 0, Value.slice none 0 0, Value.int IntKind.i64 most] T) = W1 at *
  obtain ⟨n2, s2⟩ := new_block W1 (Obj.cells #[.nilIface] T2)
  have z2 : ∀ i, (W1.alloc (Obj.cells #[.nilIface] T2)).frozen? ⟨W1.heap.size, i, none⟩ = false := fun i => World.frozen?_alloc_new _ _ _ _
  have o2 := Below.heap_alloc W1 (Obj.cells #[.nilIface] T2)
  have f2 : Fr w.heap.size W1 (W1.alloc (Obj.cells #[.nilIface] T2)) := Fr.alloc _ _ (by omega)
  generalize W1.alloc (Obj.cells #[.nilIface] T2) = W2 at *
  rw [s1] at n2 s2 z2 o2
  have e1 := o2 w.heap.size (by omega)
  have hc : ∀ q, W2.cell? ⟨w.heap.size, q, none⟩ = (#[Value.string p, Value.int IntKind.i64 0, Value.slice none 0 0, Value.int IntKind.i64 most] : Array Value)[q]? := fun q => by unfold World.cell?; simp [e1.trans n1]
  have hf : ∀ q, W2.frozen? ⟨w.heap.size, q, none⟩ = false := fun q => (World.frozen?_of_block (a := ⟨w.heap.size, q, none⟩) e1).trans (z1 q)
  have hfr := f1.trans f2
  refine ⟨by omega, ⟨⟨by rw [hc]; rfl, by rw [hc]; rfl, hf 1⟩, ⟨.slice none 0 0, by rw [hc]; rfl, Row.nil _ _, by simp [blk], by simp [blk]⟩, by rw [hc]; rfl, hf 2, hE.fr hfr hn, hn⟩, by rw [hc]; rfl, hfr, ?_, z2 0⟩
  unfold World.cell?
  simp [n2]

theorem Kb.fr {ib : Nat} {w w' : World} (h : Kb ib w w') (hi : ib ≤ w.heap.size) : Fr ib w w' := ⟨h.os, h.output, h.size, fun i hb => h.old i (by omega) (by omega)⟩
theorem Row.same {w w' : World} {size : Nat} {v : Value} {N : Nat} {cs : List Value} (h : Row w size v N cs) (hc : ∀ b o, w'.cell? ⟨b, o, none⟩ = w.cell? ⟨b, o, none⟩) (hf : ∀ b o, w'.frozen? ⟨b, o, none⟩ = w.frozen? ⟨b, o, none⟩) (hs : w'.heap.size = w.heap.size) : Row w' size v N cs := by
  rcases h with h | ⟨g, c, e, h⟩
  · exact .inl h
  · exact .inr ⟨g, c, e, by rw [hs]; exact h.lt, h.le, h.max, h.len, fun j hj => (hc g j).trans (h.holds j hj), fun j hj => ⟨by rw [hc]; exact (h.there j hj).1, (hf g j).trans (h.there j hj).2⟩⟩
theorem set_same (w : World) (b : Nat) (x : Value) (hx : w.cell? ⟨b, 0, none⟩ = some x) : (∀ b' o, (w.setCell ⟨b, 0, none⟩ x).cell? ⟨b', o, none⟩ = w.cell? ⟨b', o, none⟩) ∧ ∀ b' o, (w.setCell ⟨b, 0, none⟩ x).frozen? ⟨b', o, none⟩ = w.frozen? ⟨b', o, none⟩ := by
  refine ⟨fun b' o => ?_, fun b' o => by rw [World.frozen?_setCell]⟩
  by_cases e : b' = b ∧ o = 0
  · obtain ⟨rfl, rfl⟩ := e
    rw [World.cell?_setCell_same _ _ _ hx, hx]
  · rw [World.cell?_setCell_other _ _ _ _ (by simp; omega)]

set_option maxRecDepth 8000 in
set_option maxHeartbeats 2000000 in
theorem finflate_ok (t : ByteArray) (B : List Bool) (most : Int) (cap : Value) (w : World) (hB : Rest t 0 0 B) (hBl : B.length ≤ 1000000000) (ht : t.size ≤ 1000000) (hm : (t.size : Int) ≤ most ∨ t.size = 0) (hE : FErr w cap) (hn : 32 ≤ w.heap.size) (hS : SpAt w 20 lenF) (hT : SpAt w 21 disF) :
    Calls Tryd.prog 12 #[.string (strOf (pack B)), .int .i64 most] w fun e w' => e = .returned (.tuple #[.string t, .nilIface]) ∧ Fr w.heap.size w w' := by
  obtain ⟨W1, W2, hW1, hW2, s1, s2, hI, hnil, hfr, hc, hz⟩ := ifl_start (strOf (pack B)) most cap w 63 31 hE hn
  have hps : (strOf (pack B)).size ≤ 70368744177 := by rw [strOf_size, pack_length]; omega
  have hbk := blocks_any w.heap.size (strOf (pack B)) t B most cap W2 hI hnil (strOf_data _) hB (hS.carry (hfr.old _ (Nat.lt_of_lt_of_le (by decide) hn))) (hT.carry (hfr.old _ (Nat.lt_of_lt_of_le (by decide) hn))) (by omega) (by omega) hps ht
  have hca := caught_ok_blocks (.pointer (some ⟨w.heap.size, 0, none⟩)) W1 (fun w' => (∃ i, Inf w' w.heap.size (strOf (pack B)) i t.data.toList most cap) ∧ Kb w.heap.size W2 w' ∧ w'.cell? ⟨w.heap.size + 1, 0, none⟩ = some .nilIface) (by
    rw [← hW2]
    refine hbk.mono ?_
    intro e w' h
    unfold Ends at h
    rw [if_pos hm] at h
    obtain ⟨rfl, h1, h2⟩ := h
    have e1 := h2.old W1.heap.size (by omega) (by omega)
    rw [s1] at e1 ⊢
    exact ⟨rfl, ⟨h1, h2, (World.cell?_of_block (a := ⟨w.heap.size + 1, 0, none⟩) e1).trans hc⟩, by have := h2.size; omega, (World.cell?_of_block (a := ⟨w.heap.size + 1, 0, none⟩) e1).trans hc, (World.frozen?_of_block (a := ⟨w.heap.size + 1, 0, none⟩) e1).trans hz⟩)
  have hmf : ∀ (fn : Fn) (first cap : Array Value) (w : World), (Instr.makeFunc fn first cap).run Tryd.prog w = .ok (.func fn first cap) w := fun _ _ _ _ => rfl
  have HS1 : Hid (W1.heap.size = w.heap.size + 1 ∧ W2.heap.size = w.heap.size + 2 ∧ Fr w.heap.size w W2) := ⟨s1, s2, hfr⟩
  rw [hW1] at hca
  clear hI hnil hfr hc hz hbk hps hB hBl ht hm hE hn hS hT hW2
  go_enter Tryd.func12, Tryd.ntmps12
  go_wp2_with (go_at_call 21; refine hca.mono ?_; rintro e w3 ⟨rfl, w4, ⟨⟨i, hi4⟩, hkb, hnc⟩, rfl⟩; obtain ⟨v, hc2, hrow, -, -⟩ := hi4.c2; obtain ⟨q1, q2⟩ := set_same w4 (w.heap.size + 1) .nilIface hnc; have hc2' := (q1 w.heap.size 2).trans hc2; have hrow' : Bytes (w4.setCell ⟨w.heap.size + 1, 0, none⟩ .nilIface) v t.data.toList := Row.same hrow q1 q2 (by simp); have hcv := row_string (P := Tryd.prog) hrow' 39 5 9 Tryd.underlying39 Tryd.underlying5 Tryd.underlying9; rw [strOf_self] at hcv; obtain ⟨a4, c4, hv4⟩ := hrow.shape; rw [hv4] at hc2' hcv; clear hc2 hrow hrow' q1 q2; generalize t.data.toList.length = M at hc2' hcv)
  go_ret2
  have hs := HS1.out
  exact ⟨rfl, hs.2.2.trans ((hkb.fr (by omega)).trans (Fr.set _ _ _ (by simp)))⟩

set_option maxRecDepth 8000 in
set_option maxHeartbeats 2000000 in
theorem finflate_cap (t : ByteArray) (B : List Bool) (most : Int) (cv : Value) (w : World) (hB : Rest t 0 0 B) (hBl : B.length ≤ 1000000000) (ht : t.size ≤ 1000000) (h0 : 0 ≤ most) (hm : most < (t.size : Int)) (hE : FErr w (.iface 131 cv)) (hn : 32 ≤ w.heap.size) (hS : SpAt w 20 lenF) (hT : SpAt w 21 disF) :
    Calls Tryd.prog 12 #[.string (strOf (pack B)), .int .i64 most] w fun e w' => e = .returned (.tuple #[.string ⟨#[]⟩, .iface 131 cv]) ∧ Fr w.heap.size w w' := by
  obtain ⟨W1, W2, hW1, hW2, s1, s2, hI, hnil, hfr, hc, hz⟩ := ifl_start (strOf (pack B)) most (.iface 131 cv) w 63 31 hE hn
  have hps : (strOf (pack B)).size ≤ 70368744177 := by rw [strOf_size, pack_length]; omega
  have hbk := blocks_any w.heap.size (strOf (pack B)) t B most (.iface 131 cv) W2 hI hnil (strOf_data _) hB (hS.carry (hfr.old _ (Nat.lt_of_lt_of_le (by decide) hn))) (hT.carry (hfr.old _ (Nat.lt_of_lt_of_le (by decide) hn))) (by omega) (by omega) hps ht
  have hca := caught_stop_blocks (.pointer (some ⟨w.heap.size, 0, none⟩)) 131 cv W1 (fun w' => Kb w.heap.size W2 w') (by
    rw [← hW2]
    refine hbk.mono ?_
    intro e w' h
    unfold Ends at h
    rw [if_neg (by omega)] at h
    obtain ⟨rfl, h2⟩ := h
    have e1 := h2.old W1.heap.size (by omega) (by omega)
    rw [s1] at e1 ⊢
    exact ⟨rfl, h2, by have := h2.size; omega, (World.cell?_of_block (a := ⟨w.heap.size + 1, 0, none⟩) e1).trans hc, (World.frozen?_of_block (a := ⟨w.heap.size + 1, 0, none⟩) e1).trans hz⟩)
  have hmf : ∀ (fn : Fn) (first cap : Array Value) (w : World), (Instr.makeFunc fn first cap).run Tryd.prog w = .ok (.func fn first cap) w := fun _ _ _ _ => rfl
  have HS1 : Hid (W1.heap.size = w.heap.size + 1 ∧ W2.heap.size = w.heap.size + 2 ∧ Fr w.heap.size w W2) := ⟨s1, s2, hfr⟩
  rw [hW1] at hca
  clear hI hnil hfr hc hz hbk hps hB hBl ht hm hE hn hS hT hW2 h0
  go_enter Tryd.func12, Tryd.ntmps12
  go_wp2_with (go_at_call 21; refine hca.mono ?_; rintro e w3 ⟨rfl, w4, hkb, rfl⟩)
  go_ret2
  have hs := HS1.out
  have hk := hkb.size
  exact ⟨rfl, hs.2.2.trans ((hkb.fr (by omega)).trans ((Fr.alloc _ _ (by omega)).trans (Fr.set _ _ _ (by simp))))⟩
end Go.Proofs.YtohfpmlofjhigaaDoor
