/-
  flate: (*bitWriter).bit, where a byte is begun.
-/
import Derived.Test.YtohfpmlofjhigaaDoorWri
namespace Go.Proofs.YtohfpmlofjhigaaDoor
open Go Go.RowKit Go.Extern.Stop Go.Stop Go.Extern

set_option maxRecDepth 8000 in
set_option maxHeartbeats 1000000 in
theorem bit_new (db : Nat) (B : List Bool) (b : Bool) (w : World) (hN : B.length ≤ 70368744177664) (hW : Wr w db B) (h8 : B.length % 8 = 0) :
    Calls Tryd.prog 47 #[.pointer (some ⟨db, 0, none⟩), .int .i64 b.toNat] w fun e w' => e = .returned (.tuple #[]) ∧ Wr w' db (B ++ [b]) ∧ Kp db 0 w w' := by
  obtain ⟨i, hi, hi'⟩ := Option.map_eq_some_iff.1 Tryd.infoU8
  obtain ⟨hz0, hz1, hz2⟩ : i.zero = some (.int .u8 0) ∧ i.size = 1 ∧ i.bytes = 1 := by simpa using hi'
  obtain ⟨⟨v, c0, hrow, hbd⟩, c1, f0, f1⟩ := hW
  have hdb : db < w.heap.size := World.block_lt_of_cell? _ _ c0
  · have HP : Hid (pack (B ++ [b]) = pack B ++ [UInt8.ofNat b.toNat]) := pack_bit B b h8
    have HB : Hid ((pack B).length + 1 ≤ 70368744177674) := by show _ ≤ _; rw [pack_length]; omega
    have hm : (Int.tmod (B.length : Int) 8 == 0) = true := by rw [Int.tmod_eq_emod_of_nonneg (by omega)]; simp; omega
    have hm' : Int.tmod (B.length : Int) 8 = 0 := by simpa using hm
    have HNN : Hid (0 ≤ (B.length : Int) ∧ (B.length : Int) ≤ 70368744177664) := by show _ ∧ _; omega
    have hl : (cellsOf (pack B)).length = (pack B).length := by simp [cellsOf]
    change Row w 1 v (pack B).length (cellsOf (pack B)) at hrow
    generalize hcs : cellsOf (pack B) = cs at *
    generalize hpm : (pack B).length = m at *
    generalize hx : (b.toNat : Int) = x at *
    generalize hn : (B.length : Int) = n at *
    clear h8 hN
    go_enter Tryd.func47, Tryd.ntmps47
    go_wp2_with (at_builtin; refine wpList_append_row _ rfl (.tmp 14) (.tmp 15) 39 39 rfl (by decide) i (.int .u8 0) 1 Tryd.underlying39 hi hz0 hz1 hz2 rfl rfl (hrow.alloc _) _ 1 [_] rfl (Src.one _ Tryd.underlying39 _ _ rfl) (by have := HB.out; unfold maxLen; omega) (by have := HB.out; omega) ?_; intro v2 w2 hrow2 hg2; obtain ⟨g, c, hv2, hr2⟩ := Row.some hrow2 (by omega); subst hv2; have hg0 := (Grew.alloc w v (Obj.cells #[Value.int IntKind.u8 0] 5)).trans hg2; have f0' : w2.frozen? ⟨db, 0, none⟩ = false := (World.frozen?_of_block (a := ⟨db, 0, none⟩) (hg0.old db hdb hbd)).trans f0; have c0' : w2.cell? ⟨db, 0, none⟩ = some v := hg0.cell hdb hbd c0)
    have hk := Kp.grew hg0 c0 hbd
    have hgd : g ≠ db := by
      rcases hg0.at' with e | ⟨g', h1, e⟩
      · intro e'; exact hbd (by rw [← e, ← e']; rfl)
      · have : g = g' := by simpa [blk] using e
        omega
    have k0 : (w2.setCell ⟨db, 0, none⟩ (.slice (some ⟨g, 0, none⟩) (m + 1) c)).cell? ⟨db, 0, none⟩ = some (.slice (some ⟨g, 0, none⟩) (m + 1) c) := World.cell?_setCell_same _ _ _ c0'
    have k1 : (w2.setCell ⟨db, 0, none⟩ (.slice (some ⟨g, 0, none⟩) (m + 1) c)).cell? ⟨db, 1, none⟩ = some (.int .i64 n) := (World.cell?_setCell_other _ _ _ _ (by simp)).trans (hg0.cell hdb hbd c1)
    have kr : RowAt (w2.setCell ⟨db, 0, none⟩ (.slice (some ⟨g, 0, none⟩) (m + 1) c)) 1 g c (m + 1) (cs ++ [Value.int .u8 0]) := by
      rcases Row.carry (.inr ⟨g, c, rfl, hr2⟩) (w' := w2.setCell ⟨db, 0, none⟩ (.slice (some ⟨g, 0, none⟩) (m + 1) c)) (fun i hi => by
        obtain rfl : g = i := by simpa [blk] using hi
        exact Below.heap_setCell w2 ⟨db, 0, none⟩ _ g hgd) with ⟨e, _⟩ | ⟨g', c', e, h⟩
      · cases e
      · cases e; exact h
    have kf : (w2.setCell ⟨db, 0, none⟩ (.slice (some ⟨g, 0, none⟩) (m + 1) c)).frozen? ⟨db, 1, none⟩ = false := by rw [hk.froz 1]; exact f1
    have kz : (w2.setCell ⟨db, 0, none⟩ (.slice (some ⟨g, 0, none⟩) (m + 1) c)).frozen? ⟨db, 0, none⟩ = false := by rw [hk.froz 0]; exact f0
    generalize w2.setCell ⟨db, 0, none⟩ (.slice (some ⟨g, 0, none⟩) (m + 1) c) = W at *
    clear hr2 hrow2 hg2 hg0 f0' c0' c0 c1 hrow
    have kl : W.cell? ⟨g, m, none⟩ = some (.int .u8 0) := by
      rw [kr.holds _ (by omega), List.getElem?_append_right (by omega), hl]; simp
    have klf : W.frozen? ⟨g, m, none⟩ = false := (kr.there _ (by have := kr.le; omega)).2
    have HKR : Hid (RowAt W 1 g c (m + 1) (cs ++ [Value.int .u8 0])) := kr
    clear kr
    have hwm : wrap64 (m : Int) = m := by have := HB.out; unfold wrap64; omega
    have hwk : IntKind.i64.wrap (m : Int) = m := by rw [IntKind.wrap_i64]; unfold wrap64 at hwm; exact hwm
    go_region
    have kr2 : RowAt (W.setCell ⟨g, m, none⟩ (.int .u8 (Go.bits .or .u8 0 (wrap64 x % 256)))).drew 1 g c (m + 1) (cellsOf (pack (B ++ [b]))) := by
      have e1 : Go.bits .or .u8 0 (wrap64 x % 256) = ((UInt8.ofNat b.toNat).toNat : Int) := by rw [← hx]; cases b <;> kernel_rfl
      have e2 : cellsOf (pack (B ++ [b])) = (cs ++ [Value.int .u8 0]).set m (.int .u8 ((UInt8.ofNat b.toNat).toNat : Int)) := by
        rw [HP.out, cellsOf_append, hcs, List.set_append_right _ _ (by omega), hl]
        simp [cellsOf]
      rw [e1, e2]
      have := HKR.out.put m (by omega) (.int .u8 ((UInt8.ofNat b.toNat).toNat : Int))
      exact ⟨this.lt, this.le, this.max, this.len, this.holds, this.there⟩
    have hkk : Kp db 0 w (W.setCell ⟨g, m, none⟩ (.int .u8 (Go.bits .or .u8 0 (wrap64 x % 256)))).drew := (hk.trans (Kp.setIn db 0 g m W _ (by unfold blkAt; rw [k0]; rfl) hgd)).trans (Kp.drew _ _ _)
    have q0 : (W.setCell ⟨g, m, none⟩ (.int .u8 (Go.bits .or .u8 0 (wrap64 x % 256)))).drew.cell? ⟨db, 0, none⟩ = some (.slice (some ⟨g, 0, none⟩) (m + 1) c) := (World.cell?_setCell_other _ _ _ _ (by simp <;> omega)).trans k0
    have q1 : (W.setCell ⟨g, m, none⟩ (.int .u8 (Go.bits .or .u8 0 (wrap64 x % 256)))).drew.cell? ⟨db, 1, none⟩ = some (.int .i64 n) := (World.cell?_setCell_other _ _ _ _ (by simp <;> omega)).trans k1
    have qf : (W.setCell ⟨g, m, none⟩ (.int .u8 (Go.bits .or .u8 0 (wrap64 x % 256)))).drew.frozen? ⟨db, 1, none⟩ = false := by show World.frozen? (World.setCell _ _ _) _ = false; rw [World.frozen?_setCell]; exact kf
    have qz : (W.setCell ⟨g, m, none⟩ (.int .u8 (Go.bits .or .u8 0 (wrap64 x % 256)))).drew.frozen? ⟨db, 0, none⟩ = false := by show World.frozen? (World.setCell _ _ _) _ = false; rw [World.frozen?_setCell]; exact kz
    generalize (W.setCell ⟨g, m, none⟩ (.int .u8 (Go.bits .or .u8 0 (wrap64 x % 256)))).drew = W2 at *
    have hwn : wrap64 (n + 1) = n + 1 := by have := HNN.out; unfold wrap64; omega
    clear kl klf k0 k1 kf kz hk
    go_wp2
    go_end0
    subst hn
    exact ⟨rfl, Wr.bit hgd hkk q0 q1 qz qf kr2 (by simp)⟩
end Go.Proofs.YtohfpmlofjhigaaDoor
