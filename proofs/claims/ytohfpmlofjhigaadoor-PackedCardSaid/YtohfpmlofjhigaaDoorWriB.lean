/-
  flate: (*bitWriter).bit, within a byte.
-/
import Derived.Test.YtohfpmlofjhigaaDoorWri
namespace Go.Proofs.YtohfpmlofjhigaaDoor
open Go Go.RowKit Go.Extern.Stop Go.Stop Go.Extern

set_option maxRecDepth 8000 in
set_option maxHeartbeats 1000000 in
theorem bit_more (db : Nat) (B : List Bool) (b : Bool) (W : World) (hN : B.length ≤ 70368744177664) (hW : Wr W db B) (h8 : B.length % 8 ≠ 0) :
    Calls Tryd.prog 47 #[.pointer (some ⟨db, 0, none⟩), .int .i64 b.toNat] W fun e w' => e = .returned (.tuple #[]) ∧ Wr w' db (B ++ [b]) ∧ Kp db 0 W w' := by
  obtain ⟨⟨v, k0, hrow, hbd⟩, k1, kz, kf⟩ := hW
  have hpl : (pack B).length = B.length / 8 + 1 := by rw [pack_length]; omega
  change Row W 1 v (pack B).length (cellsOf (pack B)) at hrow
  rw [hpl] at hrow
  obtain ⟨g, c, hv, hr⟩ := Row.some hrow (by omega)
  subst hv
  have hgd : g ≠ db := fun e => hbd (by rw [e]; rfl)
  have HP : Hid (pack (B ++ [b]) = (pack B).take (B.length / 8) ++ [UInt8.ofNat (byteAt B (B.length / 8) + b.toNat * 2 ^ (B.length % 8))]) := pack_more B b h8
  have HO : Hid (Go.bits .or .u8 (byteAt B (B.length / 8) : Int) (((b.toNat * 2 ^ (B.length % 8) : Nat) : Int) % 256) = ((byteAt B (B.length / 8) + b.toNat * 2 ^ (B.length % 8) : Nat) : Int)) := or_low _ _ _ (byteAt_open B) (by omega)
  have HY : Hid (byteAt B (B.length / 8) + b.toNat * 2 ^ (B.length % 8) < 256) := by
    show _ < _
    rw [← byteAt_last]
    exact byteAt_lt _ _
  have HSH : Hid (wrap64 ((b.toNat : Int) * 2 ^ (B.length % 8)) = ((b.toNat * 2 ^ (B.length % 8) : Nat) : Int)) := by
    show _ = _
    have e : (b.toNat : Int) * 2 ^ (B.length % 8) = ((b.toNat * 2 ^ (B.length % 8) : Nat) : Int) := by push_cast; rfl
    have hy : byteAt B (B.length / 8) + b.toNat * 2 ^ (B.length % 8) < 256 := HY.out
    rw [e]
    unfold wrap64
    omega
  have hm' : Int.tmod (B.length : Int) 8 = ((B.length % 8 : Nat) : Int) := by rw [Int.tmod_eq_emod_of_nonneg (by omega)]; omega
  have hm : (((B.length % 8 : Nat) : Int) == 0) = false := by simp; omega
  have hk64 : ((B.length % 8 : Nat) : Int) < 64 := by omega
  have HNN : Hid (0 ≤ (B.length : Int) ∧ (B.length : Int) ≤ 70368744177664) := by show _ ∧ _; omega
  have hcl : (cellsOf (pack B)).length = B.length / 8 + 1 := by simp [cellsOf]; omega
  have hwm : wrap64 ((B.length / 8 : Nat) : Int) = ((B.length / 8 : Nat) : Int) := by unfold wrap64; omega
  have hwk : IntKind.i64.wrap ((B.length / 8 : Nat) : Int) = ((B.length / 8 : Nat) : Int) := by rw [IntKind.wrap_i64]; unfold wrap64 at hwm; exact hwm
  have kl : W.cell? ⟨g, B.length / 8, none⟩ = some (.int .u8 (byteAt B (B.length / 8) : Int)) := by
    rw [hr.holds _ (by omega)]
    unfold cellsOf
    rw [List.getElem?_map, List.getElem?_eq_getElem (by omega), pack_get]
    simp only [Option.map_some, ofNat_byteAt]
  have klf : W.frozen? ⟨g, B.length / 8, none⟩ = false := (hr.there _ (by have := hr.le; omega)).2
  have HKR : Hid (RowAt W 1 g c (B.length / 8 + 1) (cellsOf (pack B))) := hr
  have HT : Hid (cellsOf (pack (B ++ [b])) = (cellsOf (pack B)).set (B.length / 8) (.int .u8 ((byteAt B (B.length / 8) + b.toNat * 2 ^ (B.length % 8) : Nat) : Int))) := by
    show _ = _
    rw [HP.out, cellsOf_append]
    have e1 : cellsOf (pack B) = cellsOf ((pack B).take (B.length / 8)) ++ cellsOf ((pack B).drop (B.length / 8)) := by rw [← cellsOf_append, List.take_append_drop]
    have e2 : (cellsOf ((pack B).take (B.length / 8))).length = B.length / 8 := by simp [cellsOf]; omega
    have hd : ((pack B).drop (B.length / 8)).length = 1 := by rw [List.length_drop]; omega
    obtain ⟨z, hz⟩ := List.length_eq_one_iff.1 hd
    rw [e1, List.set_append_right _ _ (by omega), e2, hz]
    simp only [cellsOf, List.map_cons, List.map_nil, Nat.sub_self, List.set_cons_zero]
    rw [UInt8.toNat_ofNat_of_lt' HY.out]
  clear hr hrow hbd HP
  generalize hmm : B.length / 8 = m at *
  generalize hkk : B.length % 8 = k at *
  generalize hyy : byteAt B m = y at *
  generalize hx : (b.toNat : Int) = x at *
  generalize hn : (B.length : Int) = n at *
  clear h8 hN
  go_enter Tryd.func47, Tryd.ntmps47
  go_wp2
  go_region
  have e1 : Go.bits .or .u8 (y : Int) (wrap64 (x * 2 ^ k) % 256) = ((y + b.toNat * 2 ^ k : Nat) : Int) := by rw [HSH.out]; exact HO.out
  have kr2 : RowAt (W.setCell ⟨g, m, none⟩ (.int .u8 (Go.bits .or .u8 (y : Int) (wrap64 (x * 2 ^ k) % 256)))).drew 1 g c (m + 1) (cellsOf (pack (B ++ [b]))) := by
    rw [e1, HT.out]
    have := HKR.out.put m (by omega) (.int .u8 ((y + b.toNat * 2 ^ k : Nat) : Int))
    exact ⟨this.lt, this.le, this.max, this.len, this.holds, this.there⟩
  have hkp : Kp db 0 W (W.setCell ⟨g, m, none⟩ (.int .u8 (Go.bits .or .u8 (y : Int) (wrap64 (x * 2 ^ k) % 256)))).drew := (Kp.setIn db 0 g m W _ (by unfold blkAt; rw [k0]; rfl) hgd).trans (Kp.drew _ _ _)
  have q0 : (W.setCell ⟨g, m, none⟩ (.int .u8 (Go.bits .or .u8 (y : Int) (wrap64 (x * 2 ^ k) % 256)))).drew.cell? ⟨db, 0, none⟩ = some (.slice (some ⟨g, 0, none⟩) (m + 1) c) := (World.cell?_setCell_other _ _ _ _ (by simp <;> omega)).trans k0
  have q1 : (W.setCell ⟨g, m, none⟩ (.int .u8 (Go.bits .or .u8 (y : Int) (wrap64 (x * 2 ^ k) % 256)))).drew.cell? ⟨db, 1, none⟩ = some (.int .i64 n) := (World.cell?_setCell_other _ _ _ _ (by simp <;> omega)).trans k1
  have qf : (W.setCell ⟨g, m, none⟩ (.int .u8 (Go.bits .or .u8 (y : Int) (wrap64 (x * 2 ^ k) % 256)))).drew.frozen? ⟨db, 1, none⟩ = false := by show World.frozen? (World.setCell _ _ _) _ = false; rw [World.frozen?_setCell]; exact kf
  have qz : (W.setCell ⟨g, m, none⟩ (.int .u8 (Go.bits .or .u8 (y : Int) (wrap64 (x * 2 ^ k) % 256)))).drew.frozen? ⟨db, 0, none⟩ = false := by show World.frozen? (World.setCell _ _ _) _ = false; rw [World.frozen?_setCell]; exact kz
  generalize (W.setCell ⟨g, m, none⟩ (.int .u8 (Go.bits .or .u8 (y : Int) (wrap64 (x * 2 ^ k) % 256)))).drew = W2 at *
  have hwn : wrap64 (n + 1) = n + 1 := by have := HNN.out; unfold wrap64; omega
  clear kl klf
  go_wp2
  go_end0
  subst hn
  exact ⟨rfl, Wr.bit hgd hkp q0 q1 qz qf kr2 (by simp)⟩
end Go.Proofs.YtohfpmlofjhigaaDoor
