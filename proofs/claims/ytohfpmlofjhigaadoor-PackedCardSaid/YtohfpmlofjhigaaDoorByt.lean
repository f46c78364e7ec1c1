/-
  Bytes of one's own, and as a string.
-/
import Derived.Test.YtohfpmlofjhigaaDoorProg
import Derived.Test.YtohfpmlofjhigaaDoorRow
import Derived.Laws.BytesArg
import Derived.Deep.QuietTactic
import Derived.BigQuiet
namespace Go.Proofs.YtohfpmlofjhigaaDoor
open Go Go.RowKit Go.Extern.Stop Go.Stop Go.Extern

theorem Tryd.infoU8 : (Tryd.prog.info? 5).map (fun i => (i.zero, i.size, i.bytes)) = some (some (.int .u8 0), 1, 1) := by kernel_rfl
def cellsOf (bs : List UInt8) : List Value := bs.map fun b => Value.int .u8 b.toNat
theorem cellsOf_append (a b : List UInt8) : cellsOf (a ++ b) = cellsOf a ++ cellsOf b := List.map_append
/-- Bytes of one's own. -/
abbrev Bytes (w : World) (v : Value) (bs : List UInt8) : Prop := Row w 1 v bs.length (cellsOf bs)
/-- Bytes as a string. -/
def strOf (bs : List UInt8) : ByteArray := ⟨bs.toArray⟩
theorem strOf_data (bs : List UInt8) : (strOf bs).data.toList = bs := by simp [strOf]
theorem strOf_size (bs : List UInt8) : (strOf bs).size = bs.length := by simp [strOf, ByteArray.size]

theorem row_string {P : Program} {w : World} {v : Value} {bs : List UInt8} (h : Bytes w v bs) (src e dst : TypeId) (hs : P.underlying src = some (.slice e)) (he : P.underlying e = some (.int .u8)) (hd : P.underlying dst = some .string) :
    (convert src dst v).run P w = .ok (.string (strOf bs)) w := by
  rcases h with ⟨rfl, h0, h1⟩ | ⟨g, c, rfl, h⟩
  · have hb : bs = [] := List.eq_nil_of_length_eq_zero h0
    rw [run_convert_bytes_nil w src e hs he 0 0 dst hd, hb]
    rfl
  · rw [run_convert_bytes_arg w src e hs he g 0 bs.length c (bs.map fun b => (b.toNat : Int)) (by simp) (fun i hi => ?_) dst hd]
    · congr 2
      unfold strOfNums strOf
      simp only [List.map_map]
      congr 2
      conv => rhs; rw [← List.map_id bs]
      apply List.map_congr_left
      intro x _
      simp
    · rw [Nat.zero_add, h.holds i (by simpa using hi)]
      simp [cellsOf, List.getD, List.getElem?_eq_getElem hi]
/-- Byte i of a slice of one's own. -/
theorem RowAt.byte {w : World} {g c : Nat} {bs : List UInt8} (h : RowAt w 1 g c bs.length (cellsOf bs)) (i : Nat) (hi : i < bs.length) : w.cell? ⟨g, i, none⟩ = some (.int .u8 (bs[i].toNat : Int)) := by
  rw [h.holds i (by omega)]
  simp [cellsOf, List.getElem?_eq_getElem hi]

/-- Of what was there only block db's cells 1 and sl, and the block of the slice in cell sl, may have turned. -/
def blkAt (w : World) (db sl : Nat) : Option Nat := (w.cell? ⟨db, sl, none⟩).bind blk
structure Kp (db sl : Nat) (w w' : World) : Prop where
  os : w'.os = w.os
  output : w'.output = w.output
  size : w.heap.size ≤ w'.heap.size
  old : ∀ i, i < w.heap.size → i ≠ db → blkAt w db sl ≠ some i → w'.heap[i]? = w.heap[i]?
  rest : ∀ o, o ≠ 1 → o ≠ sl → w'.cell? ⟨db, o, none⟩ = w.cell? ⟨db, o, none⟩
  froz : ∀ o, w'.frozen? ⟨db, o, none⟩ = w.frozen? ⟨db, o, none⟩
  at' : blkAt w' db sl = blkAt w db sl ∨ ∃ g, w.heap.size ≤ g ∧ blkAt w' db sl = some g
theorem Kp.refl (db sl : Nat) (w : World) : Kp db sl w w := ⟨rfl, rfl, Nat.le_refl _, fun _ _ _ _ => rfl, fun _ _ _ => rfl, fun _ => rfl, .inl rfl⟩
theorem Kp.ne {db sl : Nat} {w w' : World} (h : Kp db sl w w') {i : Nat} (hi : i < w.heap.size) (hne : blkAt w db sl ≠ some i) : blkAt w' db sl ≠ some i := by
  rcases h.at' with e | ⟨g, hg, e⟩
  · rw [e]; exact hne
  · rw [e]; intro e'; cases e'; omega
theorem Kp.trans {db sl : Nat} {a b c : World} (h : Kp db sl a b) (k : Kp db sl b c) : Kp db sl a c := by
  refine ⟨k.os.trans h.os, k.output.trans h.output, Nat.le_trans h.size k.size, fun i hi hd hne => ?_, fun o h1 h2 => (k.rest o h1 h2).trans (h.rest o h1 h2), fun o => (k.froz o).trans (h.froz o), ?_⟩
  · rw [k.old i (Nat.lt_of_lt_of_le hi h.size) hd (h.ne hi hne), h.old i hi hd hne]
  · rcases k.at' with e | ⟨g, hg, e⟩
    · rcases h.at' with e1 | ⟨g, hg, e1⟩
      · exact .inl (e.trans e1)
      · exact .inr ⟨g, hg, e.trans e1⟩
    · exact .inr ⟨g, Nat.le_trans h.size hg, e⟩
theorem Kp.cell {db sl : Nat} {w w' : World} (h : Kp db sl w w') {b o : Nat} {x : Value} (hd : b ≠ db) (hne : blkAt w db sl ≠ some b) (hx : w.cell? ⟨b, o, none⟩ = some x) : w'.cell? ⟨b, o, none⟩ = some x :=
  (World.cell?_of_block (a := ⟨b, o, none⟩) (h.old b (World.block_lt_of_cell? _ _ hx) hd hne)).trans hx
theorem Kp.drewN (db sl : Nat) (w : World) : ∀ n, Kp db sl w (w.drewN n)
  | 0 => Kp.refl _ _ _
  | n + 1 => (Kp.drewN db sl w n).trans ⟨rfl, rfl, Nat.le_refl _, fun _ _ _ _ => rfl, fun _ _ _ => rfl, fun _ => rfl, .inl rfl⟩
theorem Kp.drew (db sl : Nat) (w : World) : Kp db sl w w.drew := ⟨rfl, rfl, Nat.le_refl _, fun _ _ _ _ => rfl, fun _ _ _ => rfl, fun _ => rfl, .inl rfl⟩
theorem Kp.alloc (db sl : Nat) (w : World) (o : Obj) (hdb : db < w.heap.size) : Kp db sl w (w.alloc o) := by
  refine ⟨rfl, rfl, by show w.heap.size ≤ (w.heap.push o).size; rw [Array.size_push]; omega, fun i hi _ _ => Below.heap_alloc w o i hi, fun k _ _ => World.cell?_alloc_lt w o ⟨db, k, none⟩ hdb, fun k => World.frozen?_alloc_old w o ⟨db, k, none⟩ (Nat.ne_of_lt hdb), .inl ?_⟩
  unfold blkAt
  rw [World.cell?_alloc_lt w o ⟨db, sl, none⟩ hdb]
/-- Cell 1 is stored. -/
theorem Kp.set1 (db sl : Nat) (w : World) (v : Value) (hsl : sl ≠ 1) : Kp db sl w (w.setCell ⟨db, 1, none⟩ v) := by
  refine ⟨rfl, rfl, by simp, fun i _ hd _ => Below.heap_setCell w ⟨db, 1, none⟩ v i hd, fun o h1 _ => World.cell?_setCell_other _ _ _ _ (by simp <;> omega), fun o => by rw [World.frozen?_setCell], .inl ?_⟩
  unfold blkAt
  rw [World.cell?_setCell_other _ _ _ _ (by simp <;> omega)]
/-- A cell of the slice's own block is stored. -/
theorem Kp.setIn (db sl g o : Nat) (w : World) (v : Value) (hg : blkAt w db sl = some g) (hgd : g ≠ db) : Kp db sl w (w.setCell ⟨g, o, none⟩ v) := by
  refine ⟨rfl, rfl, by simp, fun i _ _ hne => Below.heap_setCell w ⟨g, o, none⟩ v i (fun e => hne (by rw [hg]; exact congrArg some e.symm)), fun k _ _ => World.cell?_setCell_other _ _ _ _ (by simp <;> omega), fun k => by rw [World.frozen?_setCell], .inl ?_⟩
  unfold blkAt
  rw [World.cell?_setCell_other _ _ _ _ (by simp <;> omega)]
/-- What grew is stored in cell sl. -/
theorem Kp.grew {db sl : Nat} {w w' : World} {v v' : Value} (h : Grew w v w' v') (hc : w.cell? ⟨db, sl, none⟩ = some v) (hv : blk v ≠ some db) : Kp db sl w (w'.setCell ⟨db, sl, none⟩ v') := by
  have hdb : db < w.heap.size := World.block_lt_of_cell? _ _ hc
  have e := h.old db hdb hv
  refine ⟨h.os, h.output, by simp; exact h.size, fun i hi hd hne => ?_, fun o _ h2 => ?_, fun o => ?_, ?_⟩
  · rw [Below.heap_setCell w' ⟨db, sl, none⟩ v' i hd]
    exact h.old i hi (by unfold blkAt at hne; rw [hc] at hne; exact hne)
  · rw [World.cell?_setCell_other _ _ _ _ (by simp <;> omega)]
    exact World.cell?_of_block (a := ⟨db, o, none⟩) e
  · rw [World.frozen?_setCell]
    exact World.frozen?_of_block (a := ⟨db, o, none⟩) e
  · have h1 : blkAt (w'.setCell ⟨db, sl, none⟩ v') db sl = blk v' := by
      unfold blkAt
      rw [World.cell?_setCell_same _ _ _ ((World.cell?_of_block (a := ⟨db, sl, none⟩) e).trans hc)]
      rfl
    have h2 : blkAt w db sl = blk v := by unfold blkAt; rw [hc]; rfl
    rw [h1, h2]
    exact h.at'
/-- A byte is stored. -/
theorem RowAt.put {w : World} {g c N : Nat} {cs : List Value} (h : RowAt w 1 g c N cs) (i : Nat) (hi : i < N) (v : Value) : RowAt (w.setCell ⟨g, i, none⟩ v) 1 g c N (cs.set i v) := by
  refine ⟨by simp; exact h.lt, h.le, h.max, by simpa using h.len, fun j hj => ?_, fun j hj => ⟨?_, ?_⟩⟩
  · have hl := h.len
    by_cases e : j = i
    · subst e
      obtain ⟨x, hx⟩ := Option.isSome_iff_exists.1 (h.there j (by have := h.le; omega)).1
      rw [World.cell?_setCell_same _ _ _ hx, List.getElem?_set_self (by omega)]
    · rw [World.cell?_setCell_other _ _ _ _ (by simp <;> exact e), h.holds j hj, List.getElem?_set_ne (fun e' => e e'.symm)]
  · by_cases e : j = i
    · subst e
      obtain ⟨x, hx⟩ := Option.isSome_iff_exists.1 (h.there j hj).1
      rw [World.cell?_setCell_same _ _ _ hx]
      rfl
    · rw [World.cell?_setCell_other _ _ _ _ (by simp <;> exact e)]
      exact (h.there j hj).1
  · rw [World.frozen?_setCell]
    exact (h.there j hj).2
end Go.Proofs.YtohfpmlofjhigaaDoor
