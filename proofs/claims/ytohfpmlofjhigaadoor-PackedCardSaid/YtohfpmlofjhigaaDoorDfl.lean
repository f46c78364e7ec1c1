/-
  flate: the deflater as it lies in memory; threeAt, lastOf.
-/
import Derived.Test.YtohfpmlofjhigaaDoorPrev
import Derived.Test.YtohfpmlofjhigaaDoorWri
import Derived.WideKeyArr
import Derived.Maps.Own
import Derived.Maps.OwnSet
import Derived.Maps.Views
namespace Go.Proofs.YtohfpmlofjhigaaDoor
open Go Go.RowKit Go.Extern.Stop Go.Stop Go.Extern Go.Maps Go.WideMaps

/-- Of what was there below block n0 nothing has turned. -/
structure Fr (n0 : Nat) (w w' : World) : Prop where
  os : w'.os = w.os
  output : w'.output = w.output
  size : w.heap.size ≤ w'.heap.size
  old : ∀ i, i < n0 → w'.heap[i]? = w.heap[i]?
theorem Fr.refl (n0 : Nat) (w : World) : Fr n0 w w := ⟨rfl, rfl, Nat.le_refl _, fun _ _ => rfl⟩
theorem Fr.trans {n0 : Nat} {a b c : World} (h : Fr n0 a b) (k : Fr n0 b c) : Fr n0 a c := ⟨k.os.trans h.os, k.output.trans h.output, Nat.le_trans h.size k.size, fun i hi => (k.old i hi).trans (h.old i hi)⟩
theorem Fr.mono {n0 n1 : Nat} {a b : World} (h : Fr n0 a b) (hn : n1 ≤ n0) : Fr n1 a b := ⟨h.os, h.output, h.size, fun i hi => h.old i (by omega)⟩
theorem Fr.below {n0 : Nat} {a b : World} (h : Below n0 a b) : Fr n0 a b := ⟨h.os, h.output, h.size, h.block⟩
theorem Fr.drew (n0 : Nat) (w : World) : Fr n0 w w.drew := ⟨rfl, rfl, Nat.le_refl _, fun _ _ => rfl⟩
theorem Fr.drewN (n0 : Nat) (w : World) : ∀ n, Fr n0 w (w.drewN n)
  | 0 => Fr.refl _ _
  | n + 1 => (Fr.drewN n0 w n).trans (Fr.drew _ _)
theorem Fr.alloc {n0 : Nat} (w : World) (o : Obj) (h : n0 ≤ w.heap.size) : Fr n0 w (w.alloc o) := Fr.below ((Below.refl _ _).alloc h o)
theorem Fr.set {n0 : Nat} (w : World) (a : Addr) (v : Value) (h : n0 ≤ a.block) : Fr n0 w (w.setCell a v) := Fr.below ((Below.refl _ _).setCell h v)
theorem Fr.cell {n0 : Nat} {w w' : World} (h : Fr n0 w w') {b o : Nat} (hb : b < n0) : w'.cell? ⟨b, o, none⟩ = w.cell? ⟨b, o, none⟩ := World.cell?_of_block (a := ⟨b, o, none⟩) (h.old b hb)
theorem Fr.frozen {n0 : Nat} {w w' : World} (h : Fr n0 w w') {b o : Nat} (hb : b < n0) : w'.frozen? ⟨b, o, none⟩ = w.frozen? ⟨b, o, none⟩ := World.frozen?_of_block (a := ⟨b, o, none⟩) (h.old b hb)
theorem Fr.row {n0 : Nat} {w w' : World} (h : Fr n0 w w') {size : Nat} {v : Value} {N : Nat} {cs : List Value} (hr : Row w size v N cs) (hb : ∀ i, blk v = some i → i < n0) : Row w' size v N cs := hr.carry fun i hi => h.old i (hb i hi)

theorem Tryd.arrKey : ArrKey Tryd.prog 109 5 3 := ⟨by kernel_rfl, by kernel_rfl, by kernel_rfl, by kernel_rfl⟩
theorem Tryd.triLaw : Keyed Tryd.prog 109 := Keyed.of_law (Tryd.arrKey).law
theorem Tryd.zeroInt (w : World) : (zeroValue 3).run Tryd.prog w = .ok (.int .i64 0) w := by kernel_rfl
theorem Tryd.typesSize : ∃ m, Tryd.prog.types.size = m + 1 := ⟨163 - 1, by kernel_rfl⟩
/-- Three bytes as a value, and as a map's key. -/
def triV (k : Nat × Nat × Nat) : Value := .agg #[.int .u8 (k.1 : Int), .int .u8 (k.2.1 : Int), .int .u8 (k.2.2 : Int)]
def triL (k : Nat × Nat × Nat) : Lit := .string (keyBytes [.int .u8 (k.1 : Int), .int .u8 (k.2.1 : Int), .int .u8 (k.2.2 : Int)])
def triOk (k : Nat × Nat × Nat) : Prop := k.1 < 256 ∧ k.2.1 < 256 ∧ k.2.2 < 256
theorem tri_ok (s : List UInt8) (q : Nat) : triOk (tri s q) := ⟨(s.getD q 0).toNat_lt, (s.getD (q + 1) 0).toNat_lt, (s.getD (q + 2) 0).toNat_lt⟩
theorem wfU8 {x : Nat} (h : x < 256) : (Lit.int .u8 (x : Int)).wf = true := WalkArith.wf_u8 (by omega)
theorem keyTri {k : Nat × Nat × Nat} (h : triOk k) : keyOf Tryd.prog 109 (triV k) = some (triL k) := by
  have A := Tryd.arrKey
  have hkt := A.keyType Tryd.typesSize
  obtain ⟨m, hm⟩ := Tryd.typesSize
  have he : Tryd.prog.underlying 5 = some (.int .u8) := Tryd.underlying5
  have wa := wfU8 h.1
  have wb := wfU8 h.2.1
  have wc := wfU8 h.2.2
  unfold keyOf triV triL
  simp only [A.hu]
  rw [if_pos (by simp [hkt, Value.formed, A.hu, A.size]), hm]
  unfold Program.keyLits
  simp only [A.hu, Value.cells]
  rw [if_pos (by rw [A.size]; rfl), show List.range 3 = [0, 1, 2] from rfl, List.mapM_cons, List.mapM_cons, List.mapM_cons, List.mapM_nil]
  simp [A.one, Program.keyLits, he, wa, wb, wc]
theorem triL_ne {a b : Nat × Nat × Nat} (ha : triOk a) (hb : triOk b) (h : a ≠ b) : triL a ≠ triL b := by
  intro e
  have := (Tryd.triLaw).inj (keyTri ha) (by rw [e]; exact keyTri hb)
  apply h
  obtain ⟨a1, a2, a3⟩ := a
  obtain ⟨b1, b2, b3⟩ := b
  simp [triV] at this
  simp
  omega

/-- The map of where three bytes stood last, ahead of m. -/
def LastAt (w : World) (mb : Nat) (s : List UInt8) (m : Nat) : Prop := ∃ (D : DataW Unit), w.ownsMap Tryd.prog 109 (plainElem Tryd.prog 3) mb m D ∧ IsMap D ∧
  ∀ k, triOk k → Maps.has D (triL k) = (prev s m k).isSome ∧ ∀ q, prev s m k = some q → D.atKey (triL k) (.lit (.int .i64 0)) = .lit (.int .i64 q)
/-- Of each place ahead of m: where its three stood before. -/
def BefAt (w : World) (bb N : Nat) (s : List UInt8) (m : Nat) : Prop := (∀ q, q < m → w.cell? ⟨bb, q, none⟩ = some (.int .i64 (prevI s q (tri s q)))) ∧ ∀ q, q < N → (w.cell? ⟨bb, q, none⟩).isSome = true ∧ w.frozen? ⟨bb, q, none⟩ = false
theorem LastAt.carry {w w' : World} {mb : Nat} {s : List UInt8} {m : Nat} (h : LastAt w mb s m) (hb : w'.heap[mb]? = w.heap[mb]?) : LastAt w' mb s m := by
  obtain ⟨D, ⟨es, clock, h0, F, hs, hD⟩, h2, h3⟩ := h
  exact ⟨D, ⟨es, clock, hb.trans h0, F, hs, hD⟩, h2, h3⟩
theorem BefAt.carry {w w' : World} {bb N : Nat} {s : List UInt8} {m : Nat} (h : BefAt w bb N s m) (hb : w'.heap[bb]? = w.heap[bb]?) : BefAt w' bb N s m :=
  ⟨fun q hq => (World.cell?_of_block (a := ⟨bb, q, none⟩) hb).trans (h.1 q hq), fun q hq => ⟨by rw [World.cell?_of_block (a := ⟨bb, q, none⟩) hb]; exact (h.2 q hq).1, (World.frozen?_of_block (a := ⟨bb, q, none⟩) hb).trans (h.2 q hq).2⟩⟩

/-- A deflater: its block db, its map mb, its places bb; places below m are kept. -/
structure Dfl (w : World) (n0 db mb bb : Nat) (t : ByteArray) (m : Nat) : Prop where
  c2 : w.cell? ⟨db, 2, none⟩ = some (.string t)
  c3 : w.cell? ⟨db, 3, none⟩ = some (.map (some mb))
  c4 : w.cell? ⟨db, 4, none⟩ = some (.slice (some ⟨bb, 0, none⟩) t.size t.size)
  last : LastAt w mb t.data.toList m
  bef : BefAt w bb t.size t.data.toList m
  ge : n0 ≤ db ∧ n0 ≤ mb ∧ n0 ≤ bb
  lt : mb < w.heap.size ∧ bb < w.heap.size
  ne : db ≠ mb ∧ db ≠ bb ∧ mb ≠ bb
  own : blkAt w db 0 ≠ some mb ∧ blkAt w db 0 ≠ some bb ∧ ∀ i, blkAt w db 0 = some i → n0 ≤ i
theorem Dfl.kp {w w' : World} {n0 db mb bb : Nat} {t : ByteArray} {m : Nat} (h : Dfl w n0 db mb bb t m) (k : Kp db 0 w w') : Dfl w' n0 db mb bb t m ∧ Fr n0 w w' := by
  have hmb := h.lt.1
  have hbb := h.lt.2
  have hdb : db < w.heap.size := World.block_lt_of_cell? _ _ h.c2
  have em := k.old mb hmb (fun e => h.ne.1 e.symm) h.own.1
  have eb := k.old bb hbb (fun e => h.ne.2.1 e.symm) h.own.2.1
  refine ⟨⟨(k.rest 2 (by omega) (by omega)).trans h.c2, (k.rest 3 (by omega) (by omega)).trans h.c3, (k.rest 4 (by omega) (by omega)).trans h.c4, h.last.carry em, h.bef.carry eb, h.ge, ⟨Nat.lt_of_lt_of_le hmb k.size, Nat.lt_of_lt_of_le hbb k.size⟩, h.ne, k.ne hmb h.own.1, k.ne hbb h.own.2.1, ?_⟩, k.os, k.output, k.size, ?_⟩
  · intro i hi
    rcases k.at' with e | ⟨g, hg, e⟩
    · exact h.own.2.2 i (by rw [← e]; exact hi)
    · rw [hi] at e
      cases e
      have := h.ge.1
      omega
  · intro i hi
    have h1 := h.ge.1
    exact k.old i (by omega) (by omega) (fun e => by have := h.own.2.2 i e; omega)
theorem Dfl.old {w w' : World} {n0 db mb bb : Nat} {t : ByteArray} {m : Nat} (h : Dfl w n0 db mb bb t m) (k : Fr w.heap.size w w') : Dfl w' n0 db mb bb t m := by
  have hdb : db < w.heap.size := World.block_lt_of_cell? _ _ h.c2
  have e : blkAt w' db 0 = blkAt w db 0 := by unfold blkAt; rw [k.cell hdb]
  exact ⟨(k.cell hdb).trans h.c2, (k.cell hdb).trans h.c3, (k.cell hdb).trans h.c4, h.last.carry (k.old _ h.lt.1), h.bef.carry (k.old _ h.lt.2), h.ge, ⟨Nat.lt_of_lt_of_le h.lt.1 k.size, Nat.lt_of_lt_of_le h.lt.2 k.size⟩, h.ne, by rw [e]; exact h.own.1, by rw [e]; exact h.own.2.1, by rw [e]; exact h.own.2.2⟩
theorem Wr.old {w w' : World} {db : Nat} {B : List Bool} (h : Wr w db B) (k : Fr w.heap.size w w') : Wr w' db B := by
  obtain ⟨⟨v, c0, hr, hb⟩, c1, f0, f1⟩ := h
  have hdb : db < w.heap.size := World.block_lt_of_cell? _ _ c0
  exact ⟨⟨v, (k.cell hdb).trans c0, k.row hr (fun i hi => hr.blk_lt hi), hb⟩, (k.cell hdb).trans c1, (k.frozen hdb).trans f0, (k.frozen hdb).trans f1⟩
theorem ch_get (t : ByteArray) (i : Nat) (h : i < t.size) : (t[i].toNat : Int) = (ch t.data.toList i : Int) := by
  unfold ch
  rw [List.getD_eq_getElem?_getD, List.getElem?_eq_getElem (by simpa using h)]
  rfl
end Go.Proofs.YtohfpmlofjhigaaDoor
