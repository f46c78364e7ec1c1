/-
  flate: (*inflater).tell.
-/
import Derived.Test.YtohfpmlofjhigaaDoorRnu
import Derived.Test.YtohfpmlofjhigaaDoorSto
namespace Go.Proofs.YtohfpmlofjhigaaDoor
open Go Go.RowKit Go.Extern.Stop Go.Stop Go.Extern

/-- An inflater: its block ib; what came out. -/
structure Inf (w : World) (ib : Nat) (p : ByteArray) (i : Nat) (out : List UInt8) (most : Int) (cap : Value) : Prop where
  rd : Rd w ib p i
  c2 : ∃ v, w.cell? ⟨ib, 2, none⟩ = some v ∧ Bytes w v out ∧ blk v ≠ some ib ∧ ∀ j, blk v = some j → 32 ≤ j
  c3 : w.cell? ⟨ib, 3, none⟩ = some (.int .i64 most)
  f2 : w.frozen? ⟨ib, 2, none⟩ = false
  err : FErr w cap
  base : 32 ≤ ib
theorem Kr.kp {rb sl : Nat} {w w' : World} (h : Kr rb w w') (hsl : sl ≠ 1) : Kp rb sl w w' :=
  ⟨h.os, h.output, h.size, fun i hi hd _ => h.old i hi hd, fun o h1 _ => h.rest o h1, h.froz, .inl (by unfold blkAt; rw [h.rest sl hsl])⟩
theorem Inf.kr {w w' : World} {ib : Nat} {p : ByteArray} {i i' : Nat} {out : List UInt8} {most : Int} {cap : Value} (h : Inf w ib p i out most cap) (k : Kr ib w w') (hr : Rd w' ib p i') : Inf w' ib p i' out most cap := by
  obtain ⟨v, c2, hb, hn, hg⟩ := h.c2
  exact ⟨hr, ⟨v, (k.rest 2 (by omega)).trans c2, hb.carry (fun j hj => k.old j (hb.blk_lt hj) (fun e => hn (by rw [← e]; exact hj))), hn, hg⟩, (k.rest 3 (by omega)).trans h.c3, (k.froz 2).trans h.f2, h.err.kr h.base k, h.base⟩
theorem heap_drewN (w : World) : ∀ n, (w.drewN n).heap = w.heap
  | 0 => rfl
  | n + 1 => heap_drewN w n
theorem Kr.alloc (rb : Nat) (w : World) (o : Obj) (hrb : rb < w.heap.size) : Kr rb w (w.alloc o) :=
  ⟨rfl, rfl, by show w.heap.size ≤ (w.heap.push o).size; rw [Array.size_push]; omega, fun i hi _ => Below.heap_alloc w o i hi, fun k _ => World.cell?_alloc_lt w o ⟨rb, k, none⟩ hrb, fun k => World.frozen?_alloc_old w o ⟨rb, k, none⟩ (Nat.ne_of_lt hrb)⟩
theorem Inf.lt {w : World} {ib : Nat} {p : ByteArray} {i : Nat} {out : List UInt8} {most : Int} {cap : Value} (h : Inf w ib p i out most cap) : ib < w.heap.size := World.block_lt_of_cell? _ _ h.rd.c0
theorem Inf.alloc {w : World} {ib : Nat} {p : ByteArray} {i : Nat} {out : List UInt8} {most : Int} {cap : Value} (h : Inf w ib p i out most cap) (o : Obj) : Inf (w.alloc o) ib p i out most cap :=
  h.kr (Kr.alloc _ _ _ h.lt) ⟨(World.cell?_alloc_lt w o ⟨ib, 0, none⟩ h.lt).trans h.rd.c0, (World.cell?_alloc_lt w o ⟨ib, 1, none⟩ h.lt).trans h.rd.c1, (World.frozen?_alloc_old w o ⟨ib, 1, none⟩ (Nat.ne_of_lt h.lt)).trans h.rd.f1⟩
theorem Inf.drewN {w : World} {ib : Nat} {p : ByteArray} {i : Nat} {out : List UInt8} {most : Int} {cap : Value} (h : Inf w ib p i out most cap) (n : Nat) : Inf (w.drewN n) ib p i out most cap := h.kr (Kr.drewN _ _ _) (h.rd.drewN n)
theorem FErr.kp2 {w w' : World} {ib : Nat} {cap : Value} (h : FErr w cap) (hb : 32 ≤ ib) (ho : ∀ j, blkAt w ib 2 = some j → 32 ≤ j) (k : Kp ib 2 w w') : FErr w' cap := by
  have hc : ∀ g x, g < 32 → w.cell? ⟨g, 0, none⟩ = some x → w'.cell? ⟨g, 0, none⟩ = some x := fun g x hg hx => k.cell (by omega) (fun e => by have := ho g e; omega) hx
  obtain ⟨⟨v1, e1, h1⟩, ⟨v2, h2⟩, ⟨v3, h3⟩, ⟨v4, h4⟩, ⟨v5, h5⟩, ⟨v6, h6⟩⟩ := h
  exact ⟨⟨v1, e1, hc _ _ (by decide) h1⟩, ⟨v2, hc _ _ (by decide) h2⟩, ⟨v3, hc _ _ (by decide) h3⟩, ⟨v4, hc _ _ (by decide) h4⟩, ⟨v5, hc _ _ (by decide) h5⟩, ⟨v6, hc _ _ (by decide) h6⟩⟩
/-- A byte came out. -/
theorem Inf.more {w3 w4 : World} {ib : Nat} {p : ByteArray} {i : Nat} {out : List UInt8} {most : Int} {cap v v4 : Value} {b : UInt8} (h : Inf w3 ib p i out most cap) (c2 : w3.cell? ⟨ib, 2, none⟩ = some v) (hbd : blk v ≠ some ib) (hge : ∀ j, blk v = some j → 32 ≤ j) (hg : Grew w3 v w4 v4) (hr : Row w4 1 v4 (out.length + 1) (cellsOf out ++ [.int .u8 (b.toNat : Int)])) :
    w4.cell? ⟨ib, 2, none⟩ = some v ∧ w4.frozen? ⟨ib, 2, none⟩ = false ∧ Inf (w4.setCell ⟨ib, 2, none⟩ v4) ib p i (out ++ [b]) most cap ∧ Kp ib 2 w3 (w4.setCell ⟨ib, 2, none⟩ v4) := by
  have hib : ib < w3.heap.size := World.block_lt_of_cell? _ _ c2
  have e := hg.old ib hib hbd
  have c2' : w4.cell? ⟨ib, 2, none⟩ = some v := hg.cell hib hbd c2
  have hk := Kp.grew hg c2 hbd
  have hb4 : blk v4 ≠ some ib := by
    rcases hg.at' with e' | ⟨g', h1, e'⟩
    · rw [e']; exact hbd
    · rw [e']; intro h; cases h; omega
  have hge4 : ∀ j, blk v4 = some j → 32 ≤ j := fun j hj => by
    rcases hg.at' with e' | ⟨g', h1, e'⟩
    · exact hge j (by rw [← e']; exact hj)
    · rw [e'] at hj; cases hj; have := h.base; omega
  refine ⟨c2', (World.frozen?_of_block (a := ⟨ib, 2, none⟩) e).trans h.f2, ⟨⟨(hk.rest 0 (by omega) (by omega)).trans h.rd.c0, ?_, (hk.froz 1).trans h.rd.f1⟩, ⟨v4, World.cell?_setCell_same _ _ _ c2', ?_, hb4, hge4⟩, (hk.rest 3 (by omega) (by omega)).trans h.c3, (hk.froz 2).trans h.f2, h.err.kp2 h.base (fun j hj => hge j (by unfold blkAt at hj; rw [c2] at hj; exact hj)) hk, h.base⟩, hk⟩
  · exact (World.cell?_setCell_other _ _ _ _ (by simp)).trans (hg.cell hib hbd h.rd.c1)
  · have hr2 : Row (w4.setCell ⟨ib, 2, none⟩ v4) 1 v4 (out.length + 1) (cellsOf out ++ [.int .u8 (b.toNat : Int)]) := hr.carry (fun j hj => Below.heap_setCell w4 ⟨ib, 2, none⟩ _ j (fun e' => hb4 (by rw [hj]; exact congrArg some e')))
    show Row _ 1 v4 (out ++ [b]).length (cellsOf (out ++ [b]))
    rw [cellsOf_append, List.length_append]
    exact hr2

set_option maxRecDepth 8000 in
set_option maxHeartbeats 1000000 in
theorem tell_ok (ib : Nat) (p : ByteArray) (i : Nat) (out : List UInt8) (most : Int) (cap : Value) (b : UInt8) (x : Int) (w : World) (hx : x = b.toNat) (hI : Inf w ib p i out most cap) (hm : (out.length : Int) < most) (hz : out.length ≤ 70368744177000) :
    Calls Tryd.prog 57 #[.pointer (some ⟨ib, 0, none⟩), .int .u8 x] w fun e w' => e = .returned (.tuple #[]) ∧ Inf w' ib p i (out ++ [b]) most cap ∧ Kp ib 2 w w' := by
  obtain ⟨ti, hi, hi'⟩ := Option.map_eq_some_iff.1 Tryd.infoU8
  obtain ⟨hz0, hz1, hz2⟩ : ti.zero = some (.int .u8 0) ∧ ti.size = 1 ∧ ti.bytes = 1 := by simpa using hi'
  subst hx
  obtain ⟨v, c2, hrow, hbd, hge⟩ := hI.c2
  have c3 := hI.c3
  obtain ⟨cv, rfl, hcap⟩ := hI.err.cap
  change Row w 1 v out.length (cellsOf out) at hrow
  have HINF : Hid (Inf w ib p i out most (.iface 131 cv)) := hI
  have HROW : Hid (Row w 1 v out.length (cellsOf out)) := hrow
  have HC2 : Hid (w.cell? ⟨ib, 2, none⟩ = some v) := c2
  obtain ⟨a, c, hv⟩ := hrow.shape
  have hlt : ((out.length : Int) < most) = True := by simpa using hm
  have HZ : Hid (out.length ≤ 70368744177000) := hz
  clear hI hm hz hrow
  generalize hN : out.length = N at *
  subst hv
  go_enter Tryd.func57, Tryd.ntmps57
  go_wp2
  go_quiet ((go_at_call 43; exact Calls.quiet_of_same (unless_true _ _ _)))
  have HI2 : Hid (∀ n, Inf (w.drewN n) ib p i out most (.iface 131 cv)) := fun n => HINF.out.drewN n
  have hrowN : ∀ n, Row (w.drewN n) 1 (.slice a N c) N (cellsOf out) := fun n => HROW.out.carry (fun j _ => by rw [heap_drewN])
  have c2N : ∀ n o, ((w.drewN n).alloc o).cell? ⟨ib, 2, none⟩ = some (.slice a N c) := fun n o => (World.cell?_alloc_lt _ o ⟨ib, 2, none⟩ (by rw [heap_drewN]; exact HINF.out.lt)).trans (by unfold World.cell?; rw [heap_drewN]; exact HC2.out)
  subst hN
  go_wp2_with (at_builtin; refine wpList_append_row _ rfl (.tmp 20) (.tmp 22) 39 39 rfl (by decide) ti (.int .u8 0) 1 Tryd.underlying39 hi hz0 hz1 hz2 rfl rfl ((hrowN _).alloc _) _ 1 [_] rfl (Src.one' (w.drewN _) Tryd.underlying39 _ (by rw [heap_drewN]) _ _ rfl) (by have := HZ.out; unfold maxLen; omega) (by have := HZ.out; omega) ?_; intro v2 w2 hrow2 hg2; obtain ⟨y0, y1, hinf, hkp⟩ := Inf.more ((HI2.out _).alloc _) (c2N _ _) hbd hge hg2 hrow2; obtain ⟨a2, c2', hv2⟩ := hrow2.shape; subst hv2)
  go_end0
  exact ⟨rfl, hinf, ((Kr.drewN _ _ _).kp (by decide)).trans (((Kr.alloc _ _ _ (by rw [heap_drewN]; exact HINF.out.lt)).kp (by decide)).trans hkp)⟩

end Go.Proofs.YtohfpmlofjhigaaDoor
