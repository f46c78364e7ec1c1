/-
  flate: a block of an inflater.
-/
import Derived.Test.YtohfpmlofjhigaaDoorRst
import Derived.Test.YtohfpmlofjhigaaDoorFxc
namespace Go.Proofs.YtohfpmlofjhigaaDoor
open Go Go.RowKit Go.Extern.Stop Go.Stop Go.Extern

theorem rest_cases {t : ByteArray} {from' pos : Nat} {l : List Bool} (h : Rest t from' pos l) : ∃ to k r, BlkOk t from' to k ∧ l = blkB t from' to pos k ++ r ∧ ((to = t.size ∧ r = []) ∨ (to < t.size ∧ Rest t to (pos + (blkB t from' to pos k).length) r)) := by
  cases h with
  | last hk => exact ⟨t.size, _, [], hk, by simp, .inl ⟨rfl, rfl⟩⟩
  | more hto hk hr => exact ⟨_, _, _, hk, rfl, .inr ⟨hto, hr⟩⟩
/-- Of what was there only block ib may have turned. -/
structure Kb (ib : Nat) (w w' : World) : Prop where
  os : w'.os = w.os
  output : w'.output = w.output
  size : w.heap.size ≤ w'.heap.size
  old : ∀ i, i < w.heap.size → i ≠ ib → w'.heap[i]? = w.heap[i]?
/-- At the label: what is left to read. -/
structure BkI (ib c1 v1 c2 v2 : Nat) (p t : ByteArray) (B : List Bool) (most : Int) (cap : Value) (w wr : World) (pos : Nat) : Prop where
  ex : ∃ a l, Rest t a pos l ∧ Says p.data.toList pos l ∧ pos + l.length = B.length ∧ Inf wr ib p pos (t.data.toList.take a) most cap ∧ ((a : Int) ≤ most ∨ t.size = 0)
  env : Env wr ib c1 v1 c2 v2
  kb : Kb ib w wr
  own : ∀ i, i < w.heap.size → blkAt wr ib 2 ≠ some i
theorem Kb.kp {ib : Nat} {w w1 w' : World} (h : Kb ib w w1) (k : Kp ib 2 w1 w') (ho : ∀ i, i < w.heap.size → blkAt w1 ib 2 ≠ some i) : Kb ib w w' :=
  ⟨k.os.trans h.os, k.output.trans h.output, Nat.le_trans h.size k.size, fun i hi hd => (k.old i (Nat.lt_of_lt_of_le hi h.size) hd (ho i hi)).trans (h.old i hi hd)⟩

theorem head_says {bs : List UInt8} {pos kind : Nat} {b : Bool} {x r : List Bool} (h : Says bs pos ((b :: lowB kind 2 ++ x) ++ r)) : tb bs pos = b ∧ pos < 8 * bs.length ∧ Says bs (pos + 1) (lowB kind 2) ∧ Says bs (pos + 3) x ∧ Says bs (pos + 3 + x.length) r := by
  have h1 : Says bs pos (b :: (lowB kind 2 ++ (x ++ r))) := by simpa using h
  have h2 := h1.tail
  have h3 : Says bs (pos + 1 + 2) (x ++ r) := by have := h2.right; simpa using this
  exact ⟨h1.head, h1.lt, h2.left, h3.left, h3.right⟩
theorem part_get (t : ByteArray) (a to j : Nat) (ha : a ≤ to) (ht : to ≤ t.size) (hj : j < (part t a to).length) : t.data.toList[a + j]? = (part t a to)[j]? := by
  have hl := part_length t a to ha ht
  have h2 : a + j < t.size := by omega
  have h3 : j < (t.extract a to).size := by rw [ByteArray.size_extract]; omega
  unfold part at *
  rw [List.getElem?_eq_getElem (by simpa using h2), List.getElem?_eq_getElem hj, Array.getElem_toList, Array.getElem_toList]
  congr 1
  exact (ByteArray.getElem_extract (start := a) (stop := to) h3).symm

/-- What becomes of it all. -/
def Ends (ib : Nat) (p t : ByteArray) (most : Int) (cap : Value) (w : World) (e : Ending) (w' : World) : Prop :=
  if (t.size : Int) ≤ most ∨ t.size = 0 then e = .returned (.tuple #[]) ∧ (∃ i, Inf w' ib p i t.data.toList most cap) ∧ Kb ib w w' else e = .panicked (stopped cap) ∧ Kb ib w w'
/-- A block is read: it is told, or there were too many. -/
theorem blk_fixed (ib c1 v1 c2 v2 : Nat) (p t : ByteArray) (a to pos : Nat) (toks : List Tok) (r : List Bool) (most : Int) (cap : Value) (hk : BlkOk t a to (.fixed toks)) (hS : Says p.data.toList pos (blkB t a to pos (.fixed toks) ++ r)) (hz : p.size ≤ 70368744177) (ht : t.size ≤ 1000000) (ham : (a : Int) ≤ most ∨ t.size = 0) (w3 : World) (hE : Env w3 ib c1 v1 c2 v2) (hI : Inf w3 ib p (pos + 3) (t.data.toList.take a) most cap) :
    Calls Tryd.prog 40 #[.pointer (some ⟨ib, 0, none⟩), .pointer (some ⟨c1, 0, none⟩), .pointer (some ⟨c2, 0, none⟩)] w3 fun e w' => Outs ib p (pos + (blkB t a to pos (.fixed toks)).length) t.data.toList to most cap w3 e w' := by
  have e : blkB t a to pos (.fixed toks) = decide (to = t.size) :: lowB 1 2 ++ (toksB toks ++ valB 256) := by simp [blkB]
  rw [e] at hS
  obtain ⟨-, -, -, h4, -⟩ := head_says hS
  have hl : t.data.toList.length = t.size := by simp
  have := rcoded_any ib c1 v1 c2 v2 p (pos + 3) t.data.toList a to toks most cap w3 hE hI (hk.toks toks rfl) h4 (by omega) (by omega) (by rw [hl]; exact hk.le) (by have := hk.le; omega)
  have e2 : pos + 3 + (toksB toks ++ valB 256).length = pos + (blkB t a to pos (.fixed toks)).length := by rw [e]; simp; omega
  rw [e2] at this
  exact this
theorem blk_stored (ib : Nat) (p t : ByteArray) (a to pos : Nat) (r : List Bool) (most : Int) (cap : Value) (hk : BlkOk t a to .stored) (hS : Says p.data.toList pos (blkB t a to pos .stored ++ r)) (hz : p.size ≤ 70368744177) (ht : t.size ≤ 1000000) (ham : (a : Int) ≤ most ∨ t.size = 0) (w3 : World) (hI : Inf w3 ib p (pos + 3) (t.data.toList.take a) most cap) :
    Calls Tryd.prog 39 #[.pointer (some ⟨ib, 0, none⟩)] w3 fun e w' => Outs ib p (pos + (blkB t a to pos .stored).length) t.data.toList to most cap w3 e w' := by
  have e : blkB t a to pos .stored = decide (to = t.size) :: lowB 0 2 ++ storB (pos + 3) (part t a to) := rfl
  rw [e] at hS
  obtain ⟨-, -, -, h4, -⟩ := head_says hS
  have hl : t.data.toList.length = t.size := by simp
  have hpl := part_length t a to hk.ft hk.le
  have := rstored_any ib p (pos + 3) t.data.toList (part t a to) a to most cap w3 hI hpl (fun j hj => part_get t a to j hk.ft hk.le hj) h4 (by omega) (by omega) hk.ft (by rw [hl]; exact hk.le) hk.most (by have := hk.le; omega)
  have e2 : pos + 3 + (storB (pos + 3) (part t a to)).length = pos + (blkB t a to pos .stored).length := by rw [e]; simp; omega
  rw [e2] at this
  exact this
theorem Kr.of_fr {ib : Nat} {w w' : World} (h : Fr w.heap.size w w') (hib : ib < w.heap.size) : Kr ib w w' := ⟨h.os, h.output, h.size, fun i hi _ => h.old i hi, fun _ _ => h.cell hib, fun _ => h.frozen hib⟩
theorem BkI.next {ib c1 v1 c2 v2 : Nat} {p t : ByteArray} {B : List Bool} {most : Int} {cap : Value} {w wr w' : World} {pos a to : Nat} {k : Blk} {r : List Bool} (hkb : Kb ib w wr) (ho : ∀ i, i < w.heap.size → blkAt wr ib 2 ≠ some i) (hE : Env wr ib c1 v1 c2 v2) (hS : Says p.data.toList pos (blkB t a to pos k ++ r)) (hlen : pos + (blkB t a to pos k ++ r).length = B.length) (hR : Rest t to (pos + (blkB t a to pos k).length) r) (hm : (to : Int) ≤ most ∨ t.size = 0) (hk : Kp ib 2 wr w') (hI : Inf w' ib p (pos + (blkB t a to pos k).length) (t.data.toList.take to) most cap) : BkI ib c1 v1 c2 v2 p t B most cap w w' (pos + (blkB t a to pos k).length) :=
  ⟨⟨to, r, hR, hS.right, by rw [← hlen]; simp; omega, hI, hm⟩, hE.kp hk, hkb.kp hk ho, fun i hi => hk.ne (Nat.lt_of_lt_of_le hi hkb.size) (ho i hi)⟩
theorem BkI.start {ib c1 v1 c2 v2 : Nat} {p t : ByteArray} {B : List Bool} {most : Int} {cap : Value} {w w1 : World} (hI : Inf w ib p 0 [] most cap) (hnil : w.cell? ⟨ib, 2, none⟩ = some (.slice none 0 0)) (hp : p.data.toList = pack B) (hB : Rest t 0 0 B) (hS : SpAt w 20 lenF) (hT : SpAt w 21 disF) (hn : 32 ≤ w.heap.size) (hm : 0 ≤ most ∨ t.size = 0) (hf : Fr w.heap.size w w1) (hc1 : CodeAt w1 c1 v1 288 fixMany fixVal) (hc2 : CodeAt w1 c2 v2 32 disMany id) (g1 : w.heap.size ≤ c1) (g2 : w.heap.size ≤ v1) (g3 : w.heap.size ≤ c2) (g4 : w.heap.size ≤ v2) : BkI ib c1 v1 c2 v2 p t B most cap w w1 0 := by
  have hib := hI.lt
  have hk : Kr ib w w1 := Kr.of_fr hf hib
  have hbl : blkAt w1 ib 2 = none := by unfold blkAt; rw [hk.rest 2 (by omega), hnil]; rfl
  have hi1 : Inf w1 ib p 0 [] most cap := hI.kr hk ⟨(hf.cell hib).trans hI.rd.c0, (hf.cell hib).trans hI.rd.c1, (hf.frozen hib).trans hI.rd.f1⟩
  refine ⟨⟨0, B, hB, ?_, by omega, by simpa using hi1, by simpa using hm⟩, ⟨hS.carry (hf.old _ (Nat.lt_of_lt_of_le (by decide) hn)), hT.carry (hf.old _ (Nat.lt_of_lt_of_le (by decide) hn)), hc1, hc2, ⟨by omega, by omega, by omega, by omega, hI.base⟩, Nat.le_trans hn hf.size, fun x _ => by rw [hbl]; simp⟩, ⟨hf.os, hf.output, hf.size, fun i hi _ => hf.old i hi⟩, fun i _ => by rw [hbl]; simp⟩
  rw [hp]
  have := Says.pack [] B []
  simpa using this
end Go.Proofs.YtohfpmlofjhigaaDoor
