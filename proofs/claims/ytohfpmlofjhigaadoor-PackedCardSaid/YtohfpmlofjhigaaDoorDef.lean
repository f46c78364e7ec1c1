/-
  flate: Deflate.
-/
import Derived.Test.YtohfpmlofjhigaaDoorBlo
import Derived.WalkMore
import Derived.Laws.MakeOwn
import Derived.Laws.OwnMore
import Derived.ScopeJumps
namespace Go.Proofs.YtohfpmlofjhigaaDoor
open Go Go.RowKit Go.Extern.Stop Go.Stop Go.Extern Go.Maps Go.WideMaps

/-- A part of a text by a block. -/
structure BlkOk (t : ByteArray) (from' to : Nat) (k : Blk) : Prop where
  ft : from' ≤ to
  le : to ≤ t.size
  most : to - from' ≤ 65535
  toks : ∀ l, k = .fixed l → Toks t.data.toList to from' l
/-- The bits, from pos on, of the blocks that tell what is left. -/
inductive Rest (t : ByteArray) : Nat → Nat → List Bool → Prop
  | last {from' pos : Nat} {k : Blk} : BlkOk t from' t.size k → Rest t from' pos (blkB t from' t.size pos k)
  | more {from' to pos : Nat} {k : Blk} {l : List Bool} : to < t.size → BlkOk t from' to k → Rest t to (pos + (blkB t from' to pos k).length) l → Rest t from' pos (blkB t from' to pos k ++ l)
/-- What Deflate tells. -/
structure Defl (t : ByteArray) (B : List Bool) : Prop where
  rest : Rest t 0 0 B
  most : (B.length + 7) / 8 ≤ t.size + 5 * (t.size / 65535 + 1)
  short : t.size ≤ 65535 → ∃ l, Toks t.data.toList t.size 0 l ∧ B.length ≤ 3 + (toksB l).length + 7
theorem Tryd.infoInt : (Tryd.prog.info? 3).map (fun i => (i.zero, i.size, i.bytes)) = some (some (.int .i64 0), 1, 8) := by kernel_rfl
theorem make_ints (n : Nat) (hn : n ≤ 1000000) (w : World) : ∃ C : Array Value, (Instr.makeSlice 38 (.int .i64 n) (.int .i64 n)).run Tryd.prog w = .ok (.slice (some ⟨w.heap.size, 0, none⟩) n n) (w.alloc (.cells C 3)) ∧ C.size = n ∧ ∀ j, j < n → C[j]? = some (.int .i64 0) := by
  obtain ⟨i, hi, hi'⟩ := Option.map_eq_some_iff.1 Tryd.infoInt
  obtain ⟨hz0, hz1, hz2⟩ : i.zero = some (.int .i64 0) ∧ i.size = 1 ∧ i.bytes = 8 := by simpa using hi'
  have hr := run_make (P := Tryd.prog) w 38 3 i (.int .i64 0) Tryd.underlying38 hi hz0 .i64 .i64 n n (by omega) (by omega) (by rw [hz2]; omega) (by omega)
  simp only [Int.toNat_natCast, hz1, Nat.mul_one] at hr
  refine ⟨_, hr, ?_, fun j hj => ?_⟩
  · exact size_madeCells _ _
  · have h := toList_madeCells_one (.int .i64 0) n
    have : (madeCells (Value.int .i64 0).cells n)[j]? = ((madeCells #[.int .i64 0] n).toList)[j]? := by rw [Array.getElem?_toList]; rfl
    rw [this, h, List.getElem?_replicate, if_pos hj]
/-- A round of Deflate. -/
structure DfI (n0 db mb bb : Nat) (t : ByteArray) (w0 wr : World) (p : Nat) : Prop where
  ex : ∃ B j, Wr wr db B ∧ (∀ l, Rest t p B.length l → Rest t 0 0 (B ++ l)) ∧ p = 65535 * j ∧ (B.length + 7) / 8 ≤ p + 5 * j ∧ (p = 0 → B = [])
  le : p ≤ t.size
  pos : p = 0 ∨ p < t.size
  dfl : Dfl wr n0 db mb bb t (mAt t p)
  fr : Fr n0 w0 wr

theorem new_block (w : World) (o : Obj) : (w.alloc o).heap[w.heap.size]? = some o ∧ (w.alloc o).heap.size = w.heap.size + 1 := by
  constructor
  · show (w.heap.push o)[w.heap.size]? = _
    simp
  · show (w.heap.push o).size = _
    rw [Array.size_push]
theorem start_dfl (t : ByteArray) (w : World) (C : Array Value) (hC0 : ∀ j, j < t.size → C[j]? = some (.int .i64 0)) (T1 T2 : TypeId) :
    DfI w.heap.size (w.heap.size + 1 + 1) w.heap.size (w.heap.size + 1) t w (((w.alloc (Obj.map #[] 0)).alloc (Obj.cells C T1)).alloc (Obj.cells #[Value.slice none 0 0, Value.int IntKind.i64 0, Value.string t, Value.map (some w.heap.size), Value.slice (some ⟨w.heap.size + 1, 0, none⟩) t.size t.size] T2)) 0 := by
  have hl1 : LastAt (w.alloc (Obj.map #[] 0)) w.heap.size t.data.toList 0 := ⟨.map [], World.ownsMap_made _ _ _ _, ⟨_, rfl⟩, fun k _ => ⟨rfl, fun q hq => by simp [prev] at hq⟩⟩
  have hf1 : Fr w.heap.size w (w.alloc (Obj.map #[] 0)) := Fr.alloc w _ (Nat.le_refl _)
  obtain ⟨-, s1⟩ := new_block w (Obj.map #[] 0)
  generalize w.alloc (Obj.map #[] 0) = W1 at *
  obtain ⟨n2, s2⟩ := new_block W1 (Obj.cells C T1)
  have z2 : ∀ i, (W1.alloc (Obj.cells C T1)).frozen? ⟨W1.heap.size, i, none⟩ = false := fun i => World.frozen?_alloc_new _ _ _ _
  have o2 := Below.heap_alloc W1 (Obj.cells C T1)
  have hf2 : Fr w.heap.size W1 (W1.alloc (Obj.cells C T1)) := Fr.alloc _ _ (by omega)
  generalize W1.alloc (Obj.cells C T1) = W2 at *
  rw [s1] at n2 s2 z2 o2
  obtain ⟨n3, s3⟩ := new_block W2 (Obj.cells #[Value.slice none 0 0, Value.int IntKind.i64 0, Value.string t, Value.map (some w.heap.size), Value.slice (some ⟨w.heap.size + 1, 0, none⟩) t.size t.size] T2)
  have z3 : ∀ i, (W2.alloc (Obj.cells #[Value.slice none 0 0, Value.int IntKind.i64 0, Value.string t, Value.map (some w.heap.size), Value.slice (some ⟨w.heap.size + 1, 0, none⟩) t.size t.size] T2)).frozen? ⟨W2.heap.size, i, none⟩ = false := fun i => World.frozen?_alloc_new _ _ _ _
  have o3 := Below.heap_alloc W2 (Obj.cells #[Value.slice none 0 0, Value.int IntKind.i64 0, Value.string t, Value.map (some w.heap.size), Value.slice (some ⟨w.heap.size + 1, 0, none⟩) t.size t.size] T2)
  have hf3 : Fr w.heap.size W2 (W2.alloc (Obj.cells #[Value.slice none 0 0, Value.int IntKind.i64 0, Value.string t, Value.map (some w.heap.size), Value.slice (some ⟨w.heap.size + 1, 0, none⟩) t.size t.size] T2)) := Fr.alloc _ _ (by omega)
  generalize W2.alloc (Obj.cells #[Value.slice none 0 0, Value.int IntKind.i64 0, Value.string t, Value.map (some w.heap.size), Value.slice (some ⟨w.heap.size + 1, 0, none⟩) t.size t.size] T2) = W at *
  rw [s2] at n3 s3 z3 o3
  have cells2 : ∀ o, W.cell? ⟨w.heap.size + 1 + 1, o, none⟩ = (#[Value.slice none 0 0, Value.int IntKind.i64 0, Value.string t, Value.map (some w.heap.size), Value.slice (some ⟨w.heap.size + 1, 0, none⟩) t.size t.size] : Array Value)[o]? := fun o => by unfold World.cell?; simp [n3]
  have e1 := o3 (w.heap.size + 1) (by omega)
  have cells1 : ∀ o, W.cell? ⟨w.heap.size + 1, o, none⟩ = C[o]? := fun o => by unfold World.cell?; simp [e1.trans n2]
  have fz1 : ∀ i, W.frozen? ⟨w.heap.size + 1, i, none⟩ = false := fun i => (World.frozen?_of_block (a := ⟨w.heap.size + 1, i, none⟩) e1).trans (z2 i)
  have hm0 : mAt t 0 = 0 := by unfold mAt; omega
  have hbl : blkAt W (w.heap.size + 1 + 1) 0 = none := by unfold blkAt; rw [cells2]; rfl
  refine ⟨⟨[], 0, ⟨⟨.slice none 0 0, by rw [cells2]; rfl, Row.nil _ _, by simp [blk]⟩, by rw [cells2]; rfl, z3 _, z3 _⟩, fun l h => by simpa using h, rfl, by simp, fun _ => rfl⟩, Nat.zero_le _, .inl rfl, ?_, (hf1.trans hf2).trans hf3⟩
  rw [hm0]
  exact ⟨by rw [cells2]; rfl, by rw [cells2]; rfl, by rw [cells2]; rfl, hl1.carry ((o3 _ (by omega)).trans (o2 _ (by omega))), ⟨fun q hq => by omega, fun q hq => ⟨by rw [cells1, hC0 q hq]; rfl, fz1 _⟩⟩, by omega, by omega, by omega, by rw [hbl]; simp, by rw [hbl]; simp, by rw [hbl]; simp⟩

/-- Where a block ends. -/
def toAt (t : ByteArray) (p : Nat) : Nat := min (p + 65535) t.size
theorem BlkIs.ok {t : ByteArray} {p : Nat} {B : List Bool} {k : Blk} (h : BlkIs t p (toAt t p) B k) (hp : p ≤ t.size) : BlkOk t p (toAt t p) k :=
  ⟨by unfold toAt; omega, by unfold toAt; omega, by unfold toAt; omega, h.toks⟩
theorem dfl_more {t : ByteArray} {p j : Nat} {B : List Bool} {k : Blk} (hpre : ∀ l, Rest t p B.length l → Rest t 0 0 (B ++ l)) (hp : p = 65535 * j) (hlen : (B.length + 7) / 8 ≤ p + 5 * j) (hle : p ≤ t.size) (hk : BlkIs t p (toAt t p) B k) (hto : toAt t p < t.size) :
    (∀ l, Rest t (toAt t p) (B ++ blkB t p (toAt t p) B.length k).length l → Rest t 0 0 ((B ++ blkB t p (toAt t p) B.length k) ++ l)) ∧ toAt t p = 65535 * (j + 1) ∧ ((B ++ blkB t p (toAt t p) B.length k).length + 7) / 8 ≤ toAt t p + 5 * (j + 1) ∧ (toAt t p = 0 → (B ++ blkB t p (toAt t p) B.length k) = []) := by
  have hm := hk.most
  have e : toAt t p = p + 65535 := by unfold toAt at *; omega
  refine ⟨fun l hl => ?_, by omega, by omega, by omega⟩
  rw [List.append_assoc]
  refine hpre _ (.more hto (hk.ok hle) ?_)
  rw [← List.length_append]
  exact hl
theorem dfl_done {t : ByteArray} {p j : Nat} {B : List Bool} {k : Blk} (hpre : ∀ l, Rest t p B.length l → Rest t 0 0 (B ++ l)) (hp : p = 65535 * j) (hlen : (B.length + 7) / 8 ≤ p + 5 * j) (hle : p ≤ t.size) (hpos : p = 0 ∨ p < t.size) (hnil : p = 0 → B = []) (hk : BlkIs t p (toAt t p) B k) (hto : toAt t p = t.size) : Defl t (B ++ blkB t p (toAt t p) B.length k) := by
  have hm := hk.most
  refine ⟨hpre _ ?_, ?_, fun hs => ?_⟩
  · have := hk.ok hle
    rw [hto] at this ⊢
    exact .last this
  · have hj : j ≤ t.size / 65535 := by omega
    omega
  · have hp0 : p = 0 := by omega
    have hB := hnil hp0
    subst hp0
    obtain ⟨l, hl, hs2⟩ := hk.short
    rw [hto] at hl
    refine ⟨l, hl, ?_⟩
    rw [hB] at hs2 ⊢
    simpa using hs2
theorem block_eq (n0 db mb bb : Nat) (t : ByteArray) (B : List Bool) (from' to : Nat) (x y : Int) (w : World) (hx : x = from') (hy : y = to) (hn0 : 32 ≤ n0) (hft : from' ≤ to) (hto : to ≤ t.size) (h64 : to ≤ from' + 65535) (hz : t.size ≤ 70368744177000) (hN : B.length ≤ 100000000) (hW : Wr w db B) (hD : Dfl w n0 db mb bb t (mAt t from')) (hS : SpAt w 20 lenF) (hT : SpAt w 21 disF) :
    Calls Tryd.prog 11 #[.pointer (some ⟨db, 0, none⟩), .int .i64 x, .int .i64 y] w fun e w' => e = .returned (.tuple #[]) ∧ ∃ k, BlkIs t from' to B k ∧ Wr w' db (B ++ blkB t from' to B.length k) ∧ Dfl w' n0 db mb bb t (mAt t to) ∧ Fr n0 w w' := by
  subst hx hy
  exact block_any n0 db mb bb t B from' to w hn0 hft hto h64 hz hN hW hD hS hT
/-- A block is written. -/
theorem DfI.blk {n0 db mb bb : Nat} {t : ByteArray} {w0 wr : World} {p : Nat} (h : DfI n0 db mb bb t w0 wr p) (hz : t.size ≤ 1000000) (hn0 : 32 ≤ n0) (hS : SpAt w0 20 lenF) (hT : SpAt w0 21 disF) (x y : Int) (hx : x = p) (hy : y = toAt t p) :
    Calls Tryd.prog 11 #[.pointer (some ⟨db, 0, none⟩), .int .i64 x, .int .i64 y] wr fun e w' => e = .returned (.tuple #[]) ∧ (toAt t p < t.size → DfI n0 db mb bb t w0 w' (toAt t p)) ∧ (toAt t p = t.size → ∃ B v, Defl t B ∧ w'.cell? ⟨db, 0, none⟩ = some v ∧ Bytes w' v (pack B)) ∧ Fr n0 w0 w' := by
  obtain ⟨⟨B, j, hw, hpre, hp, hlen, hnil⟩, hle, hpos, hd, hf⟩ := h
  refine (block_eq n0 db mb bb t B p (toAt t p) x y wr hx hy hn0 (by unfold toAt; omega) (by unfold toAt; omega) (by unfold toAt; omega) (by omega) (by omega) hw hd (hS.carry (hf.old _ (Nat.lt_of_lt_of_le (by decide) hn0))) (hT.carry (hf.old _ (Nat.lt_of_lt_of_le (by decide) hn0)))).mono ?_
  rintro e w' ⟨rfl, k, hk, hw', hd', hf'⟩
  refine ⟨rfl, fun hto => ?_, fun hto => ?_, hf.trans hf'⟩
  · obtain ⟨a1, a2, a3, a4⟩ := dfl_more hpre hp hlen hle hk hto
    exact ⟨⟨_, j + 1, hw', a1, a2, a3, a4⟩, by omega, .inr hto, hd', hf.trans hf'⟩
  · obtain ⟨⟨v, c0, hr, _⟩, _⟩ := hw'
    exact ⟨_, v, dfl_done hpre hp hlen hle hpos hnil hk hto, c0, hr⟩

set_option maxRecDepth 1000000 in
set_option maxHeartbeats 2000000 in
theorem fdeflate_any (t : ByteArray) (w : World) (hz : t.size ≤ 1000000) (hn0 : 32 ≤ w.heap.size) (hS : SpAt w 20 lenF) (hT : SpAt w 21 disF) :
    Calls Tryd.prog 8 #[.string t] w fun e w' => ∃ B, Defl t B ∧ e = .returned (.string (strOf (pack B))) ∧ Fr w.heap.size w w' := by
  have hmm := @run_makeMap Tryd.prog
  obtain ⟨C, hmk, hCs, hC0⟩ := make_ints t.size hz (w.alloc (Obj.map #[] 0))
  have hs1 : (w.alloc (Obj.map #[] 0)).heap.size = w.heap.size + 1 := by show (w.heap.push _).size = _; rw [Array.size_push]
  rw [hs1] at hmk
  go_enter Tryd.func8, Tryd.ntmps8
  go_wp2
  have HSTART : Hid (DfI w.heap.size (w.heap.size + 1 + 1) w.heap.size (w.heap.size + 1) t w (((w.alloc (Obj.map #[] 0)).alloc (Obj.cells C 3)).alloc (Obj.cells #[Value.slice none 0 0, Value.int IntKind.i64 0, Value.string t, Value.map (some w.heap.size), Value.slice (some ⟨w.heap.size + 1, 0, none⟩) t.size t.size] 43)) 0) := start_dfl t w C hC0 _ _
  have HBLK : Hid (∀ (wr : World) (p : Nat) (x y : Int), DfI w.heap.size (w.heap.size + 1 + 1) w.heap.size (w.heap.size + 1) t w wr p → x = p → y = toAt t p → Calls Tryd.prog 11 #[.pointer (some ⟨w.heap.size + 1 + 1, 0, none⟩), .int .i64 x, .int .i64 y] wr fun e w' => e = .returned (.tuple #[]) ∧ (toAt t p < t.size → DfI w.heap.size (w.heap.size + 1 + 1) w.heap.size (w.heap.size + 1) t w w' (toAt t p)) ∧ (toAt t p = t.size → ∃ B v, Defl t B ∧ w'.cell? ⟨w.heap.size + 1 + 1, 0, none⟩ = some v ∧ Bytes w' v (pack B)) ∧ Fr w.heap.size w w') := fun wr p x y h hx hy => h.blk hz hn0 hS hT x y hx hy
  have HZ : Hid (t.size ≤ 1000000) := hz
  clear hS hT hC0 hCs hn0
  refine wp_scope_jumps 0 (fun a' w' => ∃ (p : Nat) (u5 u13 u14 u15 u16 u17 u18 u19 u20 u21 u22 u23 u24 u25 u26 : Value), a' = { tmps := #[.string t, undef, .string ⟨#[]⟩, .pointer (some ⟨w.heap.size + 1 + 1, 0, none⟩), .int .i64 p, u5, .string t, .map (some w.heap.size), .string t, .int .i64 t.size, .slice (some ⟨w.heap.size + 1, 0, none⟩) t.size t.size, .agg #[Value.slice none 0 0, Value.int IntKind.i64 0, Value.string t, Value.map (some w.heap.size), Value.slice (some ⟨w.heap.size + 1, 0, none⟩) t.size t.size], .pointer (some ⟨w.heap.size + 1 + 1, 0, none⟩), u13, u14, u15, u16, u17, u18, u19, u20, u21, u22, u23, u24, u25, u26, undef, undef, undef, undef, undef, undef], defers := [] } ∧ DfI w.heap.size (w.heap.size + 1 + 1) w.heap.size (w.heap.size + 1) t w w' p) (fun a' _ => t.size - (intOf (a'.tmps.getD 4 undef)).toNat) rfl ?_ ?_
  · go_wp2
    go_step3
    generalize (((w.alloc (Obj.map #[] 0)).alloc (Obj.cells C 3)).alloc (Obj.cells #[Value.slice none 0 0, Value.int IntKind.i64 0, Value.string t, Value.map (some w.heap.size), Value.slice (some ⟨w.heap.size + 1, 0, none⟩) t.size t.size] 43)) = W at *
    clear hmk hmm hz
    obtain ⟨to, HTO⟩ : ∃ to, Hid (toAt t 0 = to) := ⟨_, rfl⟩
    have hmin : (if (t.size : Int) < 65535 then (t.size : Int) else 65535) = (to : Int) := by rw [← HTO.out]; unfold toAt; split <;> omega
    have HLE : Hid (to ≤ t.size) := by show to ≤ t.size; rw [← HTO.out]; unfold toAt; omega
    by_cases hlt : to < t.size
    · have HLT : Hid (to < t.size) := hlt
      have hlt' := lt_int hlt
      clear hlt
      go_wp2_with (go_at_call 11; refine (HBLK.out _ 0 _ _ HSTART.out rfl (by rw [HTO.out])).mono ?_; rintro e w2 ⟨rfl, hmore, -, hf2⟩)
      go_step3
      exact ⟨rfl, to, _, _, _, _, _, _, _, _, _, _, _, _, _, _, _, rfl, (by have := hmore (by rw [HTO.out]; exact HLT.out); rw [HTO.out] at this; exact this)⟩
    · have HTE : Hid (to = t.size) := by have := HLE.out; show to = t.size; omega
      have hlt' := ge_int hlt
      clear hlt
      go_wp2_with (go_at_call 11; refine (HBLK.out _ 0 _ _ HSTART.out rfl (by rw [HTO.out])).mono ?_; rintro e w2 ⟨rfl, -, hdone, hf2⟩; obtain ⟨B, v, hdf, c0, hbs⟩ := hdone (by rw [HTO.out]; exact HTE.out); have hcv := row_string (P := Tryd.prog) hbs 39 5 9 Tryd.underlying39 Tryd.underlying5 Tryd.underlying9; obtain ⟨a4, c4, hv4⟩ := hbs.shape; rw [hv4] at c0 hcv; obtain ⟨M, HM⟩ : ∃ M, Hid ((pack B).length = M) := ⟨_, rfl⟩; rw [HM.out] at c0 hcv)
      unfold Exit.jump
      simp only []
      go_ret
      exact ⟨B, hdf, rfl, hf2⟩
  · rintro a' wr ⟨p, u5, u13, u14, u15, u16, u17, u18, u19, u20, u21, u22, u23, u24, u25, u26, rfl, hdf0⟩
    have HDF : Hid (DfI w.heap.size (w.heap.size + 1 + 1) w.heap.size (w.heap.size + 1) t w wr p) := hdf0
    have hpz : p ≤ 1000000 := Nat.le_trans hdf0.le HZ.out
    clear hmk hmm hz hdf0 HSTART
    obtain ⟨to, HTO⟩ : ∃ to, Hid (toAt t p = to) := ⟨_, rfl⟩
    have hmin : (if (t.size : Int) < (p : Int) + 65535 then (t.size : Int) else (p : Int) + 65535) = (to : Int) := by rw [← HTO.out]; unfold toAt; split <;> omega
    have HLE : Hid (to ≤ t.size) := by show to ≤ t.size; rw [← HTO.out]; unfold toAt; omega
    have HMS : Hid (to < t.size → t.size - to < t.size - p) := fun h => by rw [← HTO.out] at h ⊢; unfold toAt at *; omega
    by_cases hlt : to < t.size
    · have HLT : Hid (to < t.size) := hlt
      have hlt' := lt_int hlt
      clear hlt
      go_wp2_with (go_at_call 11; refine (HBLK.out _ p _ _ HDF.out rfl (by rw [HTO.out])).mono ?_; rintro e w2 ⟨rfl, hmore, -, hf2⟩)
      go_step3
      exact ⟨rfl, ⟨to, _, _, _, _, _, _, _, _, _, _, _, _, _, _, _, rfl, (by have := hmore (by rw [HTO.out]; exact HLT.out); rw [HTO.out] at this; exact this)⟩, by simpa [intOf] using HMS.out HLT.out⟩
    · have HTE : Hid (to = t.size) := by have := HLE.out; show to = t.size; omega
      have hlt' := ge_int hlt
      clear hlt
      go_wp2_with (go_at_call 11; refine (HBLK.out _ p _ _ HDF.out rfl (by rw [HTO.out])).mono ?_; rintro e w2 ⟨rfl, -, hdone, hf2⟩; obtain ⟨B, v, hdf, c0, hbs⟩ := hdone (by rw [HTO.out]; exact HTE.out); have hcv := row_string (P := Tryd.prog) hbs 39 5 9 Tryd.underlying39 Tryd.underlying5 Tryd.underlying9; obtain ⟨a4, c4, hv4⟩ := hbs.shape; rw [hv4] at c0 hcv; obtain ⟨M, HM⟩ : ∃ M, Hid ((pack B).length = M) := ⟨_, rfl⟩; rw [HM.out] at c0 hcv)
      unfold Exit.jump
      simp only []
      go_ret
      exact ⟨B, hdf, rfl, hf2⟩
end Go.Proofs.YtohfpmlofjhigaaDoor
