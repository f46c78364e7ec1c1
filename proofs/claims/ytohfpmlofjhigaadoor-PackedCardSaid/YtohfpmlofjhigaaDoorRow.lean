/-
  A slice of one's own, appended to: where it lies, what it holds, and what of the rest of memory is as it was.
-/
import Derived.Deep.Upon
import Derived.WalkKit
import Derived.OwnWalk
namespace Go.Proofs.YtohfpmlofjhigaaDoor
open Go Go.RowKit Go.Extern.Stop Go.Stop Go.Extern

/-- The block of a slice. -/
def blk : Value → Option Nat
  | .slice (some a) _ _ => some a.block
  | _ => none

/-- Block g is a row of c places of 'size' cells, none frozen; its first N hold cs. -/
structure RowAt (w : World) (size g c N : Nat) (cs : List Value) : Prop where
  lt : g < w.heap.size
  le : N ≤ c
  max : c ≤ maxLen
  len : cs.length = N * size
  holds : ∀ j, j < N * size → w.cell? ⟨g, j, none⟩ = cs[j]?
  there : ∀ j, j < c * size → (w.cell? ⟨g, j, none⟩).isSome = true ∧ w.frozen? ⟨g, j, none⟩ = false

/-- A slice of one's own: nil, or a row in a block of its own. -/
def Row (w : World) (size : Nat) (v : Value) (N : Nat) (cs : List Value) : Prop :=
  (v = .slice none 0 0 ∧ N = 0 ∧ cs = []) ∨ ∃ g c, v = .slice (some ⟨g, 0, none⟩) N c ∧ RowAt w size g c N cs

/-- Of what was there only v's own block may have turned; v' lies there, or in a new one. -/
structure Grew (w : World) (v : Value) (w' : World) (v' : Value) : Prop where
  os : w'.os = w.os
  output : w'.output = w.output
  size : w.heap.size ≤ w'.heap.size
  old : ∀ i, i < w.heap.size → blk v ≠ some i → w'.heap[i]? = w.heap[i]?
  at' : blk v' = blk v ∨ ∃ g, w.heap.size ≤ g ∧ blk v' = some g

theorem Row.nil (w : World) (size : Nat) : Row w size (.slice none 0 0) 0 [] := .inl ⟨rfl, rfl, rfl⟩
theorem Row.len {w : World} {size : Nat} {v : Value} {N : Nat} {cs : List Value} (h : Row w size v N cs) : cs.length = N * size := by
  rcases h with ⟨_, rfl, rfl⟩ | ⟨g, c, _, h⟩
  · simp
  · exact h.len
theorem Row.shape {w : World} {size : Nat} {v : Value} {N : Nat} {cs : List Value} (h : Row w size v N cs) : ∃ a c, v = .slice a N c := by
  rcases h with ⟨rfl, rfl, rfl⟩ | ⟨g, c, rfl, h⟩
  · exact ⟨none, 0, rfl⟩
  · exact ⟨_, _, rfl⟩
theorem Row.blk_lt {w : World} {size : Nat} {v : Value} {N : Nat} {cs : List Value} (h : Row w size v N cs) {i : Nat} (hi : blk v = some i) : i < w.heap.size := by
  rcases h with ⟨rfl, _, _⟩ | ⟨g, c, rfl, h⟩
  · cases hi
  · obtain rfl : g = i := by simpa [blk] using hi
    exact h.lt
/-- The row is told by its own block alone. -/
theorem Row.carry {w w' : World} {size : Nat} {v : Value} {N : Nat} {cs : List Value} (h : Row w size v N cs) (hb : ∀ i, blk v = some i → w'.heap[i]? = w.heap[i]?) : Row w' size v N cs := by
  rcases h with h | ⟨g, c, rfl, h⟩
  · exact .inl h
  · have e := hb g rfl
    refine .inr ⟨g, c, rfl, ?_, h.le, h.max, h.len, fun j hj => (World.cell?_of_block (a := ⟨g, j, none⟩) e).trans (h.holds j hj), fun j hj => ⟨by rw [World.cell?_of_block (a := ⟨g, j, none⟩) e]; exact (h.there j hj).1, (World.frozen?_of_block (a := ⟨g, j, none⟩) e).trans (h.there j hj).2⟩⟩
    rcases Nat.lt_or_ge g w'.heap.size with hl | hl
    · exact hl
    · rw [Array.getElem?_eq_none hl, Array.getElem?_eq_getElem h.lt] at e
      cases e
theorem Row.alloc {w : World} {size : Nat} {v : Value} {N : Nat} {cs : List Value} (h : Row w size v N cs) (o : Obj) : Row (w.alloc o) size v N cs :=
  h.carry fun i hi => Below.heap_alloc w o i (h.blk_lt hi)
theorem Row.drew {w : World} {size : Nat} {v : Value} {N : Nat} {cs : List Value} (h : Row w size v N cs) : Row w.drew size v N cs := h.carry fun _ _ => rfl

theorem Grew.refl (w : World) (v : Value) : Grew w v w v := ⟨rfl, rfl, Nat.le_refl _, fun _ _ _ => rfl, .inl rfl⟩
theorem Grew.alloc (w : World) (v : Value) (o : Obj) : Grew w v (w.alloc o) v :=
  ⟨rfl, rfl, by show w.heap.size ≤ (w.heap.push o).size; rw [Array.size_push]; omega, fun i hi _ => Below.heap_alloc w o i hi, .inl rfl⟩
theorem Grew.drew (w : World) (v : Value) : Grew w v w.drew v := ⟨rfl, rfl, Nat.le_refl _, fun _ _ _ => rfl, .inl rfl⟩
theorem Grew.trans {w w1 w2 : World} {v v1 v2 : Value} (h : Grew w v w1 v1) (k : Grew w1 v1 w2 v2) : Grew w v w2 v2 := by
  refine ⟨k.os.trans h.os, k.output.trans h.output, Nat.le_trans h.size k.size, fun i hi hne => ?_, ?_⟩
  · have h1 : blk v1 ≠ some i := by
      rcases h.at' with e | ⟨g, hg, e⟩
      · rw [e]; exact hne
      · rw [e]; intro e'; cases e'; omega
    rw [k.old i (Nat.lt_of_lt_of_le hi h.size) h1, h.old i hi hne]
  · rcases k.at' with e | ⟨g, hg, e⟩
    · rcases h.at' with e1 | ⟨g, hg, e1⟩
      · exact .inl (e.trans e1)
      · exact .inr ⟨g, hg, e.trans e1⟩
    · exact .inr ⟨g, Nat.le_trans h.size hg, e⟩
theorem Grew.cell {w w' : World} {v v' : Value} (h : Grew w v w' v') {b o : Nat} {x : Value} (hb : b < w.heap.size) (hne : blk v ≠ some b) (hx : w.cell? ⟨b, o, none⟩ = some x) : w'.cell? ⟨b, o, none⟩ = some x :=
  (World.cell?_of_block (a := ⟨b, o, none⟩) (h.old b hb hne)).trans hx

theorem row_append {P : Program} {e : TypeId} {size : Nat} (hpos : 0 < size) (t tx ty : TypeId) (i : TypeInfo) (z : Value) (bytes : Nat) (ht : P.underlying t = some (.slice e)) (hi : P.info? e = some i) (hz : i.zero = some z) (hsize : i.size = size) (hby : i.bytes = bytes) (hzs : z.cells.size = size)
    {w : World} {v : Value} {N : Nat} {cs : List Value} (h : Row w size v N cs) (x : Value) (n : Nat) (news : List Value) (hs : Src P size tx x n news w) (h63 : N + n ≤ maxLen) (hbytes : (N + n) * bytes ≤ 140737488355328) :
    ∃ v' w', (Builtin.append_ #[t, tx] ty #[v, x]).run P w = .ok v' w' ∧ Row w' size v' (N + n) (cs ++ news) ∧ Grew w v w' v' := by
  rcases h with ⟨rfl, rfl, rfl⟩ | ⟨g, c, rfl, h⟩
  · have hc : Came w size none 0 0 0 0 [] := ⟨Nat.le_refl _, fun h => absurd h (Nat.lt_irrefl _), fun h => absurd h (Nat.lt_irrefl _), by simp, fun j u hu => by simp at hu, fun j hj => by simp at hj⟩
    obtain ⟨v', w', hr, hu⟩ := run_append_upon (P := P) hc t tx ty i z bytes ht hi hz hsize hby hzs (Upon.start (e := e) hc) x n news hs (by simpa using h63) (by simpa using hbytes)
    have hr0 : Upon.next 0 0 size 0 0 n = 0 := by
      unfold Upon.next
      by_cases h0 : 0 + 0 + n ≤ 0
      · obtain rfl : n = 0 := by omega
        simp
      · rw [if_neg h0]
    rw [hr0] at hu
    refine ⟨v', w', hr, ?_, hu.kept.1, hu.kept.2.1, hu.kept.size, fun i hi _ => hu.kept.block hi (fun _ ⟨j, hj, _⟩ _ => absurd hj (Nat.not_lt_zero _)), ?_⟩
    · rcases hu.val with ⟨hle, hv, hrr⟩ | ⟨_, g, c', hv, ho⟩
      · obtain rfl : n = 0 := by omega
        have hn : news = [] := List.eq_nil_of_length_eq_zero (by simpa using hs.newsLen)
        exact .inl ⟨by simpa using hv, rfl, by simp [hn]⟩
      · refine .inr ⟨g, c', by simpa using hv, ?_, by simpa using ho.le, ho.max, by simpa using hs.newsLen, fun j hj => by simpa using ho.holds j (by simpa using hj), ho.there⟩
        have hle := ho.le
        have hn : 0 < n := by omega
        have hc0 : 0 < c' * size := Nat.mul_pos (by omega) hpos
        exact World.block_lt_of_cell? _ _ (Option.isSome_iff_exists.1 (ho.there 0 hc0).1).choose_spec
    · rcases hu.val with ⟨hle, hv, _⟩ | ⟨_, g, c', hv, ho⟩
      · exact .inl (by rw [hv]; rfl)
      · exact .inr ⟨g, ho.new, by rw [hv]; rfl⟩
  · have hc : Came w size (some ⟨g, 0, none⟩) g 0 N c cs := by
      refine ⟨h.le, fun _ => rfl, fun _ => h.lt, h.len, fun j u hu => ?_, fun j hj => ?_⟩
      · have hj : j < N * size := by rw [← h.len]; exact (List.getElem?_eq_some_iff.1 hu).1
        rw [Nat.zero_add, h.holds j hj, hu]
      · have hle : N * size ≤ c * size := Nat.mul_le_mul_right _ h.le
        rw [Nat.sub_mul] at hj
        rw [Nat.zero_add]
        exact h.there _ (by omega)
    obtain ⟨v', w', hr, hu⟩ := run_append_upon (P := P) hc t tx ty i z bytes ht hi hz hsize hby hzs (Upon.start (e := e) hc) x n news hs (by simpa using h63) (by simpa using hbytes)
    have hkept : ∀ i, i < w.heap.size → g ≠ i → w'.heap[i]? = w.heap[i]? := fun i hi hne => hu.kept.block hi (fun p ⟨j, _, hp⟩ e => by
      rw [hp] at e
      exact hne e)
    refine ⟨v', w', hr, ?_, hu.kept.1, hu.kept.2.1, hu.kept.size, fun i hi hne => hkept i hi (fun e => hne (by rw [← e]; rfl)), ?_⟩
    · rcases hu.val with ⟨hle, hv, hrr⟩ | ⟨_, g', c', hv, ho⟩
      · simp only [Nat.zero_add] at hle hv hrr
        refine .inr ⟨g, c, hv, Nat.lt_of_lt_of_le h.lt hu.kept.size, hle, h.max, by rw [List.length_append, h.len, hs.newsLen, Nat.add_mul], fun j hj => ?_, fun j hj => ?_⟩
        · by_cases hc0 : 0 < c
          · have := hu.inArray hc hc0 (by simpa using hrr) j (by simpa using hj)
            rwa [Nat.zero_add, List.nil_append] at this
          · obtain rfl : c = 0 := by omega
            obtain ⟨rfl, rfl⟩ : N = 0 ∧ n = 0 := by omega
            simp at hj
        · have hfr : w'.frozen? ⟨g, j, none⟩ = false := (hu.frozen ⟨g, j, none⟩ h.lt).trans (h.there j hj).2
          refine ⟨?_, hfr⟩
          have hin : ∀ j', j' < Upon.next N c size 0 0 n → w'.cell? ⟨g, 0 + N * size + j', none⟩ = ([] ++ news)[j']? := hu.written
          by_cases hw : N * size ≤ j ∧ j < N * size + Upon.next N c size 0 0 n
          · have := hin (j - N * size) (by omega)
            rw [Nat.zero_add, show N * size + (j - N * size) = j by omega] at this
            rw [this, List.getElem?_eq_getElem (by rw [← hrr]; omega)]
            rfl
          · rw [hu.old h.lt (fun j' hj' ⟨_, e'⟩ => by omega)]
            exact (h.there j hj).1
      · refine .inr ⟨g', c', by simpa using hv, ?_, by simpa using ho.le, ho.max, by rw [List.length_append, h.len, hs.newsLen, Nat.add_mul], fun j hj => by simpa using ho.holds j (by simpa using hj), ho.there⟩
        have hle := ho.le
        have hc0 : 0 < c' * size := Nat.mul_pos (by omega) hpos
        exact World.block_lt_of_cell? _ _ (Option.isSome_iff_exists.1 (ho.there 0 hc0).1).choose_spec
    · rcases hu.val with ⟨hle, hv, _⟩ | ⟨_, g', c', hv, ho⟩
      · exact .inl (by rw [hv]; rfl)
      · exact .inr ⟨g', ho.new, by rw [hv]; rfl⟩

/-- .. for the walk. -/
theorem wpList_append_row {P : Program} (w : World) {ops : Array Oper} {rest : List Oper} {o : Oper} {a : Act} {Q : Exit → Act → World → Prop} (hgd : o.guard = none) (s x : Operand) (t tx : TypeId)
    (ho : o.op = .call { callee := .builtin .append, args := #[s, x], argTypes := #[t, tx] })
    {e : TypeId} {size : Nat} (hpos : 0 < size) (i : TypeInfo) (z : Value) (bytes : Nat) (ht : P.underlying t = some (.slice e)) (hi : P.info? e = some i) (hz : i.zero = some z) (hsize : i.size = size) (hby : i.bytes = bytes) (hzs : z.cells.size = size)
    {v : Value} {N : Nat} {cs : List Value} (hv : a.eval s = v) (h : Row w size v N cs) (xv : Value) (n : Nat) (news : List Value) (hx : a.eval x = xv) (hs : Src P size tx xv n news w) (h63 : N + n ≤ maxLen) (hbytes : (N + n) * bytes ≤ 140737488355328)
    (hK : ∀ v' w', Row w' size v' (N + n) (cs ++ news) → Grew w v w' v' → wpList P ops Q rest (a.put o.dst v') w') : wpList P ops Q (o :: rest) a w := by
  refine wpList_plain hgd fun K hK' => ?_
  obtain ⟨v', w', hrun, r1, r2⟩ := row_append (P := P) hpos t tx o.type i z bytes ht hi hz hsize hby hzs h xv n news hs h63 hbytes
  unfold Oper.wp
  simp [execOp, ho, resolve, invoke, builtin, hv, hx, hrun, Result.andThen]
  exact hK' _ _ (hK v' w' r1 r2)

/-- One element that the translation lays for 'append(v, x)'. -/
theorem Src.one {P : Program} (w : World) {tx e' : TypeId} (hk : P.underlying tx = some (.slice e')) (te : TypeId) (x : Value) (h1 : x.oneCell' = true) : Src P 1 tx (.slice (some ⟨w.heap.size, 0, none⟩) 1 1) 1 [x] (w.alloc (.cells #[x] te)) := by
  refine Src.ofSlice _ hk _ 1 1 [x] rfl (fun j u hu => ?_) (fun u hu => by simp at hu; rw [hu]; exact h1)
  match j, hu with
  | 0, hu =>
    rw [Addr.add_lit, Nat.zero_add]
    have : u = x := by simpa using hu.symm
    rw [this]
    simp
  | j + 1, hu => simp at hu
theorem Src.one' {P : Program} (w : World) {tx e' : TypeId} (hk : P.underlying tx = some (.slice e')) (g : Nat) (hg : g = w.heap.size) (te : TypeId) (x : Value) (h1 : x.oneCell' = true) : Src P 1 tx (.slice (some ⟨g, 0, none⟩) 1 1) 1 [x] (w.alloc (.cells #[x] te)) := by
  subst hg
  exact Src.one w hk te x h1
end Go.Proofs.YtohfpmlofjhigaaDoor
