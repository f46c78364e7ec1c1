/-
  flate: codeOf.
-/
import Derived.Test.YtohfpmlofjhigaaDoorWrd
import Derived.Test.YtohfpmlofjhigaaDoorDef
namespace Go.Proofs.YtohfpmlofjhigaaDoor
open Go Go.RowKit Go.Extern.Stop Go.Stop Go.Extern

/-- How many of the first m have so many bits. -/
def cntU (ls : Nat → Nat) : Nat → Nat → Nat
  | 0, _ => 0
  | m + 1, k => cntU ls m k + if ls m = k then 1 else 0
def manyU (ls : Nat → Nat) (N k : Nat) : Nat := if k = 0 then 0 else cntU ls N k
def plcU (ls : Nat → Nat) (N : Nat) : Nat → Nat
  | 0 => 0
  | k + 1 => plcU ls N k + manyU ls N k
def idxU (ls : Nat → Nat) (N v : Nat) : Nat := plcU ls N (ls v) + cntU ls v (ls v)
/-- What codeOf asks of lengths. -/
structure Lens (ls vals : Nat → Nat) (N : Nat) : Prop where
  le : ∀ v, v < N → 0 < ls v ∧ ls v ≤ 15
  idx : ∀ v, v < N → idxU ls N v < N ∧ vals (idxU ls N v) = v
  sur : ∀ q, q < N → vals q < N ∧ idxU ls N (vals q) = q
  small : N ≤ 300
def fixLen (v : Nat) : Nat := (fixW v).2
def lensB (ls vals : Nat → Nat) (N : Nat) : Bool := (List.range N).all fun v => decide (0 < ls v) && decide (ls v ≤ 15) && decide (idxU ls N v < N) && (vals (idxU ls N v) == v) && decide (vals v < N) && (idxU ls N (vals v) == v)
theorem lens_of {ls vals : Nat → Nat} {N : Nat} (h : lensB ls vals N = true) (hN : N ≤ 300) : Lens ls vals N := by
  have hall : ∀ v, v < N → ((((0 < ls v ∧ ls v ≤ 15) ∧ idxU ls N v < N) ∧ vals (idxU ls N v) = v) ∧ vals v < N) ∧ idxU ls N (vals v) = v := fun v hv => by
    have := List.all_eq_true.1 h v (List.mem_range.2 hv)
    simpa using this
  exact ⟨fun v hv => (hall v hv).1.1.1.1, fun v hv => ⟨(hall v hv).1.1.1.2, (hall v hv).1.1.2⟩, fun q hq => ⟨(hall q hq).1.2, (hall q hq).2⟩, hN⟩
theorem lens_dis : Lens (fun _ => 5) id 32 := lens_of (by kernel_rfl) (by decide)
theorem dis_many : (List.range 16).all (fun k => manyU (fun _ => 5) 32 k == disMany k) = true := by kernel_rfl
theorem cntU_le (ls : Nat → Nat) (m k : Nat) : cntU ls m k ≤ m := by
  induction m with
  | zero => exact Nat.le_refl _
  | succ m ih => unfold cntU; split <;> omega
theorem lens_fix : Lens fixLen fixVal 288 := lens_of (by kernel_rfl) (by decide)
theorem fix_many : (List.range 16).all (fun k => manyU fixLen 288 k == fixMany k) = true := by kernel_rfl

/-- Sixteen numbers in a block. -/
def Sixteen (w : World) (b : Nat) (f : Nat → Nat) : Prop := ∀ k, k ≤ 15 → w.cell? ⟨b, k, none⟩ = some (.int .i64 (f k)) ∧ w.frozen? ⟨b, k, none⟩ = false
theorem Sixteen.carry {w w' : World} {b : Nat} {f : Nat → Nat} (h : Sixteen w b f) (e : w'.heap[b]? = w.heap[b]?) : Sixteen w' b f := fun k hk => ⟨(World.cell?_of_block (a := ⟨b, k, none⟩) e).trans (h k hk).1, (World.frozen?_of_block (a := ⟨b, k, none⟩) e).trans (h k hk).2⟩
theorem Sixteen.set {w : World} {b : Nat} {f g : Nat → Nat} (h : Sixteen w b f) (i : Nat) (hi : i ≤ 15) (x : Int) (hx : x = g i) (hg : ∀ k, k ≤ 15 → k ≠ i → g k = f k) : Sixteen (w.setCell ⟨b, i, none⟩ (.int .i64 x)) b g := fun k hk => by
  refine ⟨?_, by rw [World.frozen?_setCell]; exact (h k hk).2⟩
  by_cases e : k = i
  · subst e
    rw [World.cell?_setCell_same _ _ _ (h k hk).1, hx]
  · rw [World.cell?_setCell_other _ _ _ _ (by simp <;> exact e), (h k hk).1, hg k hk e]
/-- Places that are there. -/
def There (w : World) (b N : Nat) : Prop := ∀ q, q < N → (w.cell? ⟨b, q, none⟩).isSome = true ∧ w.frozen? ⟨b, q, none⟩ = false
theorem There.carry {w w' : World} {b N : Nat} (h : There w b N) (e : w'.heap[b]? = w.heap[b]?) : There w' b N := fun q hq => ⟨by rw [World.cell?_of_block (a := ⟨b, q, none⟩) e]; exact (h q hq).1, (World.frozen?_of_block (a := ⟨b, q, none⟩) e).trans (h q hq).2⟩
/-- codeOf's first round. -/
structure Co1 (n0 lb : Nat) (ls : Nat → Nat) (N : Nat) (w wr : World) (m : Nat) : Prop where
  many : Sixteen wr (n0 + 1) (cntU ls m)
  sl : wr.cell? ⟨n0 + 1, 16, none⟩ = some (.slice (some ⟨n0, 0, none⟩) N N)
  vals : There wr n0 N
  fr : Fr n0 w wr
  lens : ∀ v, v < N → wr.cell? ⟨lb, v, none⟩ = some (.int .i64 (ls v))
  size : n0 + 2 ≤ wr.heap.size
theorem Co1.step {n0 lb : Nat} {ls : Nat → Nat} {N : Nat} {w wr : World} {m : Nat} (h : Co1 n0 lb ls N w wr m) (hlb : lb < n0) (hls : ls m ≤ 15) : Co1 n0 lb ls N w (wr.setCell ⟨n0 + 1, ls m, none⟩ (.int .i64 ((cntU ls m (ls m) : Int) + 1))).drew (m + 1) := by
  refine ⟨?_, (World.cell?_setCell_other _ _ _ _ (by simp <;> omega)).trans h.sl, h.vals.carry (Below.heap_setCell wr ⟨n0 + 1, ls m, none⟩ _ n0 (by simp)), (h.fr.trans (Fr.set wr ⟨n0 + 1, ls m, none⟩ _ (by simp))).trans (Fr.drew _ _), fun v hv => (World.cell?_setCell_other _ _ _ _ (by simp <;> omega)).trans (h.lens v hv), by show _ ≤ (wr.setCell _ _).heap.size; simp; exact h.size⟩
  exact (h.many.set (g := cntU ls (m + 1)) (ls m) hls _ (by rw [cntU]; simp) (fun k _ hne => by rw [cntU, if_neg (fun e => hne e.symm)]; omega)).carry rfl
theorem manyU_le (ls : Nat → Nat) (N k : Nat) : manyU ls N k ≤ N := by
  unfold manyU
  split
  · omega
  · exact cntU_le _ _ _
theorem plcU_le (ls : Nat → Nat) (N k : Nat) : plcU ls N k ≤ k * N := by
  induction k with
  | zero => simp [plcU]
  | succ k ih =>
    have := manyU_le ls N k
    unfold plcU
    rw [Nat.succ_mul]
    omega
/-- codeOf's second round: b places are told. -/
structure Co2 (n0 lb pb : Nat) (ls : Nat → Nat) (N : Nat) (w wr : World) (b : Nat) : Prop where
  many : Sixteen wr (n0 + 1) (manyU ls N)
  sl : wr.cell? ⟨n0 + 1, 16, none⟩ = some (.slice (some ⟨n0, 0, none⟩) N N)
  vals : There wr n0 N
  fr : Fr n0 w wr
  lens : ∀ v, v < N → wr.cell? ⟨lb, v, none⟩ = some (.int .i64 (ls v))
  pl : Sixteen wr pb (fun k => if k ≤ b then plcU ls N k else 0)
  hpb : n0 + 2 ≤ pb
theorem Co2.start {n0 lb : Nat} {ls : Nat → Nat} {N : Nat} {w wr : World} (h : Co1 n0 lb ls N w wr N) (hlb : lb < n0) (T : TypeId) : Co2 n0 lb wr.heap.size ls N w ((wr.setCell ⟨n0 + 1, 0, none⟩ (.int .i64 0)).alloc (Obj.cells #[Value.int IntKind.i64 0, Value.int IntKind.i64 0, Value.int IntKind.i64 0, Value.int IntKind.i64 0, Value.int IntKind.i64 0, Value.int IntKind.i64 0, Value.int IntKind.i64 0, Value.int IntKind.i64 0, Value.int IntKind.i64 0, Value.int IntKind.i64 0, Value.int IntKind.i64 0, Value.int IntKind.i64 0, Value.int IntKind.i64 0, Value.int IntKind.i64 0, Value.int IntKind.i64 0, Value.int IntKind.i64 0] T)) 0 := by
  have hm : Sixteen (wr.setCell ⟨n0 + 1, 0, none⟩ (.int .i64 0)) (n0 + 1) (manyU ls N) := h.many.set (g := manyU ls N) 0 (by omega) 0 (by simp [manyU]) (fun k _ hne => by unfold manyU; rw [if_neg hne])
  have hsl : (wr.setCell ⟨n0 + 1, 0, none⟩ (.int .i64 0)).cell? ⟨n0 + 1, 16, none⟩ = some (.slice (some ⟨n0, 0, none⟩) N N) := (World.cell?_setCell_other _ _ _ _ (by simp)).trans h.sl
  have hv : There (wr.setCell ⟨n0 + 1, 0, none⟩ (.int .i64 0)) n0 N := h.vals.carry (Below.heap_setCell wr ⟨n0 + 1, 0, none⟩ _ n0 (by simp))
  have hf : Fr n0 w (wr.setCell ⟨n0 + 1, 0, none⟩ (.int .i64 0)) := h.fr.trans (Fr.set wr ⟨n0 + 1, 0, none⟩ _ (by simp))
  have hl : ∀ v, v < N → (wr.setCell ⟨n0 + 1, 0, none⟩ (.int .i64 0)).cell? ⟨lb, v, none⟩ = some (.int .i64 (ls v)) := fun v hv => (World.cell?_setCell_other _ _ _ _ (by simp <;> omega)).trans (h.lens v hv)
  have hs : (wr.setCell ⟨n0 + 1, 0, none⟩ (.int .i64 0)).heap.size = wr.heap.size := by simp
  have hsz := h.size
  generalize wr.setCell ⟨n0 + 1, 0, none⟩ (.int .i64 0) = W1 at *
  obtain ⟨n2, s2⟩ := new_block W1 (Obj.cells #[Value.int IntKind.i64 0, Value.int IntKind.i64 0, Value.int IntKind.i64 0, Value.int IntKind.i64 0, Value.int IntKind.i64 0, Value.int IntKind.i64 0, Value.int IntKind.i64 0, Value.int IntKind.i64 0, Value.int IntKind.i64 0, Value.int IntKind.i64 0, Value.int IntKind.i64 0, Value.int IntKind.i64 0, Value.int IntKind.i64 0, Value.int IntKind.i64 0, Value.int IntKind.i64 0, Value.int IntKind.i64 0] T)
  have z2 : ∀ i, (W1.alloc (Obj.cells #[Value.int IntKind.i64 0, Value.int IntKind.i64 0, Value.int IntKind.i64 0, Value.int IntKind.i64 0, Value.int IntKind.i64 0, Value.int IntKind.i64 0, Value.int IntKind.i64 0, Value.int IntKind.i64 0, Value.int IntKind.i64 0, Value.int IntKind.i64 0, Value.int IntKind.i64 0, Value.int IntKind.i64 0, Value.int IntKind.i64 0, Value.int IntKind.i64 0, Value.int IntKind.i64 0, Value.int IntKind.i64 0] T)).frozen? ⟨W1.heap.size, i, none⟩ = false := fun i => World.frozen?_alloc_new _ _ _ _
  have o2 := Below.heap_alloc W1 (Obj.cells #[Value.int IntKind.i64 0, Value.int IntKind.i64 0, Value.int IntKind.i64 0, Value.int IntKind.i64 0, Value.int IntKind.i64 0, Value.int IntKind.i64 0, Value.int IntKind.i64 0, Value.int IntKind.i64 0, Value.int IntKind.i64 0, Value.int IntKind.i64 0, Value.int IntKind.i64 0, Value.int IntKind.i64 0, Value.int IntKind.i64 0, Value.int IntKind.i64 0, Value.int IntKind.i64 0, Value.int IntKind.i64 0] T)
  have hf2 : Fr n0 W1 (W1.alloc (Obj.cells #[Value.int IntKind.i64 0, Value.int IntKind.i64 0, Value.int IntKind.i64 0, Value.int IntKind.i64 0, Value.int IntKind.i64 0, Value.int IntKind.i64 0, Value.int IntKind.i64 0, Value.int IntKind.i64 0, Value.int IntKind.i64 0, Value.int IntKind.i64 0, Value.int IntKind.i64 0, Value.int IntKind.i64 0, Value.int IntKind.i64 0, Value.int IntKind.i64 0, Value.int IntKind.i64 0, Value.int IntKind.i64 0] T)) := Fr.alloc _ _ (by omega)
  generalize W1.alloc (Obj.cells #[Value.int IntKind.i64 0, Value.int IntKind.i64 0, Value.int IntKind.i64 0, Value.int IntKind.i64 0, Value.int IntKind.i64 0, Value.int IntKind.i64 0, Value.int IntKind.i64 0, Value.int IntKind.i64 0, Value.int IntKind.i64 0, Value.int IntKind.i64 0, Value.int IntKind.i64 0, Value.int IntKind.i64 0, Value.int IntKind.i64 0, Value.int IntKind.i64 0, Value.int IntKind.i64 0, Value.int IntKind.i64 0] T) = W at *
  rw [hs] at n2 s2 z2 o2
  have cells2 : ∀ o, W.cell? ⟨wr.heap.size, o, none⟩ = (#[Value.int IntKind.i64 0, Value.int IntKind.i64 0, Value.int IntKind.i64 0, Value.int IntKind.i64 0, Value.int IntKind.i64 0, Value.int IntKind.i64 0, Value.int IntKind.i64 0, Value.int IntKind.i64 0, Value.int IntKind.i64 0, Value.int IntKind.i64 0, Value.int IntKind.i64 0, Value.int IntKind.i64 0, Value.int IntKind.i64 0, Value.int IntKind.i64 0, Value.int IntKind.i64 0, Value.int IntKind.i64 0] : Array Value)[o]? := fun o => by unfold World.cell?; simp [n2]
  refine ⟨hm.carry (o2 _ (by omega)), (World.cell?_of_block (a := ⟨n0 + 1, 16, none⟩) (o2 _ (by simp; omega))).trans hsl, hv.carry (o2 _ (by omega)), hf.trans hf2, fun v hv => (World.cell?_of_block (a := ⟨lb, v, none⟩) (o2 _ (by simp; omega))).trans (hl v hv), fun k hk => ⟨?_, z2 _⟩, hsz⟩
  have e : (if k ≤ 0 then plcU ls N k else 0) = 0 := by
    split
    · have : k = 0 := by omega
      subst this; rfl
    · rfl
  show W.cell? ⟨wr.heap.size, k, none⟩ = some (.int .i64 ((if k ≤ 0 then plcU ls N k else 0 : Nat) : Int))
  rw [cells2, e]
  rcases k with _|_|_|_|_|_|_|_|_|_|_|_|_|_|_|_|k <;> first | rfl | omega
theorem Co2.step {n0 lb pb : Nat} {ls : Nat → Nat} {N : Nat} {w wr : World} {b : Nat} (h : Co2 n0 lb pb ls N w wr b) (hlb : lb < n0) (hb : b < 15) (x : Int) (hx : x = ((plcU ls N b + manyU ls N b : Nat) : Int)) : Co2 n0 lb pb ls N w (wr.setCell ⟨pb, b + 1, none⟩ (.int .i64 x)).drew (b + 1) := by
  have hp := h.hpb
  refine ⟨h.many.carry (Below.heap_setCell wr ⟨pb, b + 1, none⟩ _ (n0 + 1) (by simp; omega)), (World.cell?_setCell_other _ _ _ _ (by simp <;> omega)).trans h.sl, h.vals.carry (Below.heap_setCell wr ⟨pb, b + 1, none⟩ _ n0 (by simp; omega)), (h.fr.trans (Fr.set wr ⟨pb, b + 1, none⟩ _ (by simp; omega))).trans (Fr.drew _ _), fun v hv => (World.cell?_setCell_other _ _ _ _ (by simp <;> omega)).trans (h.lens v hv), ?_, h.hpb⟩
  refine (h.pl.set (g := fun k => if k ≤ b + 1 then plcU ls N k else 0) (b + 1) (by omega) x ?_ (fun k _ hne => ?_)).carry rfl
  · simp only [Nat.le_refl, if_true]; rw [hx]; rfl
  · show (if k ≤ b + 1 then _ else _) = (if k ≤ b then _ else _)
    by_cases hk : k ≤ b
    · rw [if_pos hk, if_pos (by omega)]
    · rw [if_neg hk, if_neg (by omega)]
/-- codeOf's third round: m values have their places. -/
structure Co3 (n0 lb pb : Nat) (ls : Nat → Nat) (N : Nat) (w wr : World) (m : Nat) : Prop where
  many : Sixteen wr (n0 + 1) (manyU ls N)
  sl : wr.cell? ⟨n0 + 1, 16, none⟩ = some (.slice (some ⟨n0, 0, none⟩) N N)
  vals : There wr n0 N
  fr : Fr n0 w wr
  lens : ∀ v, v < N → wr.cell? ⟨lb, v, none⟩ = some (.int .i64 (ls v))
  pl : Sixteen wr pb (fun k => plcU ls N k + cntU ls m k)
  hpb : n0 + 2 ≤ pb
  done : ∀ v, v < m → wr.cell? ⟨n0, idxU ls N v, none⟩ = some (.int .i64 v)
theorem Co3.start {n0 lb pb : Nat} {ls : Nat → Nat} {N : Nat} {w wr : World} (h : Co2 n0 lb pb ls N w wr 15) : Co3 n0 lb pb ls N w wr 0 :=
  ⟨h.many, h.sl, h.vals, h.fr, h.lens, fun k hk => ⟨by have := (h.pl k hk).1; simp only [if_pos hk] at this; exact this, (h.pl k hk).2⟩, h.hpb, fun v hv => by omega⟩
theorem Co3.step {n0 lb pb : Nat} {ls vals : Nat → Nat} {N : Nat} {w wr : World} {m : Nat} (h : Co3 n0 lb pb ls N w wr m) (hlb : lb < n0) (hL : Lens ls vals N) (hm : m < N) (x y : Int) (hx : x = m) (hy : y = ((plcU ls N (ls m) + cntU ls m (ls m) + 1 : Nat) : Int)) : Co3 n0 lb pb ls N w ((wr.setCell ⟨n0, idxU ls N m, none⟩ (.int .i64 x)).drew.setCell ⟨pb, ls m, none⟩ (.int .i64 y)) (m + 1) := by
  have hp := h.hpb
  have hi := (hL.idx m hm).1
  have hle := (hL.le m hm).2
  have hc : ∀ b, b ≠ n0 → b ≠ pb → ((wr.setCell ⟨n0, idxU ls N m, none⟩ (.int .i64 x)).drew.setCell ⟨pb, ls m, none⟩ (.int .i64 y)).heap[b]? = wr.heap[b]? := fun b h1 h2 => (Below.heap_setCell _ ⟨pb, ls m, none⟩ _ b h2).trans (Below.heap_setCell wr ⟨n0, idxU ls N m, none⟩ _ b h1)
  have e1 := hc (n0 + 1) (by omega) (by omega)
  have e2 := hc lb (by omega) (by omega)
  have ep : ((wr.setCell ⟨n0, idxU ls N m, none⟩ (.int .i64 x)).drew).heap[pb]? = wr.heap[pb]? := Below.heap_setCell wr ⟨n0, idxU ls N m, none⟩ _ pb (by simp; omega)
  have en : ((wr.setCell ⟨n0, idxU ls N m, none⟩ (.int .i64 x)).drew.setCell ⟨pb, ls m, none⟩ (.int .i64 y)).heap[n0]? = (wr.setCell ⟨n0, idxU ls N m, none⟩ (.int .i64 x)).heap[n0]? := Below.heap_setCell _ ⟨pb, ls m, none⟩ _ n0 (by simp; omega)
  obtain ⟨z, hz⟩ := Option.isSome_iff_exists.1 (h.vals _ hi).1
  refine ⟨h.many.carry e1, (World.cell?_of_block (a := ⟨n0 + 1, 16, none⟩) e1).trans h.sl, ?_, ((h.fr.trans (Fr.set wr ⟨n0, idxU ls N m, none⟩ _ (Nat.le_refl _))).trans (Fr.drew _ _)).trans (Fr.set _ ⟨pb, ls m, none⟩ _ (by simp; omega)), fun v hv => (World.cell?_of_block (a := ⟨lb, v, none⟩) e2).trans (h.lens v hv), ?_, h.hpb, fun v hv => ?_⟩
  · intro q hq
    refine ⟨?_, ?_⟩
    · rw [World.cell?_of_block (a := ⟨n0, q, none⟩) en]
      by_cases e : q = idxU ls N m
      · subst e; rw [World.cell?_setCell_same _ _ _ hz]; rfl
      · rw [World.cell?_setCell_other _ _ _ _ (by simp <;> exact e)]; exact (h.vals q hq).1
    · rw [World.frozen?_of_block (a := ⟨n0, q, none⟩) en, World.frozen?_setCell]; exact (h.vals q hq).2
  · refine ((h.pl.carry ep).set (g := fun k => plcU ls N k + cntU ls (m + 1) k) (ls m) hle y ?_ (fun k _ hne => ?_))
    · show y = ((plcU ls N (ls m) + cntU ls (m + 1) (ls m) : Nat) : Int)
      rw [hy, cntU, if_pos rfl]; rfl
    · show plcU ls N k + cntU ls (m + 1) k = plcU ls N k + cntU ls m k
      rw [cntU, if_neg (fun e => hne e.symm)]; omega
  · rw [World.cell?_of_block (a := ⟨n0, idxU ls N v, none⟩) en]
    by_cases e : v = m
    · subst e; rw [World.cell?_setCell_same _ _ _ hz, hx]
    · have hne : idxU ls N v ≠ idxU ls N m := fun e' => e (by rw [← (hL.idx v (by omega)).2, ← (hL.idx m hm).2, e'])
      rw [World.cell?_setCell_other _ _ _ _ (by simp <;> exact hne)]
      exact h.done v (by omega)
theorem Co3.code {n0 lb pb : Nat} {ls vals : Nat → Nat} {N : Nat} {w wr : World} (h : Co3 n0 lb pb ls N w wr N) (hL : Lens ls vals N) : CodeAt wr (n0 + 1) n0 N (manyU ls N) vals :=
  ⟨fun k hk => (h.many k hk).1, h.sl, fun q hq => by have := h.done (vals q) (hL.sur q hq).1; rw [(hL.sur q hq).2] at this; exact this⟩

theorem Co1.start (lb N : Nat) (ls : Nat → Nat) (w : World) (C : Array Value) (T1 T2 : TypeId) (hC0 : ∀ j, j < N → C[j]? = some (.int .i64 0)) (hlb : lb < w.heap.size) (hc : ∀ v, v < N → w.cell? ⟨lb, v, none⟩ = some (.int .i64 (ls v))) :
    Co1 w.heap.size lb ls N w ((w.alloc (Obj.cells C T1)).alloc (Obj.cells #[Value.int IntKind.i64 0, Value.int IntKind.i64 0, Value.int IntKind.i64 0, Value.int IntKind.i64 0, Value.int IntKind.i64 0, Value.int IntKind.i64 0, Value.int IntKind.i64 0, Value.int IntKind.i64 0, Value.int IntKind.i64 0, Value.int IntKind.i64 0, Value.int IntKind.i64 0, Value.int IntKind.i64 0, Value.int IntKind.i64 0, Value.int IntKind.i64 0, Value.int IntKind.i64 0, Value.int IntKind.i64 0, Value.slice (some ⟨w.heap.size, 0, none⟩) N N] T2)) 0 := by
  have hf1 : Fr w.heap.size w (w.alloc (Obj.cells C T1)) := Fr.alloc w _ (Nat.le_refl _)
  obtain ⟨n1, s1⟩ := new_block w (Obj.cells C T1)
  have z1 : ∀ i, (w.alloc (Obj.cells C T1)).frozen? ⟨w.heap.size, i, none⟩ = false := fun i => World.frozen?_alloc_new _ _ _ _
  generalize w.alloc (Obj.cells C T1) = W1 at *
  obtain ⟨n2, s2⟩ := new_block W1 (Obj.cells #[Value.int IntKind.i64 0, Value.int IntKind.i64 0, Value.int IntKind.i64 0, Value.int IntKind.i64 0, Value.int IntKind.i64 0, Value.int IntKind.i64 0, Value.int IntKind.i64 0, Value.int IntKind.i64 0, Value.int IntKind.i64 0, Value.int IntKind.i64 0, Value.int IntKind.i64 0, Value.int IntKind.i64 0, Value.int IntKind.i64 0, Value.int IntKind.i64 0, Value.int IntKind.i64 0, Value.int IntKind.i64 0, Value.slice (some ⟨w.heap.size, 0, none⟩) N N] T2)
  have z2 : ∀ i, (W1.alloc (Obj.cells #[Value.int IntKind.i64 0, Value.int IntKind.i64 0, Value.int IntKind.i64 0, Value.int IntKind.i64 0, Value.int IntKind.i64 0, Value.int IntKind.i64 0, Value.int IntKind.i64 0, Value.int IntKind.i64 0, Value.int IntKind.i64 0, Value.int IntKind.i64 0, Value.int IntKind.i64 0, Value.int IntKind.i64 0, Value.int IntKind.i64 0, Value.int IntKind.i64 0, Value.int IntKind.i64 0, Value.int IntKind.i64 0, Value.slice (some ⟨w.heap.size, 0, none⟩) N N] T2)).frozen? ⟨W1.heap.size, i, none⟩ = false := fun i => World.frozen?_alloc_new _ _ _ _
  have o2 := Below.heap_alloc W1 (Obj.cells #[Value.int IntKind.i64 0, Value.int IntKind.i64 0, Value.int IntKind.i64 0, Value.int IntKind.i64 0, Value.int IntKind.i64 0, Value.int IntKind.i64 0, Value.int IntKind.i64 0, Value.int IntKind.i64 0, Value.int IntKind.i64 0, Value.int IntKind.i64 0, Value.int IntKind.i64 0, Value.int IntKind.i64 0, Value.int IntKind.i64 0, Value.int IntKind.i64 0, Value.int IntKind.i64 0, Value.int IntKind.i64 0, Value.slice (some ⟨w.heap.size, 0, none⟩) N N] T2)
  have hf2 : Fr w.heap.size W1 (W1.alloc (Obj.cells #[Value.int IntKind.i64 0, Value.int IntKind.i64 0, Value.int IntKind.i64 0, Value.int IntKind.i64 0, Value.int IntKind.i64 0, Value.int IntKind.i64 0, Value.int IntKind.i64 0, Value.int IntKind.i64 0, Value.int IntKind.i64 0, Value.int IntKind.i64 0, Value.int IntKind.i64 0, Value.int IntKind.i64 0, Value.int IntKind.i64 0, Value.int IntKind.i64 0, Value.int IntKind.i64 0, Value.int IntKind.i64 0, Value.slice (some ⟨w.heap.size, 0, none⟩) N N] T2)) := Fr.alloc _ _ (by omega)
  generalize W1.alloc (Obj.cells #[Value.int IntKind.i64 0, Value.int IntKind.i64 0, Value.int IntKind.i64 0, Value.int IntKind.i64 0, Value.int IntKind.i64 0, Value.int IntKind.i64 0, Value.int IntKind.i64 0, Value.int IntKind.i64 0, Value.int IntKind.i64 0, Value.int IntKind.i64 0, Value.int IntKind.i64 0, Value.int IntKind.i64 0, Value.int IntKind.i64 0, Value.int IntKind.i64 0, Value.int IntKind.i64 0, Value.int IntKind.i64 0, Value.slice (some ⟨w.heap.size, 0, none⟩) N N] T2) = W at *
  rw [s1] at n2 s2 z2 o2
  have cells2 : ∀ o, W.cell? ⟨w.heap.size + 1, o, none⟩ = (#[Value.int IntKind.i64 0, Value.int IntKind.i64 0, Value.int IntKind.i64 0, Value.int IntKind.i64 0, Value.int IntKind.i64 0, Value.int IntKind.i64 0, Value.int IntKind.i64 0, Value.int IntKind.i64 0, Value.int IntKind.i64 0, Value.int IntKind.i64 0, Value.int IntKind.i64 0, Value.int IntKind.i64 0, Value.int IntKind.i64 0, Value.int IntKind.i64 0, Value.int IntKind.i64 0, Value.int IntKind.i64 0, Value.slice (some ⟨w.heap.size, 0, none⟩) N N] : Array Value)[o]? := fun o => by unfold World.cell?; simp [n2]
  have e1 := o2 w.heap.size (by omega)
  have cells1 : ∀ o, W.cell? ⟨w.heap.size, o, none⟩ = C[o]? := fun o => by unfold World.cell?; simp [e1.trans n1]
  have fz1 : ∀ i, W.frozen? ⟨w.heap.size, i, none⟩ = false := fun i => (World.frozen?_of_block (a := ⟨w.heap.size, i, none⟩) e1).trans (z1 i)
  have hf := hf1.trans hf2
  refine ⟨fun k hk => ⟨?_, z2 _⟩, by rw [cells2]; rfl, fun q hq => ⟨by rw [cells1, hC0 q hq]; rfl, fz1 _⟩, hf, fun v hv => (hf.cell hlb).trans (hc v hv), by omega⟩
  rw [cells2]
  have hk16 : k < 16 := by omega
  rcases k with _|_|_|_|_|_|_|_|_|_|_|_|_|_|_|_|k <;> first | rfl | omega

set_option maxRecDepth 8000 in
set_option maxHeartbeats 2000000 in
theorem codeOf_any (lb N : Nat) (ls vals : Nat → Nat) (w : World) (hL : Lens ls vals N) (hlb : lb < w.heap.size) (hc : ∀ v, v < N → w.cell? ⟨lb, v, none⟩ = some (.int .i64 (ls v))) :
    Calls Tryd.prog 55 #[.slice (some ⟨lb, 0, none⟩) N N] w fun e w' => ∃ cb vb, e = .returned (.pointer (some ⟨cb, 0, none⟩)) ∧ CodeAt w' cb vb N (manyU ls N) vals ∧ Fr w.heap.size w w' ∧ w.heap.size ≤ cb ∧ w.heap.size ≤ vb := by
  obtain ⟨C, hmk, hCs, hC0⟩ := make_ints N (by have := hL.small; omega) w
  have HL : Hid (Lens ls vals N) := hL
  have HLB : Hid (lb < w.heap.size) := hlb
  have HC : Hid (∀ v, v < N → w.cell? ⟨lb, v, none⟩ = some (.int .i64 (ls v))) := hc
  have hN := hL.small
  clear hL hlb hc
  go_enter Tryd.func55, Tryd.ntmps55
  go_wp2
  have HS1 : Hid (Co1 w.heap.size lb ls N w ((w.alloc (Obj.cells C 3)).alloc (Obj.cells #[Value.int IntKind.i64 0, Value.int IntKind.i64 0, Value.int IntKind.i64 0, Value.int IntKind.i64 0, Value.int IntKind.i64 0, Value.int IntKind.i64 0, Value.int IntKind.i64 0, Value.int IntKind.i64 0, Value.int IntKind.i64 0, Value.int IntKind.i64 0, Value.int IntKind.i64 0, Value.int IntKind.i64 0, Value.int IntKind.i64 0, Value.int IntKind.i64 0, Value.int IntKind.i64 0, Value.int IntKind.i64 0, Value.slice (some ⟨w.heap.size, 0, none⟩) N N] 129)) 0) := Co1.start lb N ls w C _ _ hC0 HLB.out HC.out
  generalize ((w.alloc (Obj.cells C 3)).alloc (Obj.cells #[Value.int IntKind.i64 0, Value.int IntKind.i64 0, Value.int IntKind.i64 0, Value.int IntKind.i64 0, Value.int IntKind.i64 0, Value.int IntKind.i64 0, Value.int IntKind.i64 0, Value.int IntKind.i64 0, Value.int IntKind.i64 0, Value.int IntKind.i64 0, Value.int IntKind.i64 0, Value.int IntKind.i64 0, Value.int IntKind.i64 0, Value.int IntKind.i64 0, Value.int IntKind.i64 0, Value.int IntKind.i64 0, Value.slice (some ⟨w.heap.size, 0, none⟩) N N] 129)) = W0 at *
  clear hmk hCs hC0 HC
  generalize hn0 : w.heap.size = n0 at *
  go_loopw [17] (fun cnt wr => ∃ m : Nat, m ≤ N ∧ cnt = .int .i64 m ∧ Co1 n0 lb ls N w wr m) (fun cnt _ => N - (intOf cnt).toNat)
  case atStart => exact ⟨0, Nat.zero_le _, rfl, HS1.out⟩
  case round =>
    obtain ⟨m, hm, rfl, hI⟩ := hrel
    clear HS1
    by_cases hlt : m < N
    · have hcell := hI.lens m hlt
      have hl15 := (HL.out.le m hlt).2
      obtain ⟨k1, k2⟩ := hI.many (ls m) hl15
      have HNX : Hid (Co1 n0 lb ls N w (wr.setCell ⟨n0 + 1, ls m, none⟩ (.int .i64 ((cntU ls m (ls m) : Int) + 1))).drew (m + 1)) := hI.step HLB.out hl15
      have hcl : cntU ls m (ls m) ≤ 300 := Nat.le_trans (cntU_le _ _ _) (by omega)
      have HM : Hid (m + 1 ≤ N ∧ N - (m + 1) < N - m) := ⟨hlt, by omega⟩
      have hmi : (m : Int) < (N : Int) := by omega
      have hli : (ls m : Int) < 16 := by omega
      clear hI hm
      generalize cntU ls m (ls m) = cn at *
      generalize ls m = lm at *
      go_wp2
      go_region
      go_wp2
      go_roundw
      case rel => exact ⟨m + 1, HM.out.1, by go_num, HNX.out⟩
      case measure => simp only [intOf]; exact HM.out.2
    · have hmN : m = N := by omega
      have HCO : Hid (Co2 n0 lb wr.heap.size ls N w ((wr.setCell ⟨n0 + 1, 0, none⟩ (.int .i64 0)).alloc (Obj.cells #[Value.int IntKind.i64 0, Value.int IntKind.i64 0, Value.int IntKind.i64 0, Value.int IntKind.i64 0, Value.int IntKind.i64 0, Value.int IntKind.i64 0, Value.int IntKind.i64 0, Value.int IntKind.i64 0, Value.int IntKind.i64 0, Value.int IntKind.i64 0, Value.int IntKind.i64 0, Value.int IntKind.i64 0, Value.int IntKind.i64 0, Value.int IntKind.i64 0, Value.int IntKind.i64 0, Value.int IntKind.i64 0] 127)) 0) := Co2.start (by rw [← hmN]; rw [hmN] at hI ⊢; exact hI) HLB.out _
      obtain ⟨k1, k2⟩ := hI.many 0 (by omega)
      have hge := ge_int hlt
      have hs0 : (wr.setCell ⟨n0 + 1, 0, none⟩ (.int .i64 0)).heap.size = wr.heap.size := by simp
      clear hI hlt hm hmN
      go_wp2
      generalize ((wr.setCell ⟨n0 + 1, 0, none⟩ (.int .i64 0)).alloc (Obj.cells #[Value.int IntKind.i64 0, Value.int IntKind.i64 0, Value.int IntKind.i64 0, Value.int IntKind.i64 0, Value.int IntKind.i64 0, Value.int IntKind.i64 0, Value.int IntKind.i64 0, Value.int IntKind.i64 0, Value.int IntKind.i64 0, Value.int IntKind.i64 0, Value.int IntKind.i64 0, Value.int IntKind.i64 0, Value.int IntKind.i64 0, Value.int IntKind.i64 0, Value.int IntKind.i64 0, Value.int IntKind.i64 0] 127)) = W2 at *
      generalize wr.heap.size = pb at *
      clear k1 k2 hge hs0
      go_loopw [36] (fun cnt wl => ∃ b : Nat, b ≤ 15 ∧ cnt = .int .i64 b ∧ Co2 n0 lb pb ls N w wl b) (fun cnt _ => 15 - (intOf cnt).toNat)
      case atStart => exact ⟨0, by omega, rfl, HCO.out⟩
      case round =>
        obtain ⟨b, hb, rfl, hI⟩ := hrel
        clear HCO
        by_cases hlt : b < 15
        · obtain ⟨k1, k2⟩ := hI.pl (b + 1) hlt
          obtain ⟨k3, k4⟩ := hI.pl b (by omega)
          obtain ⟨k5, k6⟩ := hI.many b (by omega)
          have e3 : (if b ≤ b then plcU ls N b else 0) = plcU ls N b := if_pos (Nat.le_refl _)
          simp only [] at k1 k3
          rw [e3] at k3
          have hpl : plcU ls N b ≤ 5000 := Nat.le_trans (plcU_le ls N b) (by have := Nat.mul_le_mul (show b ≤ 15 by omega) hN; omega)
          have hmy : manyU ls N b ≤ 300 := Nat.le_trans (manyU_le ls N b) hN
          have HNX : Hid (∀ x : Int, x = ((plcU ls N b + manyU ls N b : Nat) : Int) → Co2 n0 lb pb ls N w (wr.setCell ⟨pb, b + 1, none⟩ (.int .i64 x)).drew (b + 1)) := fun x hx => hI.step HLB.out hlt x hx
          have HP : Hid (n0 + 2 ≤ pb) := hI.hpb
          have hne : pb ≠ n0 + 1 := by have := hI.hpb; omega
          generalize (if b + 1 ≤ b then plcU ls N (b + 1) else 0) = z0 at *
          generalize plcU ls N b = pl at *
          generalize manyU ls N b = mn at *
          clear hI hb e3 k4 k6
          go_wp2
          go_region
          go_wp2
          go_roundw
          case rel => exact ⟨b + 1, hlt, by go_num, HNX.out _ (by push_cast; rfl)⟩
          case measure => simp only [intOf]; omega
        · have hb15 : b = 15 := by omega
          subst hb15
          have HC3 : Hid (Co3 n0 lb pb ls N w wr 0) := Co3.start hI
          clear hI hb hlt
          go_wp2
          go_loopw [55] (fun cnt wl => ∃ m : Nat, m ≤ N ∧ cnt = .int .i64 m ∧ Co3 n0 lb pb ls N w wl m) (fun cnt _ => N - (intOf cnt).toNat)
          case atStart => exact ⟨0, Nat.zero_le _, rfl, HC3.out⟩
          case round =>
            obtain ⟨m, hm, rfl, hI⟩ := hrel
            clear HC3
            by_cases hlt : m < N
            · have hcell := hI.lens m hlt
              obtain ⟨hl0, hl15⟩ := HL.out.le m hlt
              obtain ⟨k1, k2⟩ := hI.pl (ls m) hl15
              have k3 := hI.sl
              obtain ⟨hid, -⟩ := HL.out.idx m hlt
              obtain ⟨y, hy⟩ := Option.isSome_iff_exists.1 (hI.vals _ hid).1
              have hyf := (hI.vals _ hid).2
              have HNX : Hid (∀ x y : Int, x = m → y = ((plcU ls N (ls m) + cntU ls m (ls m) + 1 : Nat) : Int) → Co3 n0 lb pb ls N w ((wr.setCell ⟨n0, idxU ls N m, none⟩ (.int .i64 x)).drew.setCell ⟨pb, ls m, none⟩ (.int .i64 y)) (m + 1)) := fun x y hx hy => hI.step HLB.out HL.out hlt x y hx hy
              have hid2 : idxU ls N m = plcU ls N (ls m) + cntU ls m (ls m) := rfl
              have hne : pb ≠ n0 := by have := hI.hpb; omega
              have HM : Hid (m + 1 ≤ N ∧ N - (m + 1) < N - m) := ⟨hlt, by omega⟩
              have hmi : (m : Int) < (N : Int) := by omega
              have hli : (ls m : Int) < 16 := by omega
              have hlp : ((0 : Int) < (ls m : Int)) = True := by simp; omega
              change wr.cell? ⟨pb, ls m, none⟩ = some (.int .i64 ((plcU ls N (ls m) + cntU ls m (ls m) : Nat) : Int)) at k1
              rw [← hid2] at k1 HNX
              have hidi : ((idxU ls N m : Nat) : Int) < (N : Int) := by omega
              clear hI hm hid2
              obtain ⟨ix, hix⟩ : ∃ ix, Hid (idxU ls N m = ix) := ⟨_, rfl⟩
              obtain ⟨lm, hlm⟩ : ∃ lm, Hid (ls m = lm) := ⟨_, rfl⟩
              rw [hix.out] at k1 hy hyf HNX hidi
              rw [hlm.out] at k1 k2 hcell HNX hli hlp hl0
              clear hid hl15
              go_wp2
              go_region
              have hq1 : ((wr.setCell ⟨n0, ix, none⟩ (.int .i64 (m : Int))).drew).cell? ⟨pb, lm, none⟩ = some (.int .i64 (ix : Int)) := (World.cell?_setCell_other _ _ _ _ (by simp <;> omega)).trans k1
              have hq2 : ((wr.setCell ⟨n0, ix, none⟩ (.int .i64 (m : Int))).drew).frozen? ⟨pb, lm, none⟩ = false := by show World.frozen? (World.setCell _ _ _) _ = false; rw [World.frozen?_setCell]; exact k2
              have HNX2 : Hid (∀ y : Int, y = ((ix + 1 : Nat) : Int) → Co3 n0 lb pb ls N w (((wr.setCell ⟨n0, ix, none⟩ (.int .i64 (m : Int))).drew).setCell ⟨pb, lm, none⟩ (.int .i64 y)) (m + 1)) := fun y hy => HNX.out _ y rfl hy
              generalize (wr.setCell ⟨n0, ix, none⟩ (.int .i64 (m : Int))).drew = V at *
              clear k1 k2 k3 hy hyf HNX
              go_wp2
              go_roundw
              case rel => exact ⟨m + 1, HM.out.1, by go_num, HNX2.out _ (by push_cast; rfl)⟩
              case measure => simp only [intOf]; exact HM.out.2
            · have hmN : m = N := by omega
              have HFIN : Hid (CodeAt wr (n0 + 1) n0 N (manyU ls N) vals ∧ Fr n0 w wr) := by
                rw [hmN] at hI
                exact ⟨hI.code HL.out, hI.fr⟩
              have hge := ge_int hlt
              clear hI hm hlt hmN
              go_wp2
              go_ret
              exact ⟨n0 + 1, n0, rfl, HFIN.out.1, by rw [hn0]; exact HFIN.out.2, by omega, by omega⟩
end Go.Proofs.YtohfpmlofjhigaaDoor
