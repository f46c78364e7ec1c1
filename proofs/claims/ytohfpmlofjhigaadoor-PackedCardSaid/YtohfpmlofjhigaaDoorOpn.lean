/-
  avrokeep: a script in memory (laid by a template over this cut).
-/
import Derived.Test.YtohfpmlofjhigaaDoorRows
import Derived.Deep.Slices
import Derived.SizedLaws
import Derived.ProofKit
import Derived.OpenShut
import Derived.WideKeyArgs
namespace Go.Proofs.YtohfpmlofjhigaaDoor
open Go Go.ChangeShapes Go.WideShapes Go.ChangeAt Go.RowKit Go.Deep

theorem Tryd.cellsOp : Tryd.prog.cellsOf 25 = 5 := by kernel_rfl
theorem Tryd.cellsI : Tryd.prog.cellsOf 3 = 1 := by kernel_rfl
theorem Tryd.cellsS : Tryd.prog.cellsOf 9 = 1 := by kernel_rfl
theorem Tryd.bytesOp : 1 ≤ Tryd.prog.bytesOf 25 := by
  have h : decide (1 ≤ Tryd.prog.bytesOf 25) = true := by kernel_rfl
  exact of_decide_eq_true h

theorem in_weightsAll {H : Type} {P : Program} {e : TypeId} : ∀ {l : List (DataW H)} {d : DataW H}, d ∈ l → ∀ n ∈ d.weights P e, n ∈ DataW.weightsAll P e l
  | d0 :: l, d, hd, n, hn => by
    simp only [DataW.weightsAll, List.mem_append]
    rcases List.mem_cons.1 hd with rfl | h
    · exact .inl hn
    · exact .inr (in_weightsAll h n hn)
  | [], _, hd, _, _ => by cases hd

section
variable {H : Type} {enc : TypeId × Value → H}

theorem add_eq (b o k : Nat) : (⟨b, o, none⟩ : Addr).add k = ⟨b, o + k, none⟩ := by
  unfold Addr.add
  split
  · rename_i h; rw [h]; rfl
  · rfl
theorem lt_of_cell {w : World} {a : Addr} {v : Value} (h : w.cell? a = some v) : a.block < w.heap.size := by
  cases hb : w.heap[a.block]? with
  | none => simp [World.cell?, hb] at h
  | some o => exact (Array.getElem?_eq_some_iff.1 hb).1

/-- One step. -/
structure OpIs (W : World) (a : Addr) (i : Nat) (d : DataW H) (q : Int × Int × ByteArray) : Prop where
  k : W.cell? (a.add (i * 5)) = some (.int .i64 q.1)
  x : W.cell? (a.add (i * 5 + 1)) = some (.int .i64 q.2.1)
  xw : (Lit.int .i64 q.2.1).wf = true
  s : W.cell? (a.add (i * 5 + 4)) = some (.string q.2.2)
  d : ∃ y0 y1 y2 y3, d = .agg [y0, y1, y2, y3, .lit (.string q.2.2.data.toList)]

set_option maxRecDepth 100000 in
theorem op_is {W : World} {sp : Nat → Bool} {n i : Nat} {a : Addr} {cs : List Value} {d : DataW H} {p : List MemPlace} (h1 : W.cells? 0 (a.add (i * Tryd.prog.cellsOf 25)) (Tryd.prog.cellsOf 25) = some cs)
    (h2 : DataW.trod enc Tryd.prog W 0 sp true n 25 cs = some (d, p)) : ∃ q, OpIs W a i d q := by
  rw [Tryd.cellsOp] at h1
  obtain ⟨_, hlen, hcell⟩ := World.cells?_some h1
  obtain ⟨xs, k, _, hxy, _, hxl, hf⟩ := DataW.trod_struct Tryd.underlying25 h2
  have hxl5 : xs.length = 5 := hxl
  match xs, hxl5, cs, hlen with
  | [y0, y1, y2, y3, y4], _, [v0, v1, v2, v3, v4], _ =>
    have g0 : DataW.trod enc Tryd.prog W 0 sp true k 3 (([v0, v1, v2, v3, v4].drop 0).take (Tryd.prog.cellsOf 3)) = some y0 := hf 0 _ rfl
    have g1 : DataW.trod enc Tryd.prog W 0 sp true k 3 (([v0, v1, v2, v3, v4].drop 1).take (Tryd.prog.cellsOf 3)) = some y1 := hf 1 _ rfl
    have g4 : DataW.trod enc Tryd.prog W 0 sp true k 9 (([v0, v1, v2, v3, v4].drop 4).take (Tryd.prog.cellsOf 9)) = some y4 := hf 4 _ rfl
    rw [Tryd.cellsI] at g0 g1
    rw [Tryd.cellsS] at g4
    simp only [List.drop, List.take] at g0 g1 g4
    obtain ⟨k0, e0, d0, _⟩ := DataW.trod_int Tryd.underlying3 g0
    obtain ⟨k1, e1, d1, w1⟩ := DataW.trod_int Tryd.underlying3 g1
    obtain ⟨s, e4, d4, _⟩ := DataW.trod_string Tryd.underlying9 g4
    simp only [List.cons.injEq, and_true] at e0 e1 e4
    subst e0; subst e1; subst e4
    have c0 := hcell 0 (by omega)
    have c1 := hcell 1 (by omega)
    have c4 := hcell 4 (by omega)
    rw [add_add] at c0 c1 c4
    simp only [Prod.mk.injEq] at hxy
    exact ⟨(k0, k1, s), by simpa using c0, by simpa using c1, w1, by simpa using c4, y0.1, y1.1, y2.1, y3.1, by rw [hxy.1, d4]; rfl⟩

set_option maxRecDepth 100000 in
/-- A script, opened: no steps, or so many, five cells each. -/
theorem open_script {W : World} {base : Nat} {v : Value} {d : DataW H} {p : List MemPlace} (hok : Value.okWide Tryd.prog W .any base 22 v) (h : DataW.Trod enc Tryd.prog W 0 (fun _ => true) true 22 v d p)
    (hz : (DataW.weightsEach Tryd.prog [22] [d]).all (· ≤ reachBytes) = true) :
    (∃ sa cap, v = .slice sa 0 cap) ∨
    ∃ (sb so n cap : Nat) (K A : Nat → Int) (S : Nat → ByteArray), v = .slice (some ⟨sb, so, none⟩) n cap ∧ n ≤ 140737488355328 ∧ sb < W.heap.size ∧ (∀ i : Nat, i < n → W.cell? ⟨sb, so + i * 5, none⟩ = some (.int .i64 (K i))) ∧
      (∀ i : Nat, i < n → W.cell? ⟨sb, so + i * 5 + 1, none⟩ = some (.int .i64 (A i)) ∧ -9223372036854775808 ≤ A i ∧ A i ≤ 9223372036854775807) ∧ (∀ i : Nat, i < n → W.cell? ⟨sb, so + i * 5 + 4, none⟩ = some (.string (S i))) ∧ ∀ i, i < n → (S i).size ≤ 140737488355328 := by
  obtain ⟨a0, len, cap, rfl⟩ := okWide_slice Tryd.underlying22 hok
  obtain ⟨fuel, hf⟩ := h
  rcases open_slice Tryd.underlying22 hf with ⟨hc, _⟩ | ⟨a, len', cap', m, n, D, Pl, hc, _, hl, hm, hmm, hx, hall⟩
  · simp only [Value.cells, List.cons.injEq, Value.slice.injEq, and_true] at hc
    exact .inl ⟨_, _, by rw [hc.2.1]⟩
  · simp only [Value.cells, List.cons.injEq, Value.slice.injEq, and_true] at hc
    obtain ⟨rfl, rfl, rfl⟩ := hc
    cases len with
    | zero => exact .inl ⟨_, _, rfl⟩
    | succ len =>
      right
      have hlm : len + 1 ≤ m := by rw [hmm]; simp; exact hl
      obtain ⟨q, hq⟩ := choose_lt (α := Int × Int × ByteArray) (p := fun i q => OpIs W a i (D i) q) (n := m) (fun i hi => by
        obtain ⟨cs, h1, h2⟩ := hall i hi
        exact op_is h1 h2)
      obtain ⟨sb, so, spot⟩ := a
      have hsp : spot = none := by simpa [Addr.add] using World.cell?_spot (hq 0 (by omega)).k
      subst hsp
      have hd : d = .slice ((List.range (len + 1)).map D) ((List.range (m - (len + 1))).map fun j => D (len + 1 + j)) := by
        have := congrArg Prod.fst hx
        simpa using this
      have hsz := sized_slice hz (j := 0) (t := 22) rfl (by rw [hd]; rfl) Tryd.underlying22
      have hr := reachBytes_lt
      have hb := Tryd.bytesOp
      refine ⟨sb, so, len + 1, cap, fun i => (q i).1, fun i => (q i).2.1, fun i => (q i).2.2, rfl, ?_, ?_, fun i hi => ?_, fun i hi => ⟨?_, ?_⟩, fun i hi => ?_, fun i hi => ?_⟩
      · have h1 : len + 1 ≤ (len + 1) * Tryd.prog.bytesOf 25 := Nat.le_mul_of_pos_right _ hb
        have h2 : (len + 1) * Tryd.prog.bytesOf 25 ≤ (((List.range (len + 1)).map D).length + ((List.range (m - (len + 1))).map fun j => D (len + 1 + j)).length) * Tryd.prog.bytesOf 25 := Nat.mul_le_mul_right _ (by simp)
        omega
      · exact lt_of_cell (hq 0 (by omega)).k
      · have := (hq i (by omega)).k
        rwa [add_eq] at this
      · have := (hq i (by omega)).x
        rw [add_eq] at this
        simpa [Nat.add_assoc] using this
      · exact bounds_i64 (hq i (by omega)).xw
      · have := (hq i (by omega)).s
        rw [add_eq] at this
        simpa [Nat.add_assoc] using this
      · obtain ⟨y0, y1, y2, y3, hdi⟩ := (hq i (by omega)).d
        have hmem : (q i).2.2.data.toList.length ∈ DataW.weightsEach Tryd.prog [22] [d] := by
          refine DataW.weights_mem_each (j := 0) (t := 22) (d := d) rfl rfl _ ?_
          rw [hd]
          simp only [DataW.weights, Tryd.underlying22, List.mem_cons, List.mem_append]
          refine .inr (.inl (in_weightsAll (d := D i) (List.mem_map.2 ⟨i, List.mem_range.2 hi, rfl⟩) _ ?_))
          rw [hdi]
          simp only [DataW.weights, Tryd.underlying25]
          exact DataW.weights_mem_each (j := 4) (t := 9) rfl rfl _ (by simp [DataW.weights])
        have := List.all_eq_true.1 hz _ hmem
        have h2 : (q i).2.2.data.toList.length ≤ reachBytes := of_decide_eq_true this
        have h3 : (q i).2.2.size = (q i).2.2.data.toList.length := Array.length_toList.symm
        show (q i).2.2.size ≤ _
        omega
end
end Go.Proofs.YtohfpmlofjhigaaDoor
