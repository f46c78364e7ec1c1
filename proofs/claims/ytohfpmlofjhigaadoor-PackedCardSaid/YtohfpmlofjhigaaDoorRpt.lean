/-
  flate: repeat.
-/
import Derived.Test.YtohfpmlofjhigaaDoorVal
namespace Go.Proofs.YtohfpmlofjhigaaDoor
open Go Go.RowKit Go.Extern.Stop Go.Stop Go.Extern

/-- A writer's own blocks lie behind the package's variables. -/
structure Gl (w : World) (db : Nat) : Prop where
  base : 32 ≤ db
  own : ∀ i, blkAt w db 0 = some i → 32 ≤ i
  size : 32 ≤ w.heap.size
theorem Gl.kp {w w' : World} {db : Nat} (h : Gl w db) (k : Kp db 0 w w') : Gl w' db ∧ ∀ i, i < 32 → w'.heap[i]? = w.heap[i]? := by
  refine ⟨⟨h.base, fun i hi => ?_, Nat.le_trans h.size k.size⟩, fun i hi => k.old i (Nat.lt_of_lt_of_le hi h.size) (by have := h.base; omega) (fun e => by have := h.own i e; omega)⟩
  rcases k.at' with e | ⟨g, hg, e⟩
  · exact h.own i (by rw [← e]; exact hi)
  · rw [hi] at e
    cases e
    have := h.size
    omega
theorem SpAt.carry {w w' : World} {g : Nat} {l : List (Nat × Nat)} (h : SpAt w g l) (e : w'.heap[g]? = w.heap[g]?) : SpAt w' g l := fun p hp => ⟨(World.cell?_of_block (a := ⟨g, p * 2, none⟩) e).trans (h p hp).1, (World.cell?_of_block (a := ⟨g, p * 2 + 1, none⟩) e).trans (h p hp).2⟩
theorem rep_facts {x f b p n : Nat} (h1 : f ≤ x) (h2 : x ≤ 32768) (hp : p < n) : wrap64 ((x : Int) - (f : Int)) = ((x - f : Nat) : Int) ∧ IntKind.i64.wrap ((x : Int) - (f : Int)) = ((x - f : Nat) : Int) ∧ (p : Int) < (n : Int) ∧ (b = b) := by
  have e : wrap64 ((x : Int) - (f : Int)) = ((x - f : Nat) : Int) := by unfold wrap64; omega
  exact ⟨e, by rw [IntKind.wrap_i64]; unfold wrap64 at e; exact e, by omega, rfl⟩

set_option maxRecDepth 8000 in
set_option maxHeartbeats 2000000 in
theorem repeat_any (db : Nat) (B : List Bool) (n d : Nat) (w : World) (h3 : 3 ≤ n) (h258 : n ≤ 258) (h1 : 1 ≤ d) (hd : d ≤ 32768) (hN : B.length ≤ 70368744170000) (hW : Wr w db B) (hG : Gl w db) (hS : SpAt w 20 lenF) (hT : SpAt w 21 disF) :
    Calls Tryd.prog 32 #[.pointer (some ⟨db, 0, none⟩), .int .i64 n, .int .i64 d] w fun e w' => e = .returned (.tuple #[]) ∧ Wr w' db (B ++ repB n d) ∧ Kp db 0 w w' := by
  have hlp := lengthPlace_any n w h3 hS
  have hdp := fun w1 (h : SpAt w1 21 disF) => distancePlace_any d w1 h1 h
  have f1 := lenP_first n h3
  have f2 := disP_first d h1
  have b1 := lenP_bits n
  have b2 := disP_bits d
  have p1 := lenP_lt n
  have p2 := disP_lt d
  have e1 := fixW_bits (257 + lenP n)
  have hl1 : (valB (257 + lenP n)).length ≤ 9 := by unfold valB; rw [highB_length]; exact e1.1
  have hval := value_any db B (257 + lenP n) w (by omega) (by omega) hW
  have hnum1 := fun w1 (h : Wr w1 db (B ++ valB (257 + lenP n))) => number_any db (B ++ valB (257 + lenP n)) (n - spF lenF (lenP n)) (spB lenF (lenP n)) w1 (by simp; omega) (by omega) (by omega) h
  have hwrd := fun w1 (h : Wr w1 db ((B ++ valB (257 + lenP n)) ++ lowB (n - spF lenF (lenP n)) (spB lenF (lenP n)))) => word_eq db _ (disP d) 5 (disP d) 5 w1 rfl rfl (by simp; omega) (by omega) (by omega) h
  have hnum2 := fun w1 (h : Wr w1 db (((B ++ valB (257 + lenP n)) ++ lowB (n - spF lenF (lenP n)) (spB lenF (lenP n))) ++ highB (disP d) 5)) => number_any db _ (d - spF disF (disP d)) (spB disF (disP d)) w1 (by simp; omega) (by omega) (by omega) h
  have HB : Hid (((((B ++ valB (257 + lenP n)) ++ lowB (n - spF lenF (lenP n)) (spB lenF (lenP n))) ++ highB (disP d) 5) ++ lowB (d - spF disF (disP d)) (spB disF (disP d))) = B ++ repB n d) := by show _ = _; unfold repB; simp
  obtain ⟨r1, r2, r3, -⟩ := rep_facts (b := 0) f1 (show n ≤ 32768 by omega) p1
  obtain ⟨s1, s2, s3, -⟩ := rep_facts (b := 0) f2 hd p2
  have w257 : wrap64 (257 + (lenP n : Int)) = ((257 + lenP n : Nat) : Int) := by unfold wrap64; omega
  have HS : Hid (∀ w1 : World, (∀ i, i < 32 → w1.heap[i]? = w.heap[i]?) → w1.cell? ⟨20, lenP n * 2, none⟩ = some (.int .i64 (spF lenF (lenP n))) ∧ w1.cell? ⟨20, lenP n * 2 + 1, none⟩ = some (.int .i64 (spB lenF (lenP n)))) := fun w1 h => (hS.carry (h _ (by decide))) (lenP n) p1
  have HT : Hid (∀ w1 : World, (∀ i, i < 32 → w1.heap[i]? = w.heap[i]?) → SpAt w1 21 disF ∧ w1.cell? ⟨21, disP d * 2, none⟩ = some (.int .i64 (spF disF (disP d))) ∧ w1.cell? ⟨21, disP d * 2 + 1, none⟩ = some (.int .i64 (spB disF (disP d)))) := fun w1 h => ⟨hT.carry (h _ (by decide)), (hT.carry (h _ (by decide))) (disP d) p2⟩
  have HG : Hid (Gl w db) := hG
  clear f1 f2 b1 b2 p1 p2 e1 hl1 hS hT hG hW hN h3 h258 h1 hd
  generalize lenP n = lp at *
  generalize disP d = dp at *
  generalize spF lenF lp = lf at *
  generalize spB lenF lp = lb at *
  generalize spF disF dp = df at *
  generalize spB disF dp = dbt at *
  generalize n - lf = nl at *
  generalize d - df = dd at *
  go_enter Tryd.func32, Tryd.ntmps32
  go_wp2_with (first
    | (go_at_call 53; refine hlp.mono ?_; rintro e w1 ⟨rfl, rfl⟩)
    | (go_at_call 31; refine hval.mono ?_; rintro e w2 ⟨rfl, hw2, hk2⟩; obtain ⟨hG2, hg2⟩ := HG.out.kp hk2; obtain ⟨l0, l1⟩ := HS.out w2 hg2))
  go_region_with (go_at_call 29; refine (hnum1 w2.drew hw2.drew).mono ?_; rintro e w3 ⟨rfl, hw3, hk3⟩; obtain ⟨hG3, hg3⟩ := hG2.kp ((Kp.drew _ _ _).trans hk3))
  all_goals
    obtain ⟨hT3, -, -⟩ := HT.out w3 (fun i hi => (hg3 i hi).trans (hg2 i hi))
    clear hlp hval hnum1
    go_wp2_with (first
      | (go_at_call 54; refine (hdp _ hT3).mono ?_; rintro e w4 ⟨rfl, rfl⟩)
      | (go_at_call 51; refine (hwrd _ hw3).mono ?_; rintro e w5 ⟨rfl, hw5, hk5⟩))
    obtain ⟨hG5, hg5⟩ := hG3.kp hk5
    obtain ⟨-, m0, m1⟩ := HT.out w5 (fun i hi => (hg5 i hi).trans ((hg3 i hi).trans (hg2 i hi)))
    clear hdp hwrd
    go_region_with (go_at_call 29; refine (hnum2 w5.drew hw5.drew).mono ?_; rintro e w6 ⟨rfl, hw6, hk6⟩)
    all_goals go_end0
    all_goals rw [HB.out] at hw6
    all_goals exact ⟨rfl, hw6, ((hk2.trans ((Kp.drew _ _ _).trans hk3)).trans hk5).trans ((Kp.drew _ _ _).trans hk6)⟩
end Go.Proofs.YtohfpmlofjhigaaDoor
