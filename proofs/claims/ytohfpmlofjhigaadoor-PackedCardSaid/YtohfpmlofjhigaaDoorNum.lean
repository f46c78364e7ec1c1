/-
  avrolaw.Names: Num (laid by a template over this cut).
-/
import Derived.Test.YtohfpmlofjhigaaDoorAsHit
import Derived.LoopTactic
import Derived.RegionTactic
namespace Go.Proofs.YtohfpmlofjhigaaDoor
open Go.RowKit Go.Extern.Stop Go.Stop Go.Extern

/-- The reasons, as a walk asks for them. -/
structure Met (a : Nat → Addr) (w : World) : Prop where
  cell : ∀ i, i < 16 → w.cell? ⟨i, 0, none⟩ = some (.iface 131 (.pointer (some (a i))))
  apart : ∀ i j, i < 16 → j < 16 → i ≠ j → a i ≠ a j
  row : ∀ i, i < 16 → ∃ c t, w.heap[(a i).block]? = some (.cells c t (0, 0))
  text : ∀ i, i < 16 → ∃ s : ByteArray, w.cell? (a i) = some (.string s) ∧ s.toList.isEmpty = false ∧ s.size < 1000
  handle : w.cell? ⟨17, 0, none⟩ = some (.iface 93 (.agg #[.pointer (some ⟨32, 31, none⟩)]))
theorem Met.ext {a : Nat → Addr} {w w' : World} (M : Met a w) (h : Ext w w') : Met a w' :=
  ⟨fun i hi => h.cell _ _ (M.cell i hi), M.apart, fun i hi => by obtain ⟨c, t, hr⟩ := M.row i hi; exact ⟨c, t, h.row _ _ hr⟩,
   fun i hi => by obtain ⟨s, hs, hz⟩ := M.text i hi; exact ⟨s, h.cell _ _ hs, hz⟩, h.cell _ _ M.handle⟩

def rowOf (a : Nat → Addr) : Array Value := #[.iface 131 (.pointer (some (a 0))), .iface 131 (.pointer (some (a 1))), .iface 131 (.pointer (some (a 2))), .iface 131 (.pointer (some (a 3))), .iface 131 (.pointer (some (a 4))), .iface 131 (.pointer (some (a 5))), .iface 131 (.pointer (some (a 6))), .iface 131 (.pointer (some (a 7))), .iface 131 (.pointer (some (a 8))), .iface 131 (.pointer (some (a 9))), .iface 131 (.pointer (some (a 10))), .iface 131 (.pointer (some (a 11))), .iface 131 (.pointer (some (a 12))), .iface 131 (.pointer (some (a 13))), .iface 131 (.pointer (some (a 14))), .iface 131 (.pointer (some (a 15)))]
theorem row_at (a : Nat → Addr) (j : Nat) (hj : j < 16) : (rowOf a)[j]? = some (.iface 131 (.pointer (some (a j)))) := by
  match j, hj with
  | 0, _ => rfl
  | 1, _ => rfl
  | 2, _ => rfl
  | 3, _ => rfl
  | 4, _ => rfl
  | 5, _ => rfl
  | 6, _ => rfl
  | 7, _ => rfl
  | 8, _ => rfl
  | 9, _ => rfl
  | 10, _ => rfl
  | 11, _ => rfl
  | 12, _ => rfl
  | 13, _ => rfl
  | 14, _ => rfl
  | 15, _ => rfl
  | n + 16, h => exact absurd h (by omega)
theorem new_row (w : World) (a : Nat → Addr) (j : Nat) (hj : j < 16) : (w.alloc (.cells (rowOf a) 31)).cell? ⟨w.heap.size, j, none⟩ = some (.iface 131 (.pointer (some (a j)))) := by
  rw [World.cell?_alloc_at _ _ _ _ rfl, row_at a j hj]

set_option maxHeartbeats 4000000 in
theorem number_plain (a : Nat → Addr) (k : Nat) (hk : k < 16) (w : World) (M : Met a w) :
    Calls Tryd.prog 10 #[.iface 131 (.pointer (some (a k)))] w fun e w' => e = .returned (.tuple #[.int .i64 (k + 1), .int .i64 (-1)]) ∧ Ext w w' := by
  have e0 := M.cell 0 (by decide)
  have e1 := M.cell 1 (by decide)
  have e2 := M.cell 2 (by decide)
  have e3 := M.cell 3 (by decide)
  have e4 := M.cell 4 (by decide)
  have e5 := M.cell 5 (by decide)
  have e6 := M.cell 6 (by decide)
  have e7 := M.cell 7 (by decide)
  have e8 := M.cell 8 (by decide)
  have e9 := M.cell 9 (by decide)
  have e10 := M.cell 10 (by decide)
  have e11 := M.cell 11 (by decide)
  have e12 := M.cell 12 (by decide)
  have e13 := M.cell 13 (by decide)
  have e14 := M.cell 14 (by decide)
  have e15 := M.cell 15 (by decide)
  have hrows := M.row
  have hap := M.apart
  have hg := M.handle
  have hx1 : Ext w (w.alloc (.cells #[.iface 131 (.pointer (some (a 0))), .iface 131 (.pointer (some (a 1))), .iface 131 (.pointer (some (a 2))), .iface 131 (.pointer (some (a 3))), .iface 131 (.pointer (some (a 4))), .iface 131 (.pointer (some (a 5))), .iface 131 (.pointer (some (a 6))), .iface 131 (.pointer (some (a 7))), .iface 131 (.pointer (some (a 8))), .iface 131 (.pointer (some (a 9))), .iface 131 (.pointer (some (a 10))), .iface 131 (.pointer (some (a 11))), .iface 131 (.pointer (some (a 12))), .iface 131 (.pointer (some (a 13))), .iface 131 (.pointer (some (a 14))), .iface 131 (.pointer (some (a 15)))] 31)) := Ext.alloc _ _
  have hx2 : Ext w ((w.alloc (.cells #[.iface 131 (.pointer (some (a 0))), .iface 131 (.pointer (some (a 1))), .iface 131 (.pointer (some (a 2))), .iface 131 (.pointer (some (a 3))), .iface 131 (.pointer (some (a 4))), .iface 131 (.pointer (some (a 5))), .iface 131 (.pointer (some (a 6))), .iface 131 (.pointer (some (a 7))), .iface 131 (.pointer (some (a 8))), .iface 131 (.pointer (some (a 9))), .iface 131 (.pointer (some (a 10))), .iface 131 (.pointer (some (a 11))), .iface 131 (.pointer (some (a 12))), .iface 131 (.pointer (some (a 13))), .iface 131 (.pointer (some (a 14))), .iface 131 (.pointer (some (a 15)))] 31)).alloc (.cells #[.pointer none] 51)) := hx1.trans (Ext.alloc _ _)
  have hgA := hx2.cell _ _ hg
  obtain ⟨ck, tk, hrk0⟩ := hrows k hk
  have hrk := hx1.row _ _ hrk0

  clear M
  go_enter Tryd.func10, Tryd.ntmps10
  go_wp2_with fail
  clear e0 e1 e2 e3 e4 e5 e6 e7 e8 e9 e10 e11 e12 e13 e14 e15
  go_loop [4, 28] (fun n i => ∃ j : Nat, j ≤ 16 ∧ i = .int .i64 j ∧ n = .int .i64 (if k < j then (k : Int) + 1 else 0)) (fun _ i => 16 - (intOf i).toNat)
  case atStart => exact ⟨0, by omega, rfl, by simp⟩
  case round =>
    obtain ⟨j, hj, rfl, rfl⟩ := hrel
    by_cases hend : j < 16
    · have hcell := row_at a j hend
      obtain ⟨cj, tj, hrj0⟩ := hrows j hend
      have hrj := hx1.row _ _ hrj0
      have hnew := new_row w a j hend
      simp only [rowOf] at hcell hnew
      by_cases hjk : j = k
      · subst hjk
        have hz : (if j < j then (j : Int) + 1 else 0) = 0 := by simp
        rw [hz]
        go_wp2_with (go_at_call 14; refine (is_same _ _).mono ?_; rintro e w' ⟨rfl, rfl⟩)
        go_round
        case rel => exact ⟨j + 1, by omega, by go_num, by simp⟩
        case measure => simp [intOf]; omega
      · have hne := hap k j hk hend (fun h => hjk h.symm)
        have hz : (if k < j + 1 then (k : Int) + 1 else 0) = (if k < j then (k : Int) + 1 else 0) := by
          by_cases h : k < j
          · rw [if_pos h, if_pos (by omega)]
          · rw [if_neg h, if_neg (by omega)]
        generalize hn : (if k < j then (k : Int) + 1 else 0) = n0 at hz ⊢
        go_wp2_with (go_at_call 14; refine (is_other _ _ _ _ _ _ _ hne hrk hrj).mono ?_; rintro e w' ⟨rfl, rfl⟩)
        go_round
        case rel => exact ⟨j + 1, by omega, by go_num, by rw [hz]⟩
        case measure => simp [intOf]; omega
    · obtain rfl : j = 16 := by omega
      have hz : (if k < 16 then (k : Int) + 1 else 0) = (k : Int) + 1 := by rw [if_pos hk]
      rw [hz]
      go_wp2_with (go_at_call 15; refine (as_miss _ _ _ hgA).mono ?_; rintro e w' ⟨rfl, hx⟩)
      go_ret2
      exact ⟨rfl, hx2.trans hx⟩

set_option maxHeartbeats 4000000 in
theorem number_fault (a : Nat → Addr) (k : Nat) (hk : k < 16) (w : World) (M : Met a w) (fb : Nat) (f0 : w.cell? ⟨fb, 0, none⟩ = some (.int .i64 7)) (f1 : w.cell? ⟨fb, 1, none⟩ = some (.iface 131 (.pointer (some (a k))))) :
    Calls Tryd.prog 10 #[.iface 51 (.pointer (some ⟨fb, 0, none⟩))] w fun e w' => e = .returned (.tuple #[.int .i64 (k + 1), .int .i64 7]) ∧ Ext w w' := by
  have e0 := M.cell 0 (by decide)
  have e1 := M.cell 1 (by decide)
  have e2 := M.cell 2 (by decide)
  have e3 := M.cell 3 (by decide)
  have e4 := M.cell 4 (by decide)
  have e5 := M.cell 5 (by decide)
  have e6 := M.cell 6 (by decide)
  have e7 := M.cell 7 (by decide)
  have e8 := M.cell 8 (by decide)
  have e9 := M.cell 9 (by decide)
  have e10 := M.cell 10 (by decide)
  have e11 := M.cell 11 (by decide)
  have e12 := M.cell 12 (by decide)
  have e13 := M.cell 13 (by decide)
  have e14 := M.cell 14 (by decide)
  have e15 := M.cell 15 (by decide)
  have hrows := M.row
  have hap := M.apart
  have hg := M.handle
  have hx1 : Ext w (w.alloc (.cells #[.iface 131 (.pointer (some (a 0))), .iface 131 (.pointer (some (a 1))), .iface 131 (.pointer (some (a 2))), .iface 131 (.pointer (some (a 3))), .iface 131 (.pointer (some (a 4))), .iface 131 (.pointer (some (a 5))), .iface 131 (.pointer (some (a 6))), .iface 131 (.pointer (some (a 7))), .iface 131 (.pointer (some (a 8))), .iface 131 (.pointer (some (a 9))), .iface 131 (.pointer (some (a 10))), .iface 131 (.pointer (some (a 11))), .iface 131 (.pointer (some (a 12))), .iface 131 (.pointer (some (a 13))), .iface 131 (.pointer (some (a 14))), .iface 131 (.pointer (some (a 15)))] 31)) := Ext.alloc _ _
  have hx2 : Ext w ((w.alloc (.cells #[.iface 131 (.pointer (some (a 0))), .iface 131 (.pointer (some (a 1))), .iface 131 (.pointer (some (a 2))), .iface 131 (.pointer (some (a 3))), .iface 131 (.pointer (some (a 4))), .iface 131 (.pointer (some (a 5))), .iface 131 (.pointer (some (a 6))), .iface 131 (.pointer (some (a 7))), .iface 131 (.pointer (some (a 8))), .iface 131 (.pointer (some (a 9))), .iface 131 (.pointer (some (a 10))), .iface 131 (.pointer (some (a 11))), .iface 131 (.pointer (some (a 12))), .iface 131 (.pointer (some (a 13))), .iface 131 (.pointer (some (a 14))), .iface 131 (.pointer (some (a 15)))] 31)).alloc (.cells #[.pointer none] 51)) := hx1.trans (Ext.alloc _ _)
  have hgA := hx2.cell _ _ hg
  obtain ⟨ck, tk, hrk0⟩ := hrows k hk
  have hrk := hx1.row _ _ hrk0
  have hfb : fb < w.heap.size := by
    rcases Nat.lt_or_ge fb w.heap.size with h | h
    · exact h
    · simp [World.cell?, Array.getElem?_eq_none h] at f0
  have hb1 : fb < w.heap.size + 1 := by omega
  have hb2 : fb < w.heap.size + 1 + 1 := by omega
  have hb3 : fb < w.heap.size + 1 + 1 + 1 := by omega
  have hb4 : fb < w.heap.size + 1 + 1 + 1 + 1 := by omega
  have hb5 : fb < w.heap.size + 1 + 1 + 1 + 1 + 1 := by omega
  have f1A := hx1.cell _ _ f1
  have htA : ((w.alloc (.cells #[.iface 131 (.pointer (some (a 0))), .iface 131 (.pointer (some (a 1))), .iface 131 (.pointer (some (a 2))), .iface 131 (.pointer (some (a 3))), .iface 131 (.pointer (some (a 4))), .iface 131 (.pointer (some (a 5))), .iface 131 (.pointer (some (a 6))), .iface 131 (.pointer (some (a 7))), .iface 131 (.pointer (some (a 8))), .iface 131 (.pointer (some (a 9))), .iface 131 (.pointer (some (a 10))), .iface 131 (.pointer (some (a 11))), .iface 131 (.pointer (some (a 12))), .iface 131 (.pointer (some (a 13))), .iface 131 (.pointer (some (a 14))), .iface 131 (.pointer (some (a 15)))] 31)).alloc (.cells #[.pointer none] 51)).cell? ⟨w.heap.size + 1, 0, none⟩ = some (.pointer none) := by simp
  have hfA : ((w.alloc (.cells #[.iface 131 (.pointer (some (a 0))), .iface 131 (.pointer (some (a 1))), .iface 131 (.pointer (some (a 2))), .iface 131 (.pointer (some (a 3))), .iface 131 (.pointer (some (a 4))), .iface 131 (.pointer (some (a 5))), .iface 131 (.pointer (some (a 6))), .iface 131 (.pointer (some (a 7))), .iface 131 (.pointer (some (a 8))), .iface 131 (.pointer (some (a 9))), .iface 131 (.pointer (some (a 10))), .iface 131 (.pointer (some (a 11))), .iface 131 (.pointer (some (a 12))), .iface 131 (.pointer (some (a 13))), .iface 131 (.pointer (some (a 14))), .iface 131 (.pointer (some (a 15)))] 31)).alloc (.cells #[.pointer none] 51)).frozen? ⟨w.heap.size + 1, 0, none⟩ = false := by simp
  clear M
  go_enter Tryd.func10, Tryd.ntmps10
  go_wp2_with fail
  clear e0 e1 e2 e3 e4 e5 e6 e7 e8 e9 e10 e11 e12 e13 e14 e15
  go_loop [4, 28] (fun n i => ∃ j : Nat, j ≤ 16 ∧ i = .int .i64 j ∧ n = .int .i64 (if k < j then (k : Int) + 1 else 0)) (fun _ i => 16 - (intOf i).toNat)
  case atStart => exact ⟨0, by omega, rfl, by simp⟩
  case round =>
    obtain ⟨j, hj, rfl, rfl⟩ := hrel
    by_cases hend : j < 16
    · have hcell := row_at a j hend
      obtain ⟨cj, tj, hrj0⟩ := hrows j hend
      have hrj := hx1.row _ _ hrj0
      have hnew := new_row w a j hend
      simp only [rowOf] at hcell hnew
      by_cases hjk : j = k
      · subst hjk
        have hz : (if j < j then (j : Int) + 1 else 0) = 0 := by simp
        rw [hz]
        go_wp2_with (go_at_call 14; refine (is_wrap_same fb 0 _ _ f1A).mono ?_; rintro e w' ⟨rfl, rfl⟩)
        go_round
        case rel => exact ⟨j + 1, by omega, by go_num, by simp⟩
        case measure => simp [intOf]; omega
      · have hne := hap k j hk hend (fun h => hjk h.symm)
        have hz : (if k < j + 1 then (k : Int) + 1 else 0) = (if k < j then (k : Int) + 1 else 0) := by
          by_cases h : k < j
          · rw [if_pos h, if_pos (by omega)]
          · rw [if_neg h, if_neg (by omega)]
        generalize hn : (if k < j then (k : Int) + 1 else 0) = n0 at hz ⊢
        go_wp2_with (go_at_call 14; refine (is_wrap_other fb 0 _ _ _ _ _ _ _ f1A hne hrk hrj).mono ?_; rintro e w' ⟨rfl, rfl⟩)
        go_round
        case rel => exact ⟨j + 1, by omega, by go_num, by rw [hz]⟩
        case measure => simp [intOf]; omega
    · obtain rfl : j = 16 := by omega
      have hz : (if k < 16 then (k : Int) + 1 else 0) = (k : Int) + 1 := by rw [if_pos hk]
      rw [hz]
      go_wp2_with (go_at_call 15; refine (as_hit _ _ (.pointer none) _ hgA htA hfA).mono ?_; rintro e w' ⟨rfl, rfl⟩)
      go_region
      all_goals go_wp2
      all_goals go_ret2
      all_goals exact ⟨rfl, by repeat first | exact Ext.refl _ | refine Ext.trans ?_ (Ext.drew _) | refine Ext.trans ?_ (Ext.alloc _ _)⟩
end Go.Proofs.YtohfpmlofjhigaaDoor
