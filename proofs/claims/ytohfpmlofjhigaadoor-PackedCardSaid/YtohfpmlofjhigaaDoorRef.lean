/-
  plain.number of the program's own wrapped errors (*avro.refusal: its reason, and what was found): errors.Is, errors.As, number.
-/
import Derived.Test.YtohfpmlofjhigaaDoorNum
namespace Go.Proofs.YtohfpmlofjhigaaDoor
open Go.RowKit Go.Extern.Stop Go.Stop Go.Extern

theorem Tryd.noIsR (v : Value) (xT : TypeId) (w : World) : (Instr.typeAssert (.iface 45 v) xT 95 true).run Tryd.prog w = .ok (.tuple #[.nilIface, .bool false]) w := run_typeAssert_lacksB Tryd.underlying95 (by kernel_rfl) (by kernel_rfl) v xT w
theorem Tryd.hasUnwrapR (v : Value) (xT : TypeId) (w : World) : (Instr.typeAssert (.iface 45 v) xT 98 true).run Tryd.prog w = .ok (.tuple #[.iface 45 v, .bool true]) w := run_typeAssert_hasB Tryd.underlying98 (by kernel_rfl) v xT w
theorem Tryd.methodUnwrapR (v : Value) (w : World) : (Go.method 263 45 v "Unwrap").run Tryd.prog w = .ok (84, v) w := by kernel_rfl
theorem Tryd.call8R (v : Value) (w : World) : (callFunc 23 #[.iface 45 v]).run Tryd.prog w = .ok (.value (.iface 93 (.agg #[.pointer (some ⟨32, 45, none⟩)]))) w := by
  rw [@run_callFunc_extern Tryd.prog 23 _ Extern.ReflectliteType.typeOf Tryd.func23 (by kernel_rfl) (by kernel_rfl) (by kernel_rfl) (by kernel_rfl)]
  kernel_rfl
theorem Tryd.call53R (w : World) : (callFunc 91 #[.agg #[.pointer (some ⟨32, 45, none⟩)], .iface 93 (.agg #[.pointer (some ⟨32, 51, none⟩)])]).run Tryd.prog w = .ok (.value (.bool false)) w := by
  rw [@run_callFunc_extern Tryd.prog 91 _ (ReflectliteType.relation "AssignableTo" ReflectliteType.assignableTo) Tryd.func91 (by kernel_rfl) (by kernel_rfl) (by kernel_rfl) (by kernel_rfl)]
  kernel_rfl
theorem Tryd.noAsR (v : Value) (xT : TypeId) (w : World) : (Instr.typeAssert (.iface 45 v) xT 104 true).run Tryd.prog w = .ok (.tuple #[.nilIface, .bool false]) w := run_typeAssert_lacksB Tryd.underlying104 (by kernel_rfl) (by kernel_rfl) v xT w
/-- A refusal that wraps the reason itself. -/
theorem is_ref_same (pb po : Nat) (b : Addr) (w : World) (h1 : w.cell? ⟨pb, po, none⟩ = some (.iface 131 (.pointer (some b)))) :
    Calls Tryd.prog 14 #[.iface 45 (.pointer (some ⟨pb, po, none⟩)), .iface 131 (.pointer (some b))] w fun e w' => e = .returned (.bool true) ∧ w' = w := by
  obtain ⟨i, hi, hcmp⟩ := Option.map_eq_some_iff.1 Tryd.isComp
  obtain ⟨j, hj, hjs⟩ := Option.map_eq_some_iff.1 Tryd.isSize
  have c8 := Tryd.call8E
  have c54 := Tryd.call54
  have mR := Tryd.isMethodComparable
  have nW := Tryd.noIsR
  have uW := Tryd.hasUnwrapR
  have mU := Tryd.methodUnwrapR
  have heq := run_eql_iface_ptr_same (P := Tryd.prog) w b Tryd.underlying31 Tryd.underlying131 hi hcmp hj
  have hty := run_eql_iface_types (P := Tryd.prog) 45 131 (.pointer (some ⟨pb, po, none⟩)) (.pointer (some b)) Tryd.underlying31 (by decide) w
  go_enter Tryd.func14, Tryd.ntmps14
  go_wp2
  refine wp_loop_rounds 2 ?_
  rw [rounds_succ]
  go_wp2
  rw [rounds_succ]
  go_wp2
  go_ret
  exact ⟨rfl, rfl⟩

/-- A refusal that wraps another reason. -/
theorem is_ref_other (pb po : Nat) (b a : Addr) (ca cb : Array Value) (ta tb : TypeId) (w : World) (h1 : w.cell? ⟨pb, po, none⟩ = some (.iface 131 (.pointer (some a)))) (hne : a ≠ b) (ha : w.heap[a.block]? = some (.cells ca ta (0, 0))) (hb : w.heap[b.block]? = some (.cells cb tb (0, 0))) :
    Calls Tryd.prog 14 #[.iface 45 (.pointer (some ⟨pb, po, none⟩)), .iface 131 (.pointer (some b))] w fun e w' => e = .returned (.bool false) ∧ w' = w := by
  obtain ⟨i, hi, hcmp⟩ := Option.map_eq_some_iff.1 Tryd.isComp
  obtain ⟨j, hj, hjs⟩ := Option.map_eq_some_iff.1 Tryd.isSize
  have c8 := Tryd.call8E
  have c54 := Tryd.call54
  have mR := Tryd.isMethodComparable
  have nE := Tryd.noIsE
  have uE := Tryd.noUnwrapE
  have vE := Tryd.noUnwrapsE
  have nW := Tryd.noIsR
  have uW := Tryd.hasUnwrapR
  have mU := Tryd.methodUnwrapR
  have heq := run_eql_iface_ptr_other (P := Tryd.prog) w Tryd.underlying31 Tryd.underlying131 hi hcmp hj (by rw [hjs]; decide) hne ha hb
  have hty := run_eql_iface_types (P := Tryd.prog) 45 131 (.pointer (some ⟨pb, po, none⟩)) (.pointer (some b)) Tryd.underlying31 (by decide) w
  go_enter Tryd.func14, Tryd.ntmps14
  go_wp2
  refine wp_loop_rounds 2 ?_
  rw [rounds_succ]
  go_wp2
  rw [rounds_succ]
  go_wp2
  go_ret
  exact ⟨rfl, rfl⟩

set_option maxHeartbeats 4000000 in
theorem as_miss_ref (rb : Nat) (e t : Addr) (w : World) (r0 : w.cell? ⟨rb, 0, none⟩ = some (.iface 131 (.pointer (some e)))) (hg : w.cell? ⟨17, 0, none⟩ = some (.iface 93 (.agg #[.pointer (some ⟨32, 31, none⟩)]))) :
    Calls Tryd.prog 15 #[.iface 45 (.pointer (some ⟨rb, 0, none⟩)), .iface 53 (.pointer (some t))] w fun ev w' => ev = .returned (.bool false) ∧ Ext w w' := by
  have c8 := Tryd.call8E
  have c8R := Tryd.call8R
  have a53R := Tryd.call53R
  have nAR := Tryd.noAsR
  have uW := Tryd.hasUnwrapR
  have mU := Tryd.methodUnwrapR
  have hrb : rb < w.heap.size := by
    rcases Nat.lt_or_ge rb w.heap.size with h | h
    · exact h
    · simp [World.cell?, Array.getElem?_eq_none h] at r0
  have hb1 : rb < w.heap.size + 1 := by omega
  have hb2 : rb < w.heap.size + 1 + 1 := by omega
  have hb3 : rb < w.heap.size + 1 + 1 + 1 := by omega
  have hb4 : rb < w.heap.size + 1 + 1 + 1 + 1 := by omega
  have mA := Tryd.methodAssignableTo
  have a53 := Tryd.call53E
  have f10 := Tryd.call10
  have f11 := Tryd.call11
  have mK := Tryd.methodKind
  have mE := Tryd.methodElem
  have mI := Tryd.methodImplements
  have k36 := Tryd.call30
  have k28 := Tryd.call30F
  have e36 := Tryd.call55
  have i28 := Tryd.call56
  have nA := Tryd.noAsE
  have uE := Tryd.noUnwrapE
  have vE := Tryd.noUnwrapsE
  have n12 := Tryd.call12 ⟨w.heap.size, 0, none⟩ t ((w.alloc (.cells #[.pointer (some t)] 53)).alloc (.cells #[.pointer (some ⟨32, 53, none⟩), .pointer (some ⟨w.heap.size, 0, none⟩), .int .u64 150] 73)) (by simp)
  have hlt : 17 < w.heap.size := by
    rcases Nat.lt_or_ge 17 w.heap.size with h | h
    · exact h
    · simp [World.cell?, Array.getElem?_eq_none h] at hg
  have hg2 : ((w.alloc (.cells #[.pointer (some t)] 53)).alloc (.cells #[.pointer (some ⟨32, 53, none⟩), .pointer (some ⟨w.heap.size, 0, none⟩), .int .u64 150] 73)).cell? ⟨17, 0, none⟩ = some (.iface 93 (.agg #[.pointer (some ⟨32, 31, none⟩)])) := by
    rw [World.cell?_alloc_lt _ _ ⟨17, 0, none⟩ (by simp; omega), World.cell?_alloc_lt _ _ ⟨17, 0, none⟩ hlt]; exact hg
  go_enter Tryd.func15, Tryd.ntmps15
  go_wp2
  refine wp_loop_rounds 2 ?_
  rw [rounds_succ]
  go_wp2
  rw [rounds_succ]
  go_wp2
  go_ret
  exact ⟨rfl, by repeat first | exact Ext.refl _ | exact Ext.trans (Ext.alloc _ _) (Ext.refl _) | refine Ext.trans ?_ (Ext.alloc _ _)⟩

set_option maxHeartbeats 4000000 in
theorem number_refusal (a : Nat → Addr) (k : Nat) (hk : k < 16) (w : World) (M : Met a w) (rb : Nat) (r0 : w.cell? ⟨rb, 0, none⟩ = some (.iface 131 (.pointer (some (a k))))) :
    Calls Tryd.prog 10 #[.iface 45 (.pointer (some ⟨rb, 0, none⟩))] w fun e w' => e = .returned (.tuple #[.int .i64 (k + 1), .int .i64 (-1)]) ∧ Ext w w' := by
  have e0 := M.cell 0 (by decide)
  have e1 := M.cell 1 (by decide)
  have e2 := M.cell 2 (by decide)
  have e3 := M.cell 3 (by decide)
  have e4 := M.cell 4 (by decide)
  have e5 := M.cell 5 (by decide)
  have e6 := M.cell 6 (by decide)
  have e7 := M.cell 7 (by decide)
  have e8 := M.cell 8 (by decide)
  have e9 := M.cell 9 (by decide)
  have e10 := M.cell 10 (by decide)
  have e11 := M.cell 11 (by decide)
  have e12 := M.cell 12 (by decide)
  have e13 := M.cell 13 (by decide)
  have e14 := M.cell 14 (by decide)
  have e15 := M.cell 15 (by decide)
  have hrows := M.row
  have hap := M.apart
  have hg := M.handle
  have hx1 : Ext w (w.alloc (.cells #[.iface 131 (.pointer (some (a 0))), .iface 131 (.pointer (some (a 1))), .iface 131 (.pointer (some (a 2))), .iface 131 (.pointer (some (a 3))), .iface 131 (.pointer (some (a 4))), .iface 131 (.pointer (some (a 5))), .iface 131 (.pointer (some (a 6))), .iface 131 (.pointer (some (a 7))), .iface 131 (.pointer (some (a 8))), .iface 131 (.pointer (some (a 9))), .iface 131 (.pointer (some (a 10))), .iface 131 (.pointer (some (a 11))), .iface 131 (.pointer (some (a 12))), .iface 131 (.pointer (some (a 13))), .iface 131 (.pointer (some (a 14))), .iface 131 (.pointer (some (a 15)))] 31)) := Ext.alloc _ _
  have hx2 : Ext w ((w.alloc (.cells #[.iface 131 (.pointer (some (a 0))), .iface 131 (.pointer (some (a 1))), .iface 131 (.pointer (some (a 2))), .iface 131 (.pointer (some (a 3))), .iface 131 (.pointer (some (a 4))), .iface 131 (.pointer (some (a 5))), .iface 131 (.pointer (some (a 6))), .iface 131 (.pointer (some (a 7))), .iface 131 (.pointer (some (a 8))), .iface 131 (.pointer (some (a 9))), .iface 131 (.pointer (some (a 10))), .iface 131 (.pointer (some (a 11))), .iface 131 (.pointer (some (a 12))), .iface 131 (.pointer (some (a 13))), .iface 131 (.pointer (some (a 14))), .iface 131 (.pointer (some (a 15)))] 31)).alloc (.cells #[.pointer none] 51)) := hx1.trans (Ext.alloc _ _)
  have hgA := hx2.cell _ _ hg
  obtain ⟨ck, tk, hrk0⟩ := hrows k hk
  have hrk := hx1.row _ _ hrk0
  have r0A := hx1.cell _ _ r0
  have r0B := hx2.cell _ _ r0

  clear M
  go_enter Tryd.func10, Tryd.ntmps10
  go_wp2_with fail
  clear e0 e1 e2 e3 e4 e5 e6 e7 e8 e9 e10 e11 e12 e13 e14 e15
  go_loop [4, 28] (fun n i => ∃ j : Nat, j ≤ 16 ∧ i = .int .i64 j ∧ n = .int .i64 (if k < j then (k : Int) + 1 else 0)) (fun _ i => 16 - (intOf i).toNat)
  case atStart => exact ⟨0, by omega, rfl, by simp⟩
  case round =>
    obtain ⟨j, hj, rfl, rfl⟩ := hrel
    by_cases hend : j < 16
    · have hcell := row_at a j hend
      obtain ⟨cj, tj, hrj0⟩ := hrows j hend
      have hrj := hx1.row _ _ hrj0
      have hnew := new_row w a j hend
      simp only [rowOf] at hcell hnew
      by_cases hjk : j = k
      · subst hjk
        have hz : (if j < j then (j : Int) + 1 else 0) = 0 := by simp
        rw [hz]
        go_wp2_with (go_at_call 14; refine (is_ref_same rb 0 _ _ r0A).mono ?_; rintro e w' ⟨rfl, rfl⟩)
        go_round
        case rel => exact ⟨j + 1, by omega, by go_num, by simp⟩
        case measure => simp [intOf]; omega
      · have hne := hap k j hk hend (fun h => hjk h.symm)
        have hz : (if k < j + 1 then (k : Int) + 1 else 0) = (if k < j then (k : Int) + 1 else 0) := by
          by_cases h : k < j
          · rw [if_pos h, if_pos (by omega)]
          · rw [if_neg h, if_neg (by omega)]
        generalize hn : (if k < j then (k : Int) + 1 else 0) = n0 at hz ⊢
        go_wp2_with (go_at_call 14; refine (is_ref_other rb 0 _ _ _ _ _ _ _ r0A hne hrk hrj).mono ?_; rintro e w' ⟨rfl, rfl⟩)
        go_round
        case rel => exact ⟨j + 1, by omega, by go_num, by rw [hz]⟩
        case measure => simp [intOf]; omega
    · obtain rfl : j = 16 := by omega
      have hz : (if k < 16 then (k : Int) + 1 else 0) = (k : Int) + 1 := by rw [if_pos hk]
      rw [hz]
      go_wp2_with (go_at_call 15; refine (as_miss_ref rb _ _ _ r0B hgA).mono ?_; rintro e w' ⟨rfl, hx⟩)
      go_ret2
      exact ⟨rfl, hx2.trans hx⟩
end Go.Proofs.YtohfpmlofjhigaaDoor
