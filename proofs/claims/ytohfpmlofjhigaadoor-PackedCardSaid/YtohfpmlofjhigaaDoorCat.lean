/-
  stop.Caught: what a reading that stops, and one that comes to its end, are told as.
-/
import Derived.Test.YtohfpmlofjhigaaDoorStp
import Derived.Tactics
import Derived.Tactics2
import Derived.Defers
import Derived.Recover
import Derived.Laws.Pointers
namespace Go.Proofs.YtohfpmlofjhigaaDoor
open Go Go.RowKit Go.Extern.Stop Go.Stop Go.Extern

theorem catch_idle (p : Addr) (w : World) :
    CallsD Tryd.prog 35 #[.pointer (some p)] .returning w fun e u' w' => e = .returned (.tuple #[]) ∧ u' = .returning ∧ w' = w := by
  refine callsD_of_wpS Tryd.func35 rfl fun c₀ cs hu => ?_
  apply wpS_seq
  apply wpS_region
  simp [wpOpsS, go_sem, recoverD, hu, Tryd.ntmps35, Exit.thenS]
  refine wpS_of_wp ?_
  go_wp2
  cases c₀
  simp_all [bodyPostS, results, Tryd.results35]

theorem catch_stop (p : Addr) (old : Value) (T : TypeId) (v : Value) (older : List PanicEntry) (w : World) (hc : w.cell? p = some old) (hz : w.frozen? p = false) (hp : p.block < w.heap.size) :
    CallsD Tryd.prog 35 #[.pointer (some p)] (.panicking ({ v := .iface 84 (.agg #[.iface T v]), recovered := false } :: older)) w fun e u' w' =>
      e = .returned (.tuple #[]) ∧ u' = .panicking ({ v := .iface 84 (.agg #[.iface T v]), recovered := true } :: older) ∧ w' = (w.alloc (.cells #[.iface T v] 84)).setCell p (.iface T v) := by
  refine callsD_of_wpS Tryd.func35 rfl fun c₀ cs hu => ?_
  apply wpS_seq
  apply wpS_region
  simp [wpOpsS, go_sem, recoverD, hu, Tryd.ntmps35, Exit.thenS]
  refine wpS_of_wp ?_
  have hfr : (#[Value.pointer (some p)] ++ (Array.replicate 11 undef).setIfInBounds 3 (.iface 84 (.agg #[.iface T v]))) = #[.pointer (some p), undef, undef, undef, .iface 84 (.agg #[.iface T v]), undef, undef, undef, undef, undef, undef, undef] := rfl
  rw [hfr]
  have hta : ∀ w : World, (Instr.typeAssert (.iface 84 (.agg #[.iface T v])) 20 84 true).run Tryd.prog w = .ok (.tuple #[.agg #[.iface T v], .bool true]) w := by intro w; kernel_rfl
  have hz' : (w.alloc (.cells #[.iface T v] 84)).frozen? p = false := by rw [World.frozen?_alloc_old _ _ p (Nat.ne_of_lt hp)]; exact hz
  have hc' : (w.alloc (.cells #[.iface T v] 84)).cell? p = some old := by rw [World.cell?_alloc_lt _ _ p hp]; exact hc
  clear hu hfr
  go_wp2
  simp [bodyPostS, results, Tryd.results35]

/-- A reading that stops: Caught tells the error. -/
theorem caught_stop_blocks (a : Value) (T : TypeId) (v : Value) (w : World) (post : World → Prop)
    (hread : Calls Tryd.prog 22 #[a] (w.alloc (.cells #[.nilIface] 31)) fun e w' => e = .panicked (stopped (.iface T v)) ∧ post w' ∧ w.heap.size < w'.heap.size ∧ w'.cell? ⟨w.heap.size, 0, none⟩ = some .nilIface ∧ w'.frozen? ⟨w.heap.size, 0, none⟩ = false) :
    Calls Tryd.prog 21 #[.func (.func 22) #[a] #[]] w fun e w' => e = .returned (.iface T v) ∧ ∃ w1, post w1 ∧ w' = (w1.alloc (.cells #[.iface T v] 84)).setCell ⟨w.heap.size, 0, none⟩ (.iface T v) := by
  have hmf : ∀ (fn : Fn) (first cap : Array Value) (w : World), (Instr.makeFunc fn first cap).run Tryd.prog w = .ok (.func fn first cap) w := fun _ _ _ _ => rfl
  have HR : Hid (Calls Tryd.prog 22 #[a] (w.alloc (.cells #[.nilIface] 31)) fun e w' => e = .panicked (stopped (.iface T v)) ∧ post w' ∧ w.heap.size < w'.heap.size ∧ w'.cell? ⟨w.heap.size, 0, none⟩ = some .nilIface ∧ w'.frozen? ⟨w.heap.size, 0, none⟩ = false) := hread
  clear hread
  go_enter_defers Tryd.func21, Tryd.ntmps21
  go_wp2_with (go_at_call 22; refine HR.out.mono ?_; rintro e w1 ⟨rfl, hp, hs1, hc1, hz1⟩)
  unfold stopped
  refine leaves_cons (f := 35) (args := #[.pointer (some ⟨w.heap.size, 0, none⟩)]) (by simp) (by simp [go_sem]) ?_
  refine (catch_stop ⟨w.heap.size, 0, none⟩ .nilIface T v [] w1 hc1 hz1 hs1).mono ?_
  rintro e u' w'' ⟨rfl, rfl, rfl⟩
  have hcell : ((w1.alloc (.cells #[.iface T v] 84)).setCell ⟨w.heap.size, 0, none⟩ (.iface T v)).cell? ⟨w.heap.size, 0, none⟩ = some (.iface T v) :=
    World.cell?_setCell_same _ _ _ ((World.cell?_alloc_lt w1 _ ⟨w.heap.size, 0, none⟩ hs1).trans hc1)
  simp [Leaves, settle, results, Tryd.results21, go_sem, hcell]
  exact ⟨w1, hp, rfl⟩
/-- A reading that comes to its end: Caught tells nil. -/
theorem caught_ok_blocks (a : Value) (w : World) (post : World → Prop)
    (hread : Calls Tryd.prog 22 #[a] (w.alloc (.cells #[.nilIface] 31)) fun e w' => e = .returned (.tuple #[]) ∧ post w' ∧ w.heap.size < w'.heap.size ∧ w'.cell? ⟨w.heap.size, 0, none⟩ = some .nilIface ∧ w'.frozen? ⟨w.heap.size, 0, none⟩ = false) :
    Calls Tryd.prog 21 #[.func (.func 22) #[a] #[]] w fun e w' => e = .returned .nilIface ∧ ∃ w1, post w1 ∧ w' = w1.setCell ⟨w.heap.size, 0, none⟩ .nilIface := by
  have hmf : ∀ (fn : Fn) (first cap : Array Value) (w : World), (Instr.makeFunc fn first cap).run Tryd.prog w = .ok (.func fn first cap) w := fun _ _ _ _ => rfl
  have HR : Hid (Calls Tryd.prog 22 #[a] (w.alloc (.cells #[.nilIface] 31)) fun e w' => e = .returned (.tuple #[]) ∧ post w' ∧ w.heap.size < w'.heap.size ∧ w'.cell? ⟨w.heap.size, 0, none⟩ = some .nilIface ∧ w'.frozen? ⟨w.heap.size, 0, none⟩ = false) := hread
  clear hread
  go_enter_defers Tryd.func21, Tryd.ntmps21
  go_wp2_with (go_at_call 22; refine HR.out.mono ?_; rintro e w1 ⟨rfl, hp, hs1, hc1, hz1⟩)
  refine leaves_cons (f := 35) (args := #[.pointer (some ⟨w.heap.size, 0, none⟩)]) (by simp) (by simp [go_sem]) ?_
  refine (catch_idle ⟨w.heap.size, 0, none⟩ _).mono ?_
  rintro e u' w'' ⟨rfl, rfl, rfl⟩
  have hcell : (w1.setCell ⟨w.heap.size, 0, none⟩ .nilIface).cell? ⟨w.heap.size, 0, none⟩ = some .nilIface := World.cell?_setCell_same _ _ _ hc1
  simp [Leaves, settle, results, Tryd.results21, go_sem, hcell]
  exact ⟨w1, hp, rfl⟩
end Go.Proofs.YtohfpmlofjhigaaDoor
