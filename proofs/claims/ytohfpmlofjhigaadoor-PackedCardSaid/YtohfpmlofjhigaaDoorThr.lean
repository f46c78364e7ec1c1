/-
  flate: threeAt, lastOf, alike.
-/
import Derived.Test.YtohfpmlofjhigaaDoorDfl
import Derived.Deep.QuietTactic
import Derived.BigQuiet
namespace Go.Proofs.YtohfpmlofjhigaaDoor
open Go Go.RowKit Go.Extern.Stop Go.Stop Go.Extern Go.Maps Go.WideMaps

set_option maxRecDepth 8000 in
set_option maxHeartbeats 1000000 in
theorem threeAt_any (db : Nat) (t : ByteArray) (q : Nat) (w : World) (hq : q + 3 ≤ t.size) (hz : t.size ≤ 70368744177000) (c2 : w.cell? ⟨db, 2, none⟩ = some (.string t)) :
    Calls Tryd.prog 49 #[.pointer (some ⟨db, 0, none⟩), .int .i64 q] w fun e w' => e = .returned (triV (tri t.data.toList q)) ∧ Fr w.heap.size w w' := by
  have hdb : db < w.heap.size := World.block_lt_of_cell? _ _ c2
  have g0 := ch_get t q (by omega)
  have g1 := ch_get t (q + 1) (by omega)
  have g2 := ch_get t (q + 2) (by omega)
  have h0 : q < t.size := by omega
  have h1 : q + 1 < t.size := by omega
  have h2 : q + 2 < t.size := by omega
  have c2' := fun o => (World.cell?_alloc_lt w o ⟨db, 2, none⟩ hdb).trans c2
  have i1 : (q : Int) + 1 < (t.size : Int) := by omega
  have i2 : (q : Int) + 2 < (t.size : Int) := by omega
  have j2 : (0 : Int) ≤ (q : Int) + 2 := by omega
  have n2 : ((q : Int) + 2).toNat = q + 2 := by omega
  go_enter Tryd.func49, Tryd.ntmps49
  go_wp2
  go_region
  go_wp2
  simp [bodyPost, results, Tryd.results49, go_sem]
  exact ⟨rfl, (Fr.alloc _ _ (Nat.le_refl _)).trans (Fr.drew _ _)⟩

theorem LastAt.look {w : World} {mb : Nat} {s : List UInt8} {m : Nat} (h : LastAt w mb s m) {k : Nat × Nat × Nat} (hk : triOk k) :
    ∃ c : Int, (Instr.lookup 37 (.map (some mb)) (triV k) true).run Tryd.prog w = .ok (.tuple #[.int .i64 c, .bool (prev s m k).isSome]) w ∧ ∀ q, prev s m k = some q → c = q := by
  obtain ⟨D, hown, hD, hall⟩ := h
  obtain ⟨hhas, hat⟩ := hall k hk
  obtain ⟨v, ps, hrun, hv⟩ := hown.look_ok Tryd.triLaw Tryd.underlying37 (Tryd.zeroInt w) (plainElem_int Tryd.underlying3 (by decide)) (keyTri hk)
  obtain ⟨c, rfl, hc, _⟩ := plainElem_int_inv Tryd.underlying3 hv
  rw [hhas] at hrun
  refine ⟨c, hrun, fun q hq => ?_⟩
  have := hat q hq
  simp only [Prod.mk.injEq] at hc
  rw [this] at hc
  have := hc.1
  simp at this
  exact this.symm

set_option maxRecDepth 8000 in
set_option maxHeartbeats 1000000 in
theorem lastOf_any (db mb : Nat) (s : List UInt8) (m : Nat) (k : Nat × Nat × Nat) (w : World) (hk : triOk k) (c3 : w.cell? ⟨db, 3, none⟩ = some (.map (some mb))) (hl : LastAt w mb s m) (hmb : mb < w.heap.size) :
    Calls Tryd.prog 48 #[.pointer (some ⟨db, 0, none⟩), triV k] w fun e w' => e = .returned (.int .i64 (prevI s m k)) ∧ Fr w.heap.size w w' := by
  have hdb : db < w.heap.size := World.block_lt_of_cell? _ _ c3
  have c3' := fun o => (World.cell?_alloc_lt w o ⟨db, 3, none⟩ hdb).trans c3
  obtain ⟨a, b, c⟩ := k
  have hl' : ∀ o, LastAt (w.alloc o).drew mb s m := fun o => hl.carry (Below.heap_alloc w o mb hmb)
  obtain ⟨x, hrun, hx⟩ := (hl' (.cells #[.int .u8 (a : Int), .int .u8 (b : Int), .int .u8 (c : Int)] 109)).look hk
  unfold triV at hrun ⊢
  clear hl hl' c3
  cases hp : prev s m (a, b, c) with
  | none =>
    have HI : Hid (prevI s m (a, b, c) = -1) := by show _ = _; unfold prevI; rw [hp]
    rw [hp] at hrun
    simp only [Option.isSome_none] at hrun hx
    clear hp hx
    go_enter Tryd.func48, Tryd.ntmps48
    go_wp2
    go_region
    go_wp2
    go_ret
    exact ⟨by rw [HI.out]; rfl, (Fr.alloc _ _ (Nat.le_refl _)).trans (Fr.drew _ _)⟩
  | some q =>
    have HI : Hid (prevI s m (a, b, c) = q) := by show _ = _; unfold prevI; rw [hp]
    have hxq := hx q hp
    subst hxq
    rw [hp] at hrun
    simp only [Option.isSome_some] at hrun
    clear hp hx
    go_enter Tryd.func48, Tryd.ntmps48
    go_wp2
    go_region
    go_wp2
    go_ret
    exact ⟨by rw [HI.out]; rfl, (Fr.alloc _ _ (Nat.le_refl _)).trans (Fr.drew _ _)⟩
end Go.Proofs.YtohfpmlofjhigaaDoor
