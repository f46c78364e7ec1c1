/-
  flate: bitWriter.
-/
import Derived.Test.YtohfpmlofjhigaaDoorByt
import Derived.Test.YtohfpmlofjhigaaDoorToks
import Derived.LoopTactic
import Derived.WalkSmall
import Derived.RegionTactic
import Derived.BigRegion
import Derived.Deep.RegionWith
import Derived.Laws.BitsAllLaws
namespace Go.Proofs.YtohfpmlofjhigaaDoor
open Go Go.RowKit Go.Extern.Stop Go.Stop Go.Extern

/-- A writer's block: its bytes say B. -/
structure Wr (w : World) (db : Nat) (B : List Bool) : Prop where
  ex : ∃ v, w.cell? ⟨db, 0, none⟩ = some v ∧ Bytes w v (pack B) ∧ blk v ≠ some db
  c1 : w.cell? ⟨db, 1, none⟩ = some (.int .i64 B.length)
  f0 : w.frozen? ⟨db, 0, none⟩ = false
  f1 : w.frozen? ⟨db, 1, none⟩ = false

theorem wholeBytes_any (n : Nat) (w : World) (h : n ≤ 70368744177664) :
    Calls Tryd.prog 18 #[.int .i64 n] w fun e w' => e = .returned (.int .i64 ((n + 7) / 8 : Nat)) ∧ w' = w := by
  go_enter Tryd.func18, Tryd.ntmps18
  go_wp2
  go_ret
  exact ⟨by go_num, rfl⟩

theorem Row.some {w : World} {size : Nat} {v : Value} {N : Nat} {cs : List Value} (h : Row w size v N cs) (hN : 0 < N) : ∃ g c, v = .slice (some ⟨g, 0, none⟩) N c ∧ RowAt w size g c N cs := by
  rcases h with ⟨_, rfl, _⟩ | h
  · omega
  · exact h


/-- What bit leaves: cell 1 is stored last. -/
theorem Wr.bit {w W : World} {db g c m : Nat} {B B' : List Bool} (hgd : g ≠ db) (hk : Kp db 0 w W) (k0 : W.cell? ⟨db, 0, none⟩ = some (.slice (some ⟨g, 0, none⟩) (m + 1) c)) (k1 : W.cell? ⟨db, 1, none⟩ = some (.int .i64 B.length)) (kz : W.frozen? ⟨db, 0, none⟩ = false) (kf : W.frozen? ⟨db, 1, none⟩ = false) (hr : RowAt W 1 g c (m + 1) (cellsOf (pack B'))) (hl : B'.length = B.length + 1) : Wr (W.setCell ⟨db, 1, none⟩ (.int .i64 ((B.length : Int) + 1))) db B' ∧ Kp db 0 w (W.setCell ⟨db, 1, none⟩ (.int .i64 ((B.length : Int) + 1))) := by
  have hm : (pack B').length = m + 1 := by have := hr.len; simp [cellsOf] at this; simpa using this
  refine ⟨⟨⟨_, (World.cell?_setCell_other _ _ _ _ (by simp)).trans k0, ?_, fun e => hgd (by simpa [blk] using e)⟩, ?_, by rw [World.frozen?_setCell]; exact kz, by rw [World.frozen?_setCell]; exact kf⟩, hk.trans (Kp.set1 _ _ _ _ (by decide))⟩
  · show Row _ 1 _ (pack B').length _
    rw [hm]
    exact Row.carry (.inr ⟨g, c, rfl, hr⟩) (fun i hi => by
      obtain rfl : g = i := by simpa [blk] using hi
      exact Below.heap_setCell W ⟨db, 1, none⟩ _ g hgd)
  · rw [World.cell?_setCell_same _ _ _ k1, hl]
    push_cast
    rfl
theorem or_low (a k : Nat) (b : Bool) (ha : a < 2 ^ k) (hk : k < 8) : Go.bits .or .u8 (a : Int) (((b.toNat * 2 ^ k : Nat) : Int) % 256) = ((a + b.toNat * 2 ^ k : Nat) : Int) := by
  have hp : 2 ^ k ≤ 128 := Nat.le_trans (Nat.pow_le_pow_right (by omega) (show k ≤ 7 by omega)) (by decide)
  have hb : b.toNat * 2 ^ k ≤ 128 := by cases b <;> simp <;> omega
  have e : ((b.toNat * 2 ^ k : Nat) : Int) % 256 = ((b.toNat * 2 ^ k : Nat) : Int) := by omega
  rw [e, u8_or_nat _ _ (by omega) (by omega)]
  have h := Nat.shiftLeft_add_eq_or_of_lt (i := k) (b := a) ha b.toNat
  rw [Nat.shiftLeft_eq] at h
  rw [Nat.or_comm, ← h, Nat.add_comm]
end Go.Proofs.YtohfpmlofjhigaaDoor
