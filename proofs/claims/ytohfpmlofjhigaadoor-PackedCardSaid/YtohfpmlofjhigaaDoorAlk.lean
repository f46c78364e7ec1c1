/-
  flate: alike.
-/
import Derived.Test.YtohfpmlofjhigaaDoorDfl
import Derived.Deep.QuietTactic
import Derived.BigQuiet
namespace Go.Proofs.YtohfpmlofjhigaaDoor
open Go Go.RowKit Go.Extern.Stop Go.Stop Go.Extern Go.Maps Go.WideMaps

/-- How many bytes from two places on are the same: most at most. -/
structure Alike (s : List UInt8) (one other most n : Nat) : Prop where
  le : n ≤ most
  same : ∀ j, j < n → ch s (one + j) = ch s (other + j)
  ends : n < most → ch s (one + n) ≠ ch s (other + n)

/-- What the walk wants of an index. -/
theorem idx_facts (t : ByteArray) (a n : Nat) (h : a + n < t.size) (hz : t.size ≤ 70368744177000) :
    (a : Int) + (n : Int) < (t.size : Int) ∧ wrap64 ((a : Int) + (n : Int)) = (a : Int) + (n : Int) ∧ IntKind.i64.wrap ((a : Int) + (n : Int)) = (a : Int) + (n : Int) ∧ (0 : Int) ≤ (a : Int) + (n : Int) ∧ ((a : Int) + (n : Int)).toNat = a + n := by
  have w1 : wrap64 ((a : Int) + (n : Int)) = (a : Int) + (n : Int) := by unfold wrap64; omega
  exact ⟨by omega, w1, by rw [IntKind.wrap_i64]; unfold wrap64 at w1; exact w1, by omega, by omega⟩
theorem lt_facts {n m : Nat} (h : n < m) : decide ((n : Int) < (m : Int)) = true ∧ n + 1 ≤ m ∧ m - (n + 1) < m - n := ⟨by simp; omega, by omega, by omega⟩
theorem same_more {s : List UInt8} {a b n : Nat} (hs : ∀ j, j < n → ch s (a + j) = ch s (b + j)) (he : ch s (a + n) = ch s (b + n)) : ∀ j, j < n + 1 → ch s (a + j) = ch s (b + j) := by
  intro j hj
  by_cases e : j = n
  · subst e; exact he
  · exact hs j (by omega)
theorem at_most {a n m z : Nat} (h : n < m) (h2 : a + m ≤ z) : a + n < z := by omega

set_option maxRecDepth 8000 in
set_option maxHeartbeats 1000000 in
theorem alike_any (db : Nat) (t : ByteArray) (one other most : Nat) (w : World) (hm : most ≤ 258) (h1 : one + most ≤ t.size) (h2 : other + most ≤ t.size) (hz : t.size ≤ 70368744177000) (c2 : w.cell? ⟨db, 2, none⟩ = some (.string t)) :
    Calls Tryd.prog 50 #[.pointer (some ⟨db, 0, none⟩), .int .i64 one, .int .i64 other, .int .i64 most] w fun e w' => ∃ n, Alike t.data.toList one other most n ∧ e = .returned (.int .i64 n) ∧ Fr w.heap.size w w' := by
  have HZ : Hid (t.size ≤ 70368744177000) := hz
  have H1 : Hid (one + most ≤ t.size) := h1
  have H2 : Hid (other + most ≤ t.size) := h2
  clear hz h1 h2
  go_enter Tryd.func50, Tryd.ntmps50
  go_wp2
  go_loopw [9] (fun cnt wr => ∃ (n : Nat), n ≤ most ∧ cnt = .int .i64 n ∧ (∀ j, j < n → ch t.data.toList (one + j) = ch t.data.toList (other + j)) ∧ wr.cell? ⟨db, 2, none⟩ = some (.string t) ∧ Fr w.heap.size w wr) (fun cnt _ => most - (intOf cnt).toNat)
  case atStart => exact ⟨0, Nat.zero_le _, rfl, fun j hj => by omega, c2, Fr.refl _ _⟩
  case round =>
    obtain ⟨n, hn, rfl, hs, hc, hf⟩ := hrel
    by_cases hlt : n < most
    · have l1 := at_most hlt H1.out
      have l2 := at_most hlt H2.out
      have g1 := ch_get t (one + n) l1
      have g2 := ch_get t (other + n) l2
      obtain ⟨i1, w1, v1, p1, q1⟩ := idx_facts t one n l1 HZ.out
      obtain ⟨i2, w2, v2, p2, q2⟩ := idx_facts t other n l2 HZ.out
      obtain ⟨hlt', hle, hms⟩ := lt_facts hlt
      have HLT : Hid (n + 1 ≤ most) := hle
      have HMS : Hid (most - (n + 1) < most - n) := hms
      have HLE : Hid (n < most) := hlt
      have HSM : Hid (∀ j, j < n → ch t.data.toList (one + j) = ch t.data.toList (other + j)) := hs
      have HF : Hid (Fr w.heap.size w wr) := hf
      clear hle hms hn hs hf hlt'
      by_cases he : ch t.data.toList (one + n) = ch t.data.toList (other + n)
      · have HE : Hid (∀ j, j < n + 1 → ch t.data.toList (one + j) = ch t.data.toList (other + j)) := same_more HSM.out he
        rw [he] at g1
        clear he
        generalize ch t.data.toList (other + n) = x at g1 g2
        go_wp2
        go_quiet (fail)
        go_wp2
        go_roundw
        case rel => exact ⟨n + 1, HLT.out, by go_num, HE.out, by simpa using hc, HF.out.trans (Fr.drewN _ _ _)⟩
        case measure => simp only [intOf]; exact HMS.out
      · have hne : ((ch t.data.toList (one + n) : Int) == (ch t.data.toList (other + n) : Int)) = false := by
          simp only [beq_eq_false_iff_ne, ne_eq]
          intro e
          exact he (Int.ofNat.inj e)
        have HE : Hid (ch t.data.toList (one + n) ≠ ch t.data.toList (other + n)) := he
        clear he
        have HB : Hid (Alike t.data.toList one other most n) := ⟨Nat.le_of_lt hlt, HSM.out, fun _ => HE.out⟩
        clear HE
        generalize ch t.data.toList (other + n) = x at *
        generalize ch t.data.toList (one + n) = y at *
        go_wp2
        go_quiet (fail)
        go_wp2
        go_ret
        exact ⟨n, HB.out, rfl, HF.out.trans (Fr.drewN _ _ _)⟩
    · obtain rfl : n = most := by omega
      have hlt' : decide ((n : Int) < (n : Int)) = false := by simp
      have HSM : Hid (∀ j, j < n → ch t.data.toList (one + j) = ch t.data.toList (other + j)) := hs
      clear hs hlt
      go_wp2
      go_quiet (fail)
      go_wp2
      go_ret
      exact ⟨n, ⟨Nat.le_refl _, HSM.out, fun h => absurd h (Nat.lt_irrefl _)⟩, rfl, hf.trans (Fr.drewN _ _ _)⟩
end Go.Proofs.YtohfpmlofjhigaaDoor
