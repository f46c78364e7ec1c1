/-
  Where three bytes stood before; the longest of the nearest places.
-/
import Derived.Test.YtohfpmlofjhigaaDoorToks
namespace Go.Proofs.YtohfpmlofjhigaaDoor
open Go

/-- Three bytes. -/
def tri (s : List UInt8) (q : Nat) : Nat × Nat × Nat := (ch s q, ch s (q + 1), ch s (q + 2))
/-- The last place ahead of m where they stand. -/
def prev (s : List UInt8) : Nat → Nat × Nat × Nat → Option Nat
  | 0, _ => none
  | q + 1, k => if tri s q = k then some q else prev s q k
/-- .. as the program has it. -/
def prevI (s : List UInt8) (m : Nat) (k : Nat × Nat × Nat) : Int := match prev s m k with | some q => (q : Int) | none => -1
theorem prev_lt {s : List UInt8} {m : Nat} {k : Nat × Nat × Nat} {q : Nat} (h : prev s m k = some q) : q < m ∧ tri s q = k ∧ ∀ r, q < r → r < m → tri s r ≠ k := by
  induction m with
  | zero => cases h
  | succ m ih =>
    unfold prev at h
    split at h
    · rename_i hm
      cases h
      exact ⟨by omega, hm, fun r h1 h2 => by omega⟩
    · rename_i hm
      obtain ⟨h1, h2, h3⟩ := ih h
      refine ⟨by omega, h2, fun r h4 h5 => ?_⟩
      by_cases e : r = m
      · subst e; exact hm
      · exact h3 r h4 (by omega)
theorem prev_none {s : List UInt8} {m : Nat} {k : Nat × Nat × Nat} (h : prev s m k = none) : ∀ r, r < m → tri s r ≠ k := by
  induction m with
  | zero => intro r hr; omega
  | succ m ih =>
    unfold prev at h
    split at h
    · cases h
    · rename_i hm
      intro r hr
      by_cases e : r = m
      · subst e; exact hm
      · exact ih h r (by omega)

/-- The bytes from at on stood p ahead. -/
def Was (s : List UInt8) (at' most p : Nat) : Prop := ∀ j, j < most → ch s (at' + j) = ch s (at' + j - p)
/-- Of the k places from x on that were tried the longest is known. -/
structure Lg (s : List UInt8) (at' most x k len dist : Nat) : Prop where
  hx : x ≤ at'
  cnt : k ≤ at' - x
  val : (len = 0 ∧ dist = 0) ∨ (3 ≤ len ∧ len ≤ most ∧ 1 ≤ dist ∧ dist ≤ 32768 ∧ dist ≤ at' - x ∧ Was s at' len dist)
  tried : ∀ p, 1 ≤ p → p ≤ at' - x → Was s at' most p → len = most ∧ dist ≤ p
theorem Lg.start (s : List UInt8) (at' most : Nat) : Lg s at' most at' 0 0 0 := ⟨Nat.le_refl _, Nat.zero_le _, .inl ⟨rfl, rfl⟩, fun p h1 h2 => by omega⟩
theorem Was.tri {s : List UInt8} {at' most p : Nat} (h : Was s at' most p) (hm : 3 ≤ most) (hp : p ≤ at') : tri s (at' - p) = tri s at' := by
  unfold Go.Proofs.YtohfpmlofjhigaaDoor.tri
  have h0 := h 0 (by omega)
  have h1 := h 1 (by omega)
  have h2 := h 2 (by omega)
  rw [Nat.add_zero] at h0
  rw [show at' + 1 - p = at' - p + 1 by omega] at h1
  rw [show at' + 2 - p = at' - p + 2 by omega] at h2
  rw [h0, h1, h2]
/-- A place more is tried: n bytes are the same there. -/
theorem Lg.step {s : List UInt8} {at' most x k len dist q n : Nat} (h : Lg s at' most x k len dist) (hm : 3 ≤ most) (hq : prev s x (tri s at') = some q) (hfar : at' - q ≤ 32768) (hne : len ≠ most) (hn : n ≤ most) (hsame : ∀ j, j < n → ch s (q + j) = ch s (at' + j)) (hend : n < most → ch s (q + n) ≠ ch s (at' + n)) :
    Lg s at' most q (k + 1) (if len < n then n else len) (if len < n then at' - q else dist) := by
  obtain ⟨h1, h2, h3⟩ := prev_lt hq
  have hx := h.hx
  have hcnt := h.cnt
  have ht : ch s q = ch s at' ∧ ch s (q + 1) = ch s (at' + 1) ∧ ch s (q + 2) = ch s (at' + 2) := by
    unfold Go.Proofs.YtohfpmlofjhigaaDoor.tri at h2
    simpa using h2
  have hn3 : 3 ≤ n := by
    rcases Nat.lt_or_ge n 3 with hlt | hge
    · exfalso
      have he := hend (by omega)
      match n, hlt, he with
      | 0, _, he => exact he ht.1
      | 1, _, he => exact he ht.2.1
      | 2, _, he => exact he ht.2.2
    · exact hge
  have hwas : Was s at' n (at' - q) := fun j hj => by rw [show at' + j - (at' - q) = q + j by omega, hsame j hj]
  have hnot : ∀ p, 1 ≤ p → p ≤ at' - x → ¬ Was s at' most p := fun p hp1 hp2 hw => hne (h.tried p hp1 hp2 hw).1
  refine ⟨by omega, by omega, ?_, fun p hp1 hp2 hw => ?_⟩
  · by_cases hl : len < n
    · rw [if_pos hl, if_pos hl]
      exact .inr ⟨hn3, hn, by omega, hfar, by omega, hwas⟩
    · rw [if_neg hl, if_neg hl]
      rcases h.val with ⟨e1, e2⟩ | ⟨a, b, c, d, e, f⟩
      · omega
      · exact .inr ⟨a, b, c, d, by omega, f⟩
  · have hp3 : ¬ p ≤ at' - x := fun hle => hnot p hp1 hle hw
    by_cases hpq : p = at' - q
    · subst hpq
      have hnm : n = most := by
        rcases Nat.lt_or_ge n most with hlt | hge
        · exfalso
          have := hw n hlt
          rw [show at' + n - (at' - q) = q + n by omega] at this
          exact hend hlt this.symm
        · omega
      have hl : len < n := by
        rcases h.val with ⟨e1, _⟩ | ⟨_, b, _⟩ <;> omega
      rw [if_pos hl, if_pos hl]
      exact ⟨hnm, Nat.le_refl _⟩
    · exact absurd (hw.tri hm (by omega)) (h3 (at' - p) (by omega) (by omega))
/-- What longest tells. -/
structure Best (s : List UInt8) (at' most len dist : Nat) : Prop where
  val : (len = 0 ∧ dist = 0) ∨ (3 ≤ len ∧ len ≤ most ∧ 1 ≤ dist ∧ dist ≤ 32768 ∧ dist ≤ at' ∧ Was s at' len dist)
  best : ∀ p, 1 ≤ p → p ≤ 64 → p ≤ at' → Was s at' most p → len = most ∧ dist ≤ p
theorem Lg.done {s : List UInt8} {at' most x k len dist : Nat} (h : Lg s at' most x k len dist) (hb : ∀ p, 1 ≤ p → p ≤ 64 → p ≤ at' → Was s at' most p → len = most ∧ dist ≤ p) : Best s at' most len dist := by
  refine ⟨?_, hb⟩
  rcases h.val with e | ⟨a, b, c, d, e, f⟩
  · exact .inl e
  · exact .inr ⟨a, b, c, d, by have := h.hx; omega, f⟩
theorem Lg.end64 {s : List UInt8} {at' most x len dist : Nat} (h : Lg s at' most x 64 len dist) : Best s at' most len dist :=
  h.done fun p h1 h2 _ hw => h.tried p h1 (by have := h.cnt; omega) hw
theorem Lg.endNone {s : List UInt8} {at' most x k len dist : Nat} (h : Lg s at' most x k len dist) (hm : 3 ≤ most) (hq : prev s x (tri s at') = none) : Best s at' most len dist :=
  h.done fun p h1 _ h3 hw => by
    by_cases hp : p ≤ at' - x
    · exact h.tried p h1 hp hw
    · exact absurd (hw.tri hm h3) (prev_none hq _ (by have := h.hx; omega))
theorem Lg.endFar {s : List UInt8} {at' most x k len dist q : Nat} (h : Lg s at' most x k len dist) (hm : 3 ≤ most) (hq : prev s x (tri s at') = some q) (hf : 32768 < at' - q) : Best s at' most len dist :=
  h.done fun p h1 h2 h3 hw => by
    by_cases hp : p ≤ at' - x
    · exact h.tried p h1 hp hw
    · obtain ⟨_, _, hr⟩ := prev_lt hq
      exact absurd (hw.tri hm h3) (hr (at' - p) (by omega) (by have := h.hx; omega))
theorem Lg.endMost {s : List UInt8} {at' most x k len dist : Nat} (h : Lg s at' most x k len dist) (hm : 3 ≤ most) (hl : len = most) : Best s at' most len dist :=
  h.done fun p h1 h2 _ hw => by
    by_cases hp : p ≤ at' - x
    · exact h.tried p h1 hp hw
    · refine ⟨hl, ?_⟩
      rcases h.val with ⟨e1, _⟩ | ⟨_, _, _, _, e, _⟩ <;> omega
end Go.Proofs.YtohfpmlofjhigaaDoor
