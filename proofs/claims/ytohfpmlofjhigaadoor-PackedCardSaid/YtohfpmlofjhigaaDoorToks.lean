/-
  The fixed code's words, lengths and distances; a text told by tokens, and how many bits they take.
-/
import Derived.Test.YtohfpmlofjhigaaDoorBits
namespace Go.Proofs.YtohfpmlofjhigaaDoor
open Go

/-- The fixed code's word for a value, and its bits. -/
def fixW (v : Nat) : Nat × Nat := if v < 144 then (48 + v, 8) else if v < 256 then (400 + v - 144, 9) else if v < 280 then (v - 256, 7) else (192 + v - 280, 8)
def valB (v : Nat) : List Bool := highB (fixW v).1 (fixW v).2
/-- A code's word is read: how far it is behind the first of as many bits, where that one stands. -/
def wrd (many : Nat → Nat) : Nat → Nat → Nat → List Bool → Option Nat
  | _, _, _, [] => none
  | k, behind, place, b :: l => if 2 * behind + b.toNat < many (k + 1) then (if l = [] then some (place + (2 * behind + b.toNat)) else none) else wrd many (k + 1) (2 * behind + b.toNat - many (k + 1)) (place + many (k + 1)) l
def fixMany (k : Nat) : Nat := if k = 7 then 24 else if k = 8 then 152 else if k = 9 then 112 else 0
def fixVal (j : Nat) : Nat := if j < 24 then 256 + j else if j < 168 then j - 24 else if j < 176 then j - 168 + 280 else j - 176 + 144
def disMany (k : Nat) : Nat := if k = 5 then 32 else 0
theorem fix_read_all : (List.range 288).all (fun v => match wrd fixMany 0 0 0 (valB v) with | some j => decide (j < 288) && fixVal j == v | none => false) = true := by kernel_rfl
theorem fix_read (v : Nat) (h : v < 288) : ∃ j, j < 288 ∧ wrd fixMany 0 0 0 (valB v) = some j ∧ fixVal j = v := by
  have := List.all_eq_true.1 fix_read_all v (List.mem_range.2 h)
  revert this
  cases hw : wrd fixMany 0 0 0 (valB v) with
  | none => simp
  | some j =>
    intro h2
    simp at h2
    exact ⟨j, h2.1, rfl, h2.2⟩
theorem dis_read_all : (List.range 32).all (fun v => wrd disMany 0 0 0 (highB v 5) == some v) = true := by kernel_rfl
theorem dis_read (v : Nat) (h : v < 32) : wrd disMany 0 0 0 (highB v 5) = some v := by
  have := List.all_eq_true.1 dis_read_all v (List.mem_range.2 h)
  simpa using this
theorem fixW_bits (v : Nat) : (fixW v).2 ≤ 9 ∧ 7 ≤ (fixW v).2 := by unfold fixW; split <;> (try split) <;> (try split) <;> simp

/-- The first of each span of lengths, and the bits behind its word; of distances. -/
def lenF : List (Nat × Nat) := [(3, 0), (4, 0), (5, 0), (6, 0), (7, 0), (8, 0), (9, 0), (10, 0), (11, 1), (13, 1), (15, 1), (17, 1), (19, 2), (23, 2), (27, 2), (31, 2), (35, 3), (43, 3), (51, 3), (59, 3), (67, 4), (83, 4), (99, 4), (115, 4), (131, 5), (163, 5), (195, 5), (227, 5), (258, 0)]
def disF : List (Nat × Nat) := [(1, 0), (2, 0), (3, 0), (4, 0), (5, 1), (7, 1), (9, 2), (13, 2), (17, 3), (25, 3), (33, 4), (49, 4), (65, 5), (97, 5), (129, 6), (193, 6), (257, 7), (385, 7), (513, 8), (769, 8), (1025, 9), (1537, 9), (2049, 10), (3073, 10), (4097, 11), (6145, 11), (8193, 12), (12289, 12), (16385, 13), (24577, 13)]
def spF (l : List (Nat × Nat)) (p : Nat) : Nat := (l.getD p (0, 0)).1
def spB (l : List (Nat × Nat)) (p : Nat) : Nat := (l.getD p (0, 0)).2
/-- The last place, from p down, whose first is not above x. -/
def down (l : List (Nat × Nat)) (x : Nat) : Nat → Nat
  | 0 => 0
  | p + 1 => if x < spF l (p + 1) then down l x p else p + 1
theorem down_le (l : List (Nat × Nat)) (x p : Nat) : down l x p ≤ p := by
  induction p with
  | zero => exact Nat.le_refl _
  | succ p ih => unfold down; split <;> omega
theorem down_first (l : List (Nat × Nat)) (x p : Nat) (h : spF l 0 ≤ x) : spF l (down l x p) ≤ x := by
  induction p with
  | zero => exact h
  | succ p ih => unfold down; split <;> omega
theorem down_next (l : List (Nat × Nat)) (x p : Nat) : down l x p = p ∨ x < spF l (down l x p + 1) := by
  induction p with
  | zero => exact .inl rfl
  | succ p ih =>
    unfold down
    split
    · rename_i hlt
      rcases ih with e | h
      · exact .inr (by rw [e]; exact hlt)
      · exact .inr h
    · exact .inl rfl
def lenP (x : Nat) : Nat := down lenF x 28
def disP (x : Nat) : Nat := down disF x 29
theorem len_steps : (List.range 28).all (fun p => decide (spF lenF (p + 1) ≤ spF lenF p + 2 ^ spB lenF p)) = true := by kernel_rfl
theorem dis_steps : (List.range 29).all (fun p => decide (spF disF (p + 1) ≤ spF disF p + 2 ^ spB disF p)) = true := by kernel_rfl
theorem lenP_lt (x : Nat) : lenP x < 29 := Nat.lt_succ_of_le (down_le _ _ _)
theorem disP_lt (x : Nat) : disP x < 30 := Nat.lt_succ_of_le (down_le _ _ _)
theorem lenP_first (x : Nat) (h : 3 ≤ x) : spF lenF (lenP x) ≤ x := down_first _ _ _ h
theorem disP_first (x : Nat) (h : 1 ≤ x) : spF disF (disP x) ≤ x := down_first _ _ _ h
theorem lenP_rest (x : Nat) (h : 3 ≤ x) (h2 : x ≤ 258) : x - spF lenF (lenP x) < 2 ^ spB lenF (lenP x) := by
  have h1 := lenP_first x h
  rcases down_next lenF x 28 with e | hn
  · have e' : lenP x = 28 := e
    rw [e'] at h1 ⊢
    have e1 : spF lenF 28 = 258 := rfl
    have e2 : spB lenF 28 = 0 := rfl
    rw [e1] at h1 ⊢
    rw [e2]
    omega
  · by_cases e : lenP x = 28
    · rw [e] at h1 ⊢
      have e1 : spF lenF 28 = 258 := rfl
      have e2 : spB lenF 28 = 0 := rfl
      rw [e1] at h1 ⊢
      rw [e2]
      omega
    · have := List.all_eq_true.1 len_steps (lenP x) (List.mem_range.2 (by have := lenP_lt x; omega))
      have h3 : spF lenF (lenP x + 1) ≤ spF lenF (lenP x) + 2 ^ spB lenF (lenP x) := of_decide_eq_true this
      have hn' : x < spF lenF (lenP x + 1) := hn
      omega
theorem disP_rest (x : Nat) (h : 1 ≤ x) (h2 : x ≤ 32768) : x - spF disF (disP x) < 2 ^ spB disF (disP x) := by
  have h1 := disP_first x h
  by_cases e : disP x = 29
  · rw [e] at h1 ⊢
    have e1 : spF disF 29 = 24577 := rfl
    have e2 : spB disF 29 = 13 := rfl
    rw [e1] at h1 ⊢
    rw [e2]
    omega
  · rcases down_next disF x 29 with e' | hn
    · exact absurd e' e
    · have := List.all_eq_true.1 dis_steps (disP x) (List.mem_range.2 (by have := disP_lt x; omega))
      have h3 : spF disF (disP x + 1) ≤ spF disF (disP x) + 2 ^ spB disF (disP x) := of_decide_eq_true this
      have hn' : x < spF disF (disP x + 1) := hn
      omega
theorem len_bits : (List.range 29).all (fun p => decide (spB lenF p ≤ 5)) = true := by kernel_rfl
theorem dis_bits : (List.range 30).all (fun p => decide (spB disF p ≤ 13)) = true := by kernel_rfl
theorem lenP_bits (x : Nat) : spB lenF (lenP x) ≤ 5 := of_decide_eq_true (List.all_eq_true.1 len_bits _ (List.mem_range.2 (lenP_lt x)))
theorem disP_bits (x : Nat) : spB disF (disP x) ≤ 13 := of_decide_eq_true (List.all_eq_true.1 dis_bits _ (List.mem_range.2 (disP_lt x)))
theorem disP_near_all : (List.range 65).all (fun x => decide (spB disF (disP x) ≤ 4)) = true := by kernel_rfl
theorem disP_near (x : Nat) (h : x ≤ 64) : spB disF (disP x) ≤ 4 := of_decide_eq_true (List.all_eq_true.1 disP_near_all x (List.mem_range.2 (by omega)))
theorem lenP_258 : lenP 258 = 28 := by kernel_rfl

/-- A byte as it is, or so many that stood so far ahead. -/
inductive Tok where
  | lit (b : Nat)
  | rep (n d : Nat)
def Tok.len : Tok → Nat
  | .lit _ => 1
  | .rep n _ => n
def repB (n d : Nat) : List Bool := valB (257 + lenP n) ++ lowB (n - spF lenF (lenP n)) (spB lenF (lenP n)) ++ highB (disP d) 5 ++ lowB (d - spF disF (disP d)) (spB disF (disP d))
def Tok.bits : Tok → List Bool
  | .lit b => valB b
  | .rep n d => repB n d
def toksB (l : List Tok) : List Bool := l.flatMap Tok.bits
theorem toksB_cons (k : Tok) (l : List Tok) : toksB (k :: l) = k.bits ++ toksB l := rfl
theorem toksB_append (a b : List Tok) : toksB (a ++ b) = toksB a ++ toksB b := by simp [toksB]

/-- Byte i of a text. -/
def ch (s : List UInt8) (i : Nat) : Nat := (s.getD i 0).toNat
/-- A token tells what stands at 'at': and no shorter a one than what stood p ahead, where that is the same up to the end. -/
structure TokAt (s : List UInt8) (to at' : Nat) (k : Tok) : Prop where
  fits : at' + k.len ≤ to
  lit : ∀ b, k = .lit b → ch s at' = b
  rep : ∀ n d, k = .rep n d → 3 ≤ n ∧ n ≤ 258 ∧ 1 ≤ d ∧ d ≤ 32768 ∧ d ≤ at' ∧ ∀ j, j < n → ch s (at' + j) = ch s (at' + j - d)
  best : ∀ p, 1 ≤ p → p ≤ 64 → p ≤ at' → 3 ≤ min (to - at') 258 → (∀ j, j < min (to - at') 258 → ch s (at' + j) = ch s (at' + j - p)) → ∃ d, d ≤ p ∧ k = .rep (min (to - at') 258) d
/-- Tokens tell a text from 'at' up to 'to'. -/
inductive Toks (s : List UInt8) (to : Nat) : Nat → List Tok → Prop
  | nil : Toks s to to []
  | cons {at' : Nat} {k : Tok} {l : List Tok} : TokAt s to at' k → Toks s to (at' + k.len) l → Toks s to at' (k :: l)

theorem lit_bits (b : Nat) : (Tok.lit b).bits.length ≤ 9 := by
  show (valB b).length ≤ 9
  unfold valB
  rw [highB_length]
  exact (fixW_bits b).1
theorem fixW_len_all : (List.range 29).all (fun p => decide ((fixW (257 + p)).2 ≤ 8)) = true := by kernel_rfl
theorem rep_bits (n d : Nat) (hd : d ≤ 64) : (Tok.rep n d).bits.length ≤ 22 := by
  show (repB n d).length ≤ 22
  unfold repB valB
  simp only [List.length_append, highB_length, lowB_length]
  have h1 := lenP_bits n
  have h2 := disP_near d hd
  have h3 : (fixW (257 + lenP n)).2 ≤ 8 := of_decide_eq_true (List.all_eq_true.1 fixW_len_all _ (List.mem_range.2 (lenP_lt n)))
  omega
theorem rep_bits258 (d : Nat) (hd : d ≤ 64) : (Tok.rep 258 d).bits.length ≤ 17 := by
  show (repB 258 d).length ≤ 17
  unfold repB valB
  simp only [List.length_append, highB_length, lowB_length]
  have h2 := disP_near d hd
  rw [lenP_258]
  have e : spB lenF 28 = 0 := rfl
  have e2 : (fixW (257 + 28)).2 = 8 := by kernel_rfl
  omega
theorem Toks.len {s : List UInt8} {to at' : Nat} {l : List Tok} (h : Toks s to at' l) : at' ≤ to := by
  induction h with
  | nil => exact Nat.le_refl _
  | cons hk _ ih => omega
/-- Where the text says the same p bytes again and again from its begin on: behind the first p of them. -/
theorem toks_late {s : List UInt8} {to at' p : Nat} {l : List Tok} (h : Toks s to at' l) (hp : 1 ≤ p) (hp2 : p ≤ 64) (hper : ∀ j, p ≤ j → j < to → ch s j = ch s (j - p)) (ha : p ≤ at') : 258 * (toksB l).length ≤ 17 * (to - at') + 258 * 22 := by
  induction h with
  | nil => simp [toksB]
  | @cons at' k l hk hl ih =>
    have hlen := hl.len
    have hih := ih (by omega)
    rw [toksB_cons, List.length_append]
    by_cases h3 : 3 ≤ min (to - at') 258
    · obtain ⟨d, hd, rfl⟩ := hk.best p hp hp2 ha h3 (fun j hj => hper (at' + j) (by omega) (by omega))
      by_cases hb : 258 ≤ to - at'
      · have e : min (to - at') 258 = 258 := by omega
        rw [e] at hih hlen ⊢
        have h1 := rep_bits258 d (by omega)
        simp only [Tok.len] at hih hlen
        omega
      · have e : min (to - at') 258 = to - at' := by omega
        rw [e] at hih hlen hl ⊢
        have h1 := rep_bits (to - at') d (by omega)
        simp only [Tok.len] at hih hlen hl
        have h0 : l = [] := by
          generalize hx : at' + (to - at') = x at hl
          cases hl with
          | nil => rfl
          | cons hk2 hl2 =>
            rename_i k2 l2
            have hf := hk2.fits
            cases k2 with
            | lit b => simp [Tok.len] at hf; omega
            | rep n d => have := (hk2.rep n d rfl).1; simp [Tok.len] at hf; omega
        subst h0
        simp [toksB]
        omega
    · have hs : to - at' ≤ 2 := by omega
      have hcost : ∀ {x : Nat} {l : List Tok}, Toks s to x l → to - x ≤ 2 → (toksB l).length ≤ 9 * (to - x) := by
        intro x l h
        induction h with
        | nil => intro _; simp [toksB]
        | @cons x k l hk hl ih =>
          intro hx
          rw [toksB_cons, List.length_append]
          have hlen := hl.len
          cases k with
          | lit b =>
            have := lit_bits b
            simp only [Tok.len] at ih hlen
            have := ih (by omega)
            omega
          | rep n d =>
            have := (hk.rep n d rfl).1
            have := hk.fits
            simp only [Tok.len] at this
            omega
      have := hcost (Toks.cons hk hl) hs
      rw [toksB_cons, List.length_append] at this
      omega
/-- .. from any place on. -/
theorem toks_early {s : List UInt8} {to at' p : Nat} {l : List Tok} (h : Toks s to at' l) (hp : 1 ≤ p) (hp2 : p ≤ 64) (hper : ∀ j, p ≤ j → j < to → ch s j = ch s (j - p)) : 258 * (toksB l).length ≤ 258 * (9 * (64 - at') + 44) + 17 * (to - at') := by
  induction h with
  | nil => simp [toksB]
  | @cons at' k l hk hl ih =>
    by_cases ha : p ≤ at'
    · have := toks_late (Toks.cons hk hl) hp hp2 hper ha
      omega
    · rw [toksB_cons, List.length_append]
      have hlen := hl.len
      cases k with
      | lit b =>
        have := lit_bits b
        simp only [Tok.len] at ih hlen
        omega
      | rep n d =>
        have hr := hk.rep n d rfl
        have := rep_bits n d (by omega)
        simp only [Tok.len] at ih hlen hl
        by_cases hb : p ≤ at' + n
        · have := toks_late hl hp hp2 hper hb
          omega
        · omega
/-- One block of such a text is short. -/
theorem toks_short {s : List UInt8} {to p : Nat} {l : List Tok} (h : Toks s to 0 l) (hp : 1 ≤ p) (hp2 : p ≤ 64) (hper : ∀ j, p ≤ j → j < to → ch s j = ch s (j - p)) : (3 + (toksB l).length + 7 + 7) / 8 ≤ to / 64 + 100 := by
  have := toks_early h hp hp2 hper
  omega
end Go.Proofs.YtohfpmlofjhigaaDoor
