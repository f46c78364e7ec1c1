/-
  flate: (*bitReader).word.
-/
import Derived.Test.YtohfpmlofjhigaaDoorRnu
namespace Go.Proofs.YtohfpmlofjhigaaDoor
open Go Go.RowKit Go.Extern.Stop Go.Stop Go.Extern

/-- A code as it lies in memory. -/
structure CodeAt (w : World) (cb vb N : Nat) (many vals : Nat → Nat) : Prop where
  many : ∀ k, k ≤ 15 → w.cell? ⟨cb, k, none⟩ = some (.int .i64 (many k))
  sl : w.cell? ⟨cb, 16, none⟩ = some (.slice (some ⟨vb, 0, none⟩) N N)
  vals : ∀ j, j < N → w.cell? ⟨vb, j, none⟩ = some (.int .i64 (vals j))
theorem CodeAt.carry {w w' : World} {cb vb N : Nat} {many vals : Nat → Nat} (h : CodeAt w cb vb N many vals) (e1 : w'.heap[cb]? = w.heap[cb]?) (e2 : w'.heap[vb]? = w.heap[vb]?) : CodeAt w' cb vb N many vals :=
  ⟨fun k hk => (World.cell?_of_block (a := ⟨cb, k, none⟩) e1).trans (h.many k hk), (World.cell?_of_block (a := ⟨cb, 16, none⟩) e1).trans h.sl, fun j hj => (World.cell?_of_block (a := ⟨vb, j, none⟩) e2).trans (h.vals j hj)⟩
theorem wrd_bound (c behind place m : Nat) (b : Bool) (hb : behind + 1 ≤ 2 ^ c) (hp : place ≤ c * 300) (hc : c < 15) (hm : m ≤ 300) : behind ≤ 40000 ∧ place ≤ 5000 ∧ m ≤ 300 ∧ 2 * behind + b.toNat + 1 ≤ 2 ^ (c + 1) ∧ 2 * behind + b.toNat - m + 1 ≤ 2 ^ (c + 1) ∧ place + m ≤ (c + 1) * 300 := by
  have h1 : 2 ^ c ≤ 2 ^ 15 := Nat.pow_le_pow_right (by omega) (by omega)
  have h2 : b.toNat ≤ 1 := by cases b <;> simp
  have h3 : 2 ^ (c + 1) = 2 * 2 ^ c := by rw [Nat.pow_succ]; omega
  have h4 : (2 : Nat) ^ 15 = 32768 := by decide
  refine ⟨by omega, by omega, hm, by omega, by omega, by omega⟩
theorem wrd_cons {many : Nat → Nat} {c behind place j : Nat} {b : Bool} {r : List Bool} (h : wrd many c behind place (b :: r) = some j) : (2 * behind + b.toNat < many (c + 1) ∧ r = [] ∧ j = place + (2 * behind + b.toNat)) ∨ (¬ 2 * behind + b.toNat < many (c + 1) ∧ wrd many (c + 1) (2 * behind + b.toNat - many (c + 1)) (place + many (c + 1)) r = some j) := by
  rw [wrd] at h
  split at h
  · rename_i h1
    split at h
    · rename_i h2
      cases h
      exact .inl ⟨h1, h2, rfl⟩
    · cases h
  · rename_i h1
    exact .inr ⟨h1, h⟩
theorem drop_cons {l : List Bool} {c : Nat} {b : Bool} {r : List Bool} (h : l.drop c = b :: r) : c < l.length ∧ l.drop (c + 1) = r ∧ l[c]? = some b := by
  have h1 : c < l.length := by
    rcases Nat.lt_or_ge c l.length with h1 | h1
    · exact h1
    · rw [List.drop_eq_nil_of_le h1] at h; cases h
  rw [List.drop_eq_getElem_cons h1] at h
  injection h with h2 h3
  exact ⟨h1, h3, by rw [List.getElem?_eq_getElem h1, h2]⟩
/-- A round of word. -/
structure WdI (many : Nat → Nat) (l : List Bool) (j rb : Nat) (p : ByteArray) (i : Nat) (w wr : World) (c behind place : Nat) : Prop where
  rest : wrd many c behind place (l.drop c) = some j
  hb : behind + 1 ≤ 2 ^ c
  hp : place ≤ c * 300
  rd : Rd wr rb p (i + c)
  kr : Kr rb w wr

set_option maxRecDepth 8000 in
set_option maxHeartbeats 1000000 in
theorem rword_any (rb cb vb N : Nat) (many vals : Nat → Nat) (p : ByteArray) (i j : Nat) (l : List Bool) (cap : Value) (w : World) (hrb : 32 ≤ rb) (hl : l.length ≤ 15) (hwrd : wrd many 0 0 0 l = some j) (hj : j < N) (hm : ∀ k, many k ≤ 300) (hcb : cb ≠ rb) (hvb : vb ≠ rb) (hC : CodeAt w cb vb N many vals) (hE : FErr w cap) (hR : Rd w rb p i) (hS : Says p.data.toList i l) (hz : p.size ≤ 70368744177000) :
    Calls Tryd.prog 58 #[.pointer (some ⟨rb, 0, none⟩), .pointer (some ⟨cb, 0, none⟩)] w fun e w' => e = .returned (.int .i64 (vals j)) ∧ Rd w' rb p (i + l.length) ∧ Kr rb w w' := by
  have HZ : Hid (p.size ≤ 70368744177000) := hz
  have HS : Hid (Says p.data.toList i l) := hS
  have HE : Hid (∀ w', Kr rb w w' → FErr w' cap) := fun w' k => hE.kr hrb k
  have HC : Hid (∀ w', Kr rb w w' → CodeAt w' cb vb N many vals) := fun w' k => hC.carry (k.old cb (World.block_lt_of_cell? _ _ hC.sl) hcb) (k.old vb (World.block_lt_of_cell? _ _ (hC.vals j hj)) hvb)
  have HM : Hid (∀ k, many k ≤ 300) := hm
  have HJ : Hid (j < N) := hj
  have HL : Hid (l.length ≤ 15) := hl
  have hpd : p.data.toList.length = p.size := by simp
  have HLE : Hid (i + l.length ≤ 8 * p.size) := by have := hS.le; rw [hpd] at this; exact this
  have HI : Hid (WdI many l j rb p i w w 0 0 0) := ⟨by simpa using hwrd, by simp, by simp, hR, Kr.refl _ _⟩
  clear hS hE hz hrb hpd hC hm hj hl hcb hvb hwrd hR
  go_enter Tryd.func58, Tryd.ntmps58
  go_wp2
  go_loopw [5, 6, 9] (fun bh pl cnt wr => ∃ (c behind place : Nat), c ≤ 15 ∧ cnt = .int .i64 c ∧ bh = .int .i64 behind ∧ pl = .int .i64 place ∧ WdI many l j rb p i w wr c behind place) (fun _ _ cnt _ => 15 - (intOf cnt).toNat)
  case atStart => exact ⟨0, 0, 0, by omega, rfl, rfl, rfl, HI.out⟩
  case round =>
    obtain ⟨c, behind, place, hc15, rfl, rfl, rfl, hI⟩ := hrel
    clear HI
    obtain ⟨b, r, hd⟩ : ∃ b r, l.drop c = b :: r := by
      cases hd : l.drop c with
      | nil => have := hI.rest; rw [hd] at this; cases this
      | cons b r => exact ⟨b, r, rfl⟩
    obtain ⟨hcl, hdr, hlb⟩ := drop_cons hd
    have hw := hI.rest
    rw [hd] at hw
    have hc14 : c < 15 := Nat.lt_of_lt_of_le hcl HL.out
    have hcell := (HC.out wr hI.kr).many (c + 1) hc14
    have hbit := rbit_any rb p (i + c) cap wr (HE.out wr hI.kr) hI.rd (bit_in hcl HLE.out) HZ.out
    have hsay := HS.out.eq c hcl
    have hlb' : l[c] = b := by rw [List.getElem?_eq_getElem hcl] at hlb; exact Option.some.inj hlb
    rw [hsay, hlb'] at hbit
    obtain ⟨x1, x2, x3, x4, x5, x6⟩ := wrd_bound c behind place (many (c + 1)) b hI.hb hI.hp hc14 (HM.out _)
    have hb1 : b.toNat ≤ 1 := by cases b <;> simp
    rcases wrd_cons hw with ⟨y1, y2, y3⟩ | ⟨y1, y2⟩
    · have HFIN : Hid (c + 1 = l.length) := by
        have : (l.drop (c + 1)).length = 0 := by rw [hdr, y2]; rfl
        rw [List.length_drop] at this
        show c + 1 = l.length
        omega
      have HKR : Hid (Kr rb w wr) := hI.kr
      have HC2 : Hid (∀ w', Kr rb w w' → w'.cell? ⟨cb, 16, none⟩ = some (.slice (some ⟨vb, 0, none⟩) N N) ∧ w'.cell? ⟨vb, place + (2 * behind + b.toNat), none⟩ = some (.int .i64 (vals j))) := fun w' k => ⟨(HC.out w' k).sl, by rw [← y3]; exact (HC.out w' k).vals j HJ.out⟩
      have hjn : place + (2 * behind + b.toNat) < N := by rw [← y3]; exact HJ.out
      clear x4 x5 x6 hsay hlb' hlb hdr hd hw hI y3
      generalize many (c + 1) = m at *
      generalize b.toNat = bn at *
      go_wp2_with (go_at_call 37; refine hbit.mono ?_; rintro e w1 ⟨rfl, hrd1, hk1⟩; obtain ⟨z1, z2⟩ := HC2.out w1 (HKR.out.trans hk1))
      go_ret
      refine ⟨rfl, ?_, HKR.out.trans hk1⟩
      rw [← HFIN.out]
      exact hrd1
    · have HNX : Hid (∀ wr', Kr rb wr wr' → Rd wr' rb p (i + c + 1) → WdI many l j rb p i w wr' (c + 1) (2 * behind + b.toNat - many (c + 1)) (place + many (c + 1))) := fun wr' k hr => ⟨by rw [hdr]; exact y2, x5, x6, hr, hI.kr.trans k⟩
      clear x4 x5 x6 hsay hlb' hlb hdr hd hw hI y2
      generalize hmm : many (c + 1) = m at *
      generalize b.toNat = bn at *
      go_wp2_with (go_at_call 37; refine hbit.mono ?_; rintro e w1 ⟨rfl, hrd1, hk1⟩)
      refine ⟨⟨c + 1, _, _, hc14, by go_num, ?_, ?_, HNX.out w1 hk1 hrd1⟩, by simp only [intOf]; omega⟩
      · congr 1; omega
      · congr 1
end Go.Proofs.YtohfpmlofjhigaaDoor
