/-
  A text again and again.
-/
import Derived.Test.YtohfpmlofjhigaaDoorToks
namespace Go.Proofs.YtohfpmlofjhigaaDoor
open Go

/-- t, j times. -/
def rp (t : ByteArray) : Nat → ByteArray
  | 0 => ⟨#[]⟩
  | j + 1 => rp t j ++ t
theorem rp_size (t : ByteArray) (j : Nat) : (rp t j).size = j * t.size := by
  induction j with
  | zero => rw [Nat.zero_mul]; rfl
  | succ j ih => rw [rp, ByteArray.size_append, ih, Nat.succ_mul]
theorem rp_list (t : ByteArray) (j : Nat) : (rp t (j + 1)).data.toList = (rp t j).data.toList ++ t.data.toList := by
  rw [rp]
  simp [ByteArray.data_append]
theorem rp_ch (t : ByteArray) (j x : Nat) (hx : x < j * t.size) : ch (rp t j).data.toList x = ch t.data.toList (x % t.size) := by
  induction j with
  | zero => simp at hx
  | succ j ih =>
    have hl : (rp t j).data.toList.length = j * t.size := Array.length_toList.trans (rp_size t j)
    rw [rp_list]
    unfold ch at *
    by_cases hlt : x < j * t.size
    · rw [List.getD_eq_getElem?_getD, List.getElem?_append_left (by rw [hl]; exact hlt), ← List.getD_eq_getElem?_getD]
      exact ih hlt
    · rw [List.getD_eq_getElem?_getD, List.getElem?_append_right (by rw [hl]; omega), hl, ← List.getD_eq_getElem?_getD]
      have hm : x % t.size = x - j * t.size := by
        rw [Nat.succ_mul] at hx
        have hM : t.size * j = j * t.size := Nat.mul_comm _ _
        have e : (x - j * t.size) + t.size * j = x := by omega
        have e2 : (x - j * t.size + t.size * j) % t.size = x - j * t.size := by rw [Nat.add_mul_mod_self_left]; exact Nat.mod_eq_of_lt (by omega)
        rw [e] at e2
        exact e2
      rw [hm]
theorem rp_period (t : ByteArray) (j : Nat) (h0 : 0 < t.size) : ∀ x, t.size ≤ x → x < (rp t j).size → ch (rp t j).data.toList x = ch (rp t j).data.toList (x - t.size) := by
  intro x h1 h2
  rw [rp_size] at h2
  rw [rp_ch t j x h2, rp_ch t j (x - t.size) (by omega)]
  congr 1
  conv => lhs; rw [show x = (x - t.size) + t.size by omega]
  rw [Nat.add_mod_right]
end Go.Proofs.YtohfpmlofjhigaaDoor
