/-
  flate: (*inflater).repeat.
-/
import Derived.Test.YtohfpmlofjhigaaDoorTelC
import Derived.Test.YtohfpmlofjhigaaDoorRpt
import Derived.StillTailTactics
namespace Go.Proofs.YtohfpmlofjhigaaDoor
open Go Go.RowKit Go.Extern.Stop Go.Stop Go.Extern

/-- What becomes of bytes that are told from a on up to b: they came out; or there were too many. -/
def Outs (ib : Nat) (p : ByteArray) (i : Nat) (s : List UInt8) (b : Nat) (most : Int) (cap : Value) (w : World) (e : Ending) (w' : World) : Prop :=
  if (b : Int) ≤ most ∨ b = 0 then e = .returned (.tuple #[]) ∧ Inf w' ib p i (s.take b) most cap ∧ Kp ib 2 w w' else e = .panicked (stopped cap) ∧ Kp ib 2 w w'
theorem take_more (s : List UInt8) (a : Nat) (h : a < s.length) : s.take (a + 1) = s.take a ++ [s[a]] := by rw [List.take_append_getElem]
theorem take_len (s : List UInt8) (a : Nat) (h : a ≤ s.length) : (s.take a).length = a := by rw [List.length_take]; omega
theorem ch_at (s : List UInt8) (a : Nat) (h : a < s.length) : ch s a = s[a].toNat := by unfold ch; rw [List.getD_eq_getElem?_getD, List.getElem?_eq_getElem h]; rfl
theorem rep_idx {a j d n z : Nat} (hj : j < n) (h1 : 1 ≤ d) (hd : d ≤ a) (hz : a + n ≤ z) (hz2 : z ≤ 70368744177000) : ∃ q, a + j - d = q ∧ wrap64 ((a : Int) + (j : Int) - (d : Int)) = (q : Int) ∧ IntKind.i64.wrap ((a : Int) + (j : Int) - (d : Int)) = (q : Int) ∧ (q : Int) < (a : Int) + (j : Int) ∧ q < a + j ∧ a + j < z ∧ j + 1 ≤ n ∧ n - (j + 1) < n - j := by
  have e : wrap64 ((a : Int) + (j : Int) - (d : Int)) = ((a + j - d : Nat) : Int) := by unfold wrap64; omega
  exact ⟨_, rfl, e, by rw [IntKind.wrap_i64]; unfold wrap64 at e; exact e, by omega, by omega, by omega, by omega, by omega⟩

set_option maxRecDepth 8000 in
set_option maxHeartbeats 2000000 in
theorem rrepeat_any (ib : Nat) (p : ByteArray) (i : Nat) (s : List UInt8) (a n d : Nat) (most : Int) (cap : Value) (w : World) (hI : Inf w ib p i (s.take a) most cap) (hn : n ≤ 258) (h1 : 1 ≤ d) (hd : d ≤ a) (hle : a + n ≤ s.length) (hz : s.length ≤ 70368744177000) (ham : (a : Int) ≤ most) (hsame : ∀ j, j < n → ch s (a + j) = ch s (a + j - d)) :
    Calls Tryd.prog 61 #[.pointer (some ⟨ib, 0, none⟩), .int .i64 n, .int .i64 d] w fun e w' => Outs ib p i s (a + n) most cap w e w' := by
  obtain ⟨dv, hdv⟩ := hI.err.distance
  obtain ⟨v, c2, hrow, hbd, hge⟩ := hI.c2
  change Row w 1 v (s.take a).length _ at hrow
  rw [take_len s a (by omega)] at hrow
  obtain ⟨ad, cp, hv⟩ := hrow.shape
  subst hv
  have hda : ((d : Int) ≤ (a : Int)) = True := by simp; omega
  have HD : Hid (1 ≤ d ∧ d ≤ a ∧ a + n ≤ s.length ∧ s.length ≤ 70368744177000) := ⟨h1, hd, hle, hz⟩
  have HS : Hid (∀ j, j < n → ch s (a + j) = ch s (a + j - d)) := hsame
  have HI : Hid (Inf w ib p i (s.take a) most cap) := hI
  have HAM : Hid ((a : Int) ≤ most) := ham
  generalize hout : (fun e w' => Outs ib p i s (a + n) most cap w e w') = Post
  clear hI hrow hbd hge h1 hd hle hz ham hsame
  go_enter Tryd.func61, Tryd.ntmps61
  go_wp2
  go_quiet ((go_at_call 43; exact Calls.quiet_of_same (unless_true _ _ _)))
  clear c2 hdv
  go_wp2
  go_loopw [16] (fun cnt wr => ∃ j : Nat, j ≤ n ∧ cnt = .int .i64 j ∧ Inf wr ib p i (s.take (a + j)) most cap ∧ Kp ib 2 w wr ∧ ((a + j : Nat) : Int) ≤ most) (fun cnt _ => n - (intOf cnt).toNat)
  case atStart => exact ⟨0, Nat.zero_le _, rfl, HI.out.drewN _, (Kr.drewN _ _ _).kp (by decide), HAM.out⟩
  case round =>
    obtain ⟨j, hj, rfl, hinf, hkp, hmo⟩ := hrel
    by_cases hlt : j < n
    · obtain ⟨q, hq, x1, x2, x3, x4, x5, x6, x7⟩ := rep_idx hlt HD.out.1 HD.out.2.1 HD.out.2.2.1 HD.out.2.2.2
      have HX : Hid (j + 1 ≤ n ∧ n - (j + 1) < n - j) := ⟨x6, x7⟩
      obtain ⟨v, c2, hrow, hbd, hge⟩ := hinf.c2
      change Row wr 1 v (s.take (a + j)).length _ at hrow
      have htl := take_len s (a + j) (Nat.le_of_lt x5)
      obtain ⟨g, c, hv, hra⟩ := Row.some hrow (by rw [htl]; exact Nat.lt_of_le_of_lt (Nat.zero_le _) x4)
      have hby := RowAt.byte hra q (by rw [htl]; exact x4)
      have hsj := HS.out j hlt
      rw [hq] at hsj
      have hd5 : q < s.length := Nat.lt_trans x4 x5
      rw [ch_at s _ x5, ch_at s _ hd5] at hsj
      rw [List.getElem_take, ← hsj] at hby
      rw [htl] at hv
      subst hv
      have HTM : Hid (s.take (a + (j + 1)) = s.take (a + j) ++ [s[a + j]]) := take_more s (a + j) x5
      have HKP : Hid (Kp ib 2 w wr) := hkp
      have HZ2 : Hid ((s.take (a + j)).length ≤ 70368744177000) := by show _ ≤ _; rw [htl]; have := HD.out; omega
      have hpz : a + j ≤ 70368744177000 := by have := HD.out; omega
      by_cases hcap : ((a + j : Nat) : Int) < most
      · have htell := fun (x : Int) (hx : x = s[a + j].toNat) => tell_ok ib p i (s.take (a + j)) most cap s[a + j] x wr.drew hx (hinf.drewN 1) (by rw [htl]; exact hcap) HZ2.out
        have HMO : Hid (((a + (j + 1) : Nat) : Int) ≤ most) := by show _ ≤ _; omega
        clear hrow hra hbd hge hkp hinf hcap hmo x6 x7 hj
        go_wp2
        go_still_tail 14, (by kernel_rfl)
        go_wp2_with (go_at_call 57; refine (htell _ (by rw [hsj])).mono ?_; rintro e w1 ⟨rfl, hi1, hk1⟩)
        go_roundw
        case rel => exact ⟨j + 1, HX.out.1, by go_num, by rw [HTM.out]; exact hi1, HKP.out.trans ((Kp.drew _ _ _).trans hk1), HMO.out⟩
        case measure => simp only [intOf]; exact HX.out.2
      · have htell := fun (x : Int) => tell_cap ib p i (s.take (a + j)) most cap x wr.drew (hinf.drewN 1) (by rw [htl]; exact hcap)
        have HOUT : Hid (∀ w', Kp ib 2 w w' → Post (.panicked (stopped cap)) w') := fun w' k => by
          rw [← hout]
          show Outs _ _ _ _ _ _ _ _ _ _
          unfold Outs
          rw [if_neg (by have := HX.out; omega)]
          exact ⟨rfl, k⟩
        clear hrow hra hbd hge hkp hinf hcap hmo x6 x7 hj
        go_wp2
        go_still_tail 14, (by kernel_rfl)
        go_wp2_with (go_at_call 57; refine (htell _).mono ?_; rintro e w1 ⟨rfl, hk1⟩)
        exact ⟨rfl, HOUT.out _ (HKP.out.trans ((Kp.drew _ _ _).trans hk1))⟩
    · obtain rfl : j = n := by omega
      have HOUT : Hid (Post (.returned (.tuple #[])) wr) := by
        show Post _ _
        rw [← hout]
        show Outs _ _ _ _ _ _ _ _ _ _
        unfold Outs
        rw [if_pos (.inl hmo)]
        exact ⟨rfl, hinf, hkp⟩
      clear hinf hkp hmo
      go_wp2
      go_end0
      exact HOUT.out
end Go.Proofs.YtohfpmlofjhigaaDoor
