/-
  flate: (*inflater).stored.
-/
import Derived.Test.YtohfpmlofjhigaaDoorRcd
import Derived.Test.YtohfpmlofjhigaaDoorBlo
namespace Go.Proofs.YtohfpmlofjhigaaDoor
open Go Go.RowKit Go.Extern.Stop Go.Stop Go.Extern

theorem bitsOf_says {bs : List UInt8} {i : Nat} {l : List UInt8} (h : Says bs i (bitsOf l)) (j : Nat) (hj : j < l.length) : Says bs (i + 8 * j) (lowB l[j].toNat 8) := by
  induction l generalizing i j with
  | nil => simp at hj
  | cons b l ih =>
    have e : bitsOf (b :: l) = lowB b.toNat 8 ++ bitsOf l := rfl
    rw [e] at h
    match j, hj with
    | 0, _ => simpa using h.left
    | j + 1, hj =>
      have := ih (i := i + 8) (by have := h.right; simpa using this) j (by simpa using hj)
      rw [show i + 8 * (j + 1) = i + 8 + 8 * j by omega]
      simpa using this
theorem byte_says {bs : List UInt8} {i L : Nat} {l : List UInt8} (h : Says bs i (bitsOf l)) (hL : l.length = L) (j : Nat) (hj : j < L) {s : List UInt8} {a : Nat} (hs : s[a + j]? = l[j]?) (hal : a + j < s.length) : Says bs (i + 8 * j) (lowB s[a + j].toNat 8) := by
  subst hL
  rw [List.getElem?_eq_getElem hal, List.getElem?_eq_getElem hj] at hs
  rw [Option.some.inj hs]
  exact bitsOf_says h j hj
theorem sto_idx {j L a to z : Nat} (hj : j < L) (hL : L = to - a) (ha : a ≤ to) (hz : to ≤ z) (hLm : L ≤ 65535) : a + j < z ∧ a + (j + 1) ≤ to ∧ j + 1 ≤ L ∧ L - (j + 1) < L - j ∧ ((j : Int) < (L : Int)) = True ∧ ((j : Int) + 1) % 65536 = (j : Int) + 1 ∧ IntKind.u16.wrap ((j : Int) + 1) = ((j + 1 : Nat) : Int) :=
  ⟨by omega, by omega, by omega, by omega, by simp; omega, by omega, by rw [wrapU16]; omega⟩

set_option maxRecDepth 8000 in
set_option maxHeartbeats 2000000 in
theorem rstored_any (ib : Nat) (p : ByteArray) (i : Nat) (s bs : List UInt8) (a to : Nat) (most : Int) (cap : Value) (w : World) (hI : Inf w ib p i (s.take a) most cap) (hbl : bs.length = to - a) (hbs : ∀ j, j < bs.length → s[a + j]? = bs[j]?) (hS : Says p.data.toList i (storB i bs)) (hz : p.size ≤ 70368744177) (hsz : s.length ≤ 70368744177000) (hat : a ≤ to) (hto : to ≤ s.length) (h64 : to - a ≤ 65535) (ham : (a : Int) ≤ most ∨ to = 0) :
    Calls Tryd.prog 39 #[.pointer (some ⟨ib, 0, none⟩)] w fun e w' => Outs ib p (i + (storB i bs).length) s to most cap w e w' := by
  obtain ⟨sv, hsv⟩ := hI.err.stored
  have hpd : p.data.toList.length = p.size := by simp
  have hle := hS.le
  rw [hpd] at hle
  have htb := rtoByte_any ib p i w hI.rd (by omega)
  have hpl : i + (padB i).length = (i + 7) / 8 * 8 := by unfold padB; simp; omega
  unfold storB at hS
  have hS1 := hS.right
  rw [hpl] at hS1
  have hS2 := hS1.right
  rw [lowB_length] at hS2
  have hS3 := hS2.right
  rw [lowB_length] at hS3
  have hlen : (storB i bs).length = (i + 7) / 8 * 8 - i + 32 + 8 * bs.length := storB_length i bs
  have hle0 : i ≤ (i + 7) / 8 * 8 := by omega
  generalize hi0 : (i + 7) / 8 * 8 = i0 at *
  have hn1 := fun w1 (h1 : FErr w1 cap) (h2 : Rd w1 ib p i0) => rnumber_any ib p i0 (lowB bs.length 16) 16 cap w1 hI.base (by simp) (by simp) h1 h2 hS1.left (by omega)
  have hn2 := fun w1 (h1 : FErr w1 cap) (h2 : Rd w1 ib p (i0 + 16)) => rnumber_any ib p (i0 + 16) (lowB (65535 - bs.length) 16) 16 cap w1 hI.base (by simp) (by simp) h1 h2 hS2.left (by omega)
  rw [numB_lowB _ _ (by omega), lowB_length] at hn1
  rw [numB_lowB _ _ (by omega), lowB_length] at hn2
  have hfin : i + (storB i bs).length = i0 + 16 + 16 + 8 * bs.length := by rw [hlen]; omega
  rw [hfin]
  have HS3 : Hid (Says p.data.toList (i0 + 16 + 16) (bitsOf bs)) := hS3
  have HBS : Hid (∀ j, j < bs.length → s[a + j]? = bs[j]?) := hbs
  have HZ : Hid (p.size ≤ 70368744177 ∧ s.length ≤ 70368744177000 ∧ to ≤ s.length ∧ a ≤ to ∧ bs.length = to - a ∧ bs.length ≤ 65535) := ⟨hz, hsz, hto, hat, hbl, by omega⟩
  have HI : Hid (Inf w ib p i (s.take a) most cap) := hI
  have HAM : Hid ((a : Int) ≤ most ∨ to = 0) := ham
  have hxor := u16_not0 bs.length (by omega)
  have hsm : (bs.length : Int) % 65536 = (bs.length : Int) := by omega
  have hsm2 : ((65535 - bs.length : Nat) : Int) % 65536 = ((65535 - bs.length : Nat) : Int) := by omega
  have hmax : IntKind.u16.max = (65535 : Int) := by decide
  generalize hout : (fun e w' => Outs ib p (i0 + 16 + 16 + 8 * bs.length) s to most cap w e w') = Post
  have hLL : bs.length ≤ 65535 := by omega
  clear hS hS1 hS2 hS3 hlen hfin hle hle0 hz hsz hto h64 ham hpl hat hbl hbs hpd hI hi0
  generalize hL : bs.length = L at *
  generalize hq : 65535 - L = q at *
  go_enter Tryd.func39, Tryd.ntmps39
  go_wp2_with (first
    | (go_at_call 56; refine htb.mono ?_; rintro e w1 ⟨rfl, hr1, hk1⟩; have hi1 := HI.out.kr hk1 hr1)
    | (go_at_call 38; refine (hn2 w2 hi2.err hr2).mono ?_; rintro e w3 ⟨rfl, hr3, hk3⟩; have hi3 := hi2.kr hk3 hr3; obtain ⟨sv3, hsv3⟩ := hi3.err.stored; clear hn2)
    | (go_at_call 38; refine (hn1 w1 hi1.err hr1).mono ?_; rintro e w2 ⟨rfl, hr2, hk2⟩; have hi2 := hi1.kr hk2 hr2; clear hn1))
  refine (unless_true _ _ _).mono ?_
  rintro e w4 ⟨rfl, rfl⟩
  clear hxor hsm hsm2 hmax
  go_wp2
  have hK4 : Kp ib 2 w w4 := (hk1.kp (by decide)).trans ((hk2.kp (by decide)).trans (hk3.kp (by decide)))
  have HI4 : Hid (Inf w4 ib p (i0 + 16 + 16) (s.take a) most cap ∧ Kp ib 2 w w4) := ⟨hi3, hK4⟩
  clear hi3 hi2 hi1 hk1 hk2 hk3 hr1 hr2 hr3 htb hsv hsv3 hK4
  go_loopw [25] (fun cnt wr => ∃ j : Nat, j ≤ L ∧ cnt = .int .u16 j ∧ Inf wr ib p (i0 + 16 + 16 + 8 * j) (s.take (a + j)) most cap ∧ Kp ib 2 w wr ∧ (((a + j : Nat) : Int) ≤ most ∨ to = 0)) (fun cnt _ => L - (intOf cnt).toNat)
  case atStart => exact ⟨0, Nat.zero_le _, rfl, HI4.out.1, HI4.out.2, HAM.out⟩
  case round =>
    obtain ⟨j, hj, rfl, hinf, hkp, hmo⟩ := hrel
    clear HI4
    have hz := HZ.out
    by_cases hlt : j < L
    · obtain ⟨x1, x2, x3, x4, x5, x6, x7⟩ := sto_idx hlt hz.2.2.2.2.1 hz.2.2.2.1 hz.2.2.1 hz.2.2.2.2.2
      have hsay := byte_says HS3.out hL j hlt (HBS.out j hlt) x1
      have hnum := rnumber_any ib p (i0 + 16 + 16 + 8 * j) (lowB s[a + j].toNat 8) 8 cap wr hinf.base (by simp) (by simp) hinf.err hinf.rd hsay (by omega)
      rw [numB_lowB _ _ (by have := s[a + j].toNat_lt; simpa using this), lowB_length] at hnum
      have hb256 : ((s[a + j].toNat : Int)) % 256 = (s[a + j].toNat : Int) := by have := s[a + j].toNat_lt; omega
      have HX : Hid (j + 1 ≤ L ∧ L - (j + 1) < L - j) := ⟨x3, x4⟩
      have htl := take_len s (a + j) (Nat.le_of_lt x1)
      have HTM : Hid (s.take (a + (j + 1)) = s.take (a + j) ++ [s[a + j]]) := take_more s (a + j) x1
      have HKP : Hid (Kp ib 2 w wr) := hkp
      have HINF : Hid (Inf wr ib p (i0 + 16 + 16 + 8 * j) (s.take (a + j)) most cap) := hinf
      by_cases hcap : ((a + j : Nat) : Int) < most
      · have htell := fun w2 (x : Int) (hx : x = s[a + j].toNat) (hi : Inf w2 ib p (i0 + 16 + 16 + 8 * j + 8) (s.take (a + j)) most cap) => tell_ok ib p (i0 + 16 + 16 + 8 * j + 8) (s.take (a + j)) most cap s[a + j] x w2 hx hi (by rw [htl]; exact hcap) (by rw [htl]; omega)
        have HMO : Hid (((a + (j + 1) : Nat) : Int) ≤ most ∨ to = 0) := by show _ ∨ _; omega
        have HE8 : Hid (i0 + 16 + 16 + 8 * (j + 1) = i0 + 16 + 16 + 8 * j + 8) := by show _ = _; omega
        clear hinf hkp hmo hcap x2 x3 x4 hz hj hsay x7
        go_wp2_with (first
          | (go_at_call 38; refine hnum.mono ?_; rintro e w2 ⟨rfl, hr2, hk2⟩; have hi2 := HINF.out.kr hk2 hr2)
          | (go_at_call 57; refine (htell w2 _ (by first | rfl | exact hb256) hi2).mono ?_; rintro e w3 ⟨rfl, hi3, hk3⟩))
        go_roundw
        case rel => exact ⟨j + 1, HX.out.1, by first | go_num | (push_cast; rfl), by rw [HE8.out, HTM.out]; exact hi3, HKP.out.trans ((hk2.kp (by decide)).trans hk3), HMO.out⟩
        case measure => simp only [intOf]; exact HX.out.2
      · have htell := fun w2 (x : Int) (hi : Inf w2 ib p (i0 + 16 + 16 + 8 * j + 8) (s.take (a + j)) most cap) => tell_cap ib p (i0 + 16 + 16 + 8 * j + 8) (s.take (a + j)) most cap x w2 hi (by rw [htl]; exact hcap)
        have HO : Hid (∀ w', Kp ib 2 w w' → Post (.panicked (stopped cap)) w') := fun w' k => by
          rw [← hout]
          exact Outs.cap (by omega) k
        clear hinf hkp hmo hcap x2 x3 x4 hz hj hsay x7
        go_wp2_with (first
          | (go_at_call 38; refine hnum.mono ?_; rintro e w2 ⟨rfl, hr2, hk2⟩; have hi2 := HINF.out.kr hk2 hr2)
          | (go_at_call 57; refine (htell w2 _ hi2).mono ?_; rintro e w3 ⟨rfl, hk3⟩))
        exact ⟨rfl, HO.out _ (HKP.out.trans ((hk2.kp (by decide)).trans hk3))⟩
    · obtain rfl : j = L := by omega
      have hate : a + j = to := by omega
      have HO : Hid (Post (.returned (.tuple #[])) wr) := by
        show Post _ _
        rw [← hout, ← hate]
        exact Outs.done (by omega) hinf hkp
      clear hinf hkp hmo hz
      go_wp2
      go_end0
      exact HO.out
end Go.Proofs.YtohfpmlofjhigaaDoor
