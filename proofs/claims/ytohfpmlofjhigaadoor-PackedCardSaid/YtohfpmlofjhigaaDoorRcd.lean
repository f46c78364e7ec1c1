/-
  flate: (*inflater).coded.
-/
import Derived.Test.YtohfpmlofjhigaaDoorRrp
import Derived.Test.YtohfpmlofjhigaaDoorWth
import Derived.Test.YtohfpmlofjhigaaDoorWrd
namespace Go.Proofs.YtohfpmlofjhigaaDoor
open Go Go.RowKit Go.Extern.Stop Go.Stop Go.Extern

/-- What an inflater reads by. -/
structure Env (w : World) (ib c1 v1 c2 v2 : Nat) : Prop where
  ls : SpAt w 20 lenF
  ds : SpAt w 21 disF
  cv : CodeAt w c1 v1 288 fixMany fixVal
  cd : CodeAt w c2 v2 32 disMany id
  ne : c1 ≠ ib ∧ v1 ≠ ib ∧ c2 ≠ ib ∧ v2 ≠ ib ∧ 32 ≤ ib
  size : 32 ≤ w.heap.size
  own : ∀ x, (x = c1 ∨ x = v1 ∨ x = c2 ∨ x = v2 ∨ x < 32) → blkAt w ib 2 ≠ some x
theorem Env.kp {w w' : World} {ib c1 v1 c2 v2 : Nat} (h : Env w ib c1 v1 c2 v2) (k : Kp ib 2 w w') : Env w' ib c1 v1 c2 v2 := by
  have l1 := World.block_lt_of_cell? _ _ h.cv.sl
  have l2 := World.block_lt_of_cell? _ _ (h.cv.vals 0 (by decide))
  have l3 := World.block_lt_of_cell? _ _ h.cd.sl
  have l4 := World.block_lt_of_cell? _ _ (h.cd.vals 0 (by decide))
  have l5 := World.block_lt_of_cell? _ _ (h.ls 0 (by decide)).1
  have l6 := World.block_lt_of_cell? _ _ (h.ds 0 (by decide)).1
  have hk := k.size
  have hb := h.ne.2.2.2.2
  refine ⟨h.ls.carry (k.old _ l5 (fun e => by omega) (h.own _ (by right; right; right; right; decide))), h.ds.carry (k.old _ l6 (fun e => by omega) (h.own _ (by right; right; right; right; decide))), h.cv.carry (k.old _ l1 h.ne.1 (h.own _ (.inl rfl))) (k.old _ l2 h.ne.2.1 (h.own _ (.inr (.inl rfl)))), h.cd.carry (k.old _ l3 h.ne.2.2.1 (h.own _ (.inr (.inr (.inl rfl))))) (k.old _ l4 h.ne.2.2.2.1 (h.own _ (.inr (.inr (.inr (.inl rfl)))))), h.ne, Nat.le_trans h.size k.size, fun x hx => ?_⟩
  rcases k.at' with e | ⟨g, hg, e⟩
  · rw [e]; exact h.own x hx
  · rw [e]
    intro e'
    cases e'
    have hsz := h.size
    simp only at l1 l2 l3 l4
    rcases hx with rfl | rfl | rfl | rfl | hx <;> omega

theorem fixMany_le (k : Nat) : fixMany k ≤ 300 := by unfold fixMany; split <;> (try split) <;> (try split) <;> omega
theorem disMany_le (k : Nat) : disMany k ≤ 300 := by unfold disMany; split <;> omega
theorem valB_length (v : Nat) : (valB v).length ≤ 15 ∧ 7 ≤ (valB v).length := by unfold valB; rw [highB_length]; have := fixW_bits v; omega
/-- A word of the fixed code. -/
theorem rword_fix (ib c1 v1 c2 v2 : Nat) (p : ByteArray) (i v : Nat) (out : List UInt8) (most : Int) (cap : Value) (w : World) (hv : v < 288) (hE : Env w ib c1 v1 c2 v2) (hI : Inf w ib p i out most cap) (hS : Says p.data.toList i (valB v)) (hz : p.size ≤ 70368744177000) :
    Calls Tryd.prog 58 #[.pointer (some ⟨ib, 0, none⟩), .pointer (some ⟨c1, 0, none⟩)] w fun e w' => e = .returned (.int .i64 v) ∧ Inf w' ib p (i + (valB v).length) out most cap ∧ Env w' ib c1 v1 c2 v2 ∧ Kp ib 2 w w' := by
  obtain ⟨j, hj, hr, hfv⟩ := fix_read v hv
  refine (rword_any ib c1 v1 288 fixMany fixVal p i j (valB v) cap w hI.base (valB_length v).1 hr hj fixMany_le hE.ne.1 hE.ne.2.1 hE.cv hI.err hI.rd hS hz).mono ?_
  rintro e w' ⟨rfl, hrd, hk⟩
  have hkp : Kp ib 2 w w' := hk.kp (by decide)
  exact ⟨by rw [hfv], hI.kr hk hrd, hE.kp hkp, hkp⟩
theorem rword_dis (ib c1 v1 c2 v2 : Nat) (p : ByteArray) (i v : Nat) (out : List UInt8) (most : Int) (cap : Value) (w : World) (hv : v < 32) (hE : Env w ib c1 v1 c2 v2) (hI : Inf w ib p i out most cap) (hS : Says p.data.toList i (highB v 5)) (hz : p.size ≤ 70368744177000) :
    Calls Tryd.prog 58 #[.pointer (some ⟨ib, 0, none⟩), .pointer (some ⟨c2, 0, none⟩)] w fun e w' => e = .returned (.int .i64 v) ∧ Inf w' ib p (i + 5) out most cap ∧ Env w' ib c1 v1 c2 v2 ∧ Kp ib 2 w w' := by
  have := rword_any ib c2 v2 32 disMany id p i v (highB v 5) cap w hI.base (by simp) (dis_read v hv) hv disMany_le hE.ne.2.2.1 hE.ne.2.2.2.1 hE.cd hI.err hI.rd hS hz
  rw [highB_length] at this
  refine this.mono ?_
  rintro e w' ⟨rfl, hrd, hk⟩
  have hkp : Kp ib 2 w w' := hk.kp (by decide)
  exact ⟨rfl, hI.kr hk hrd, hE.kp hkp, hkp⟩
/-- The value that opens what tokens tell. -/
def symOf : List Tok → Nat
  | [] => 256
  | .lit b :: _ => b
  | .rep n _ :: _ => 257 + lenP n
/-- Where the reader is. -/
def atOf (w : World) (ib : Nat) : Nat := match w.cell? ⟨ib, 1, none⟩ with | some (.int _ n) => n.toNat | _ => 0
theorem Inf.atOf {w : World} {ib : Nat} {p : ByteArray} {i : Nat} {out : List UInt8} {most : Int} {cap : Value} (h : Inf w ib p i out most cap) : atOf w ib = i := by unfold Go.Proofs.YtohfpmlofjhigaaDoor.atOf; rw [h.rd.c1]; simp
/-- A round of coded. -/
structure RcI (ib c1 v1 c2 v2 : Nat) (p : ByteArray) (s : List UInt8) (to fin : Nat) (most : Int) (cap : Value) (w wr : World) (v : Nat) (pos : Nat) : Prop where
  ex : ∃ a toks, Toks s to a toks ∧ Says p.data.toList pos (toksB toks ++ valB 256) ∧ pos + (toksB toks ++ valB 256).length = fin ∧ v = symOf toks ∧ Inf wr ib p (pos + (valB v).length) (s.take a) most cap ∧ ((a : Int) ≤ most ∨ to = 0)
  env : Env wr ib c1 v1 c2 v2
  kp : Kp ib 2 w wr
theorem ch_lt' (s : List UInt8) (i : Nat) : ch s i < 288 := by unfold ch; have := (s.getD i 0).toNat_lt; omega
theorem sym_lt {s : List UInt8} {to a : Nat} {toks : List Tok} (h : Toks s to a toks) : symOf toks < 288 := by
  cases h with
  | nil => decide
  | cons hk hl =>
    rename_i k l
    cases k with
    | lit b => have := hk.lit b rfl; show b < 288; rw [← this]; exact ch_lt' _ _
    | rep n d => have := lenP_lt n; show 257 + lenP n < 288; omega
theorem sym_says {bs : List UInt8} {pos : Nat} {toks : List Tok} (h : Says bs pos (toksB toks ++ valB 256)) : Says bs pos (valB (symOf toks)) := by
  cases toks with
  | nil => exact h
  | cons k l =>
    rw [toksB_cons, List.append_assoc] at h
    have := h.left
    cases k with
    | lit b => exact this
    | rep n d =>
      have e : (Tok.rep n d).bits = repB n d := rfl
      rw [e] at this
      unfold repB at this
      rw [List.append_assoc, List.append_assoc] at this
      exact this.left
/-- What becomes of a block: as Outs. -/
theorem Outs.done {ib : Nat} {p : ByteArray} {i : Nat} {s : List UInt8} {b : Nat} {most : Int} {cap : Value} {w w' : World} (hb : (b : Int) ≤ most ∨ b = 0) (h : Inf w' ib p i (s.take b) most cap) (k : Kp ib 2 w w') : Outs ib p i s b most cap w (.returned (.tuple #[])) w' := by
  unfold Outs
  rw [if_pos hb]
  exact ⟨rfl, h, k⟩
theorem Outs.cap {ib : Nat} {p : ByteArray} {i : Nat} {s : List UInt8} {b : Nat} {most : Int} {cap : Value} {w w' : World} (hb : ¬ ((b : Int) ≤ most ∨ b = 0)) (k : Kp ib 2 w w') : Outs ib p i s b most cap w (.panicked (stopped cap)) w' := by
  unfold Outs
  rw [if_neg hb]
  exact ⟨rfl, k⟩
theorem lit_facts {b : Nat} (h : b < 256) : ((b : Int) == 256) = false ∧ ((b : Int) < 256) = True ∧ ((b : Int) ≠ 256) := ⟨by simp; omega, by simp; omega, by omega⟩
theorem rep_facts2 {q : Nat} (h : q < 29) : ((257 + (q : Int)) == 256) = false ∧ ((257 + (q : Int)) < 256) = False ∧ wrap64 ((257 + (q : Int)) - 257) = (q : Int) ∧ (257 + (q : Int)) ≠ 256 := ⟨by simp; omega, by simp; omega, by unfold wrap64; omega, by omega⟩
theorem rlength_eq (ib : Nat) (p : ByteArray) (i q : Nat) (x : Int) (l : List Bool) (cap : Value) (w : World) (hx : x = q) (hib : 32 ≤ ib) (hq : q < 29) (hl : l.length = spB lenF q) (hE : FErr w cap) (hR : Rd w ib p i) (hS : Says p.data.toList i l) (hz : p.size ≤ 70368744177000) (hsp : SpAt w 20 lenF) :
    Calls Tryd.prog 59 #[.pointer (some ⟨ib, 0, none⟩), .int .i64 x] w fun e w' => e = .returned (.int .i64 ((spF lenF q + numB l : Nat) : Int)) ∧ Rd w' ib p (i + l.length) ∧ Kr ib w w' := by
  subst hx
  exact rlength_any ib p i q l cap w hib hq hl hE hR hS hz hsp
theorem meas_at {z a b c : Nat} (h : a + 7 ≤ b) (hb : b ≤ z) (hc : c = b) : z + 64 - c < z + 64 - a := by omega

set_option maxRecDepth 8000 in
set_option maxHeartbeats 2000000 in
theorem rcoded_any (ib c1 v1 c2 v2 : Nat) (p : ByteArray) (i : Nat) (s : List UInt8) (a to : Nat) (toks : List Tok) (most : Int) (cap : Value) (w : World) (hE : Env w ib c1 v1 c2 v2) (hI : Inf w ib p i (s.take a) most cap) (hT : Toks s to a toks) (hS : Says p.data.toList i (toksB toks ++ valB 256)) (hz : p.size ≤ 70368744177000) (hsz : s.length ≤ 70368744177000) (hto : to ≤ s.length) (ham : (a : Int) ≤ most ∨ to = 0) :
    Calls Tryd.prog 40 #[.pointer (some ⟨ib, 0, none⟩), .pointer (some ⟨c1, 0, none⟩), .pointer (some ⟨c2, 0, none⟩)] w fun e w' => Outs ib p (i + (toksB toks ++ valB 256).length) s to most cap w e w' := by
  have hw1 := rword_fix ib c1 v1 c2 v2 p i (symOf toks) (s.take a) most cap w (sym_lt hT) hE hI (sym_says hS) hz
  have HST : Hid (∀ w', Inf w' ib p (i + (valB (symOf toks)).length) (s.take a) most cap → Env w' ib c1 v1 c2 v2 → Kp ib 2 w w' → RcI ib c1 v1 c2 v2 p s to (i + (toksB toks ++ valB 256).length) most cap w w' (symOf toks) i) := fun w' h1 h2 h3 => ⟨⟨a, toks, hT, hS, rfl, rfl, h1, ham⟩, h2, h3⟩
  generalize hfin : i + (toksB toks ++ valB 256).length = fin at *
  have HFIN : Hid (fin ≤ 8 * p.size) := by have := hS.le; show fin ≤ _; rw [← hfin]; simpa using this
  have HZ : Hid (p.size ≤ 70368744177000 ∧ s.length ≤ 70368744177000 ∧ to ≤ s.length) := ⟨hz, hsz, hto⟩
  generalize hout : (fun e w' => Outs ib p fin s to most cap w e w') = Post
  clear hE hI hT hS hz hsz hto ham hfin
  generalize symOf toks = v0 at *
  go_enter Tryd.func40, Tryd.ntmps40
  go_wp2_with (go_at_call 58; refine hw1.mono ?_; rintro e w1 ⟨rfl, hi1, he1, hk1⟩)
  have HR0 : Hid (RcI ib c1 v1 c2 v2 p s to fin most cap w w1 v0 i) := HST.out w1 hi1 he1 hk1
  clear hi1 he1 hk1 hw1 HST
  go_loopw [6] (fun v wr => ∃ (n pos : Nat), v = .int .i64 n ∧ RcI ib c1 v1 c2 v2 p s to fin most cap w wr n pos) (fun _ wr => 8 * p.size + 64 - atOf wr ib)
  case atStart => exact ⟨v0, i, rfl, HR0.out⟩
  case round =>
    obtain ⟨v, pos, rfl, hR⟩ := hrel
    clear HR0
    obtain ⟨⟨a, toks, hT, hS, hfin, hv, hI, ham⟩, hE, hK⟩ := hR
    have hat := hI.atOf
    cases toks with
    | nil =>
      have hv2 : v = 256 := hv
      subst hv2
      have hat2 : a = to := by cases hT; rfl
      subst hat2
      have HO : Hid (Post (.returned (.tuple #[])) wr) := by
        show Post _ _
        rw [← hout]
        refine Outs.done ham ?_ hK
        have e : pos + (valB 256).length = fin := by rw [← hfin]; simp [toksB]
        rw [← e]
        exact hI
      clear hT hS hfin hv hI ham hE hK
      go_wp2
      go_end0
      exact HO.out
    | cons k rest =>
      cases k with
      | lit b =>
        have hv2 : v = b := hv
        subst hv2
        obtain ⟨hk, hl⟩ : TokAt s to a (.lit v) ∧ Toks s to (a + 1) rest := by cases hT with | cons h1 h2 => exact ⟨h1, h2⟩
        have hch := hk.lit v rfl
        have hfit : a + 1 ≤ to := hk.fits
        have ham2 : (a : Int) ≤ most := by omega
        have has : a < s.length := by have := HZ.out; omega
        rw [ch_at s a has] at hch
        have hb256 : v < 256 := by rw [← hch]; exact s[a].toNat_lt
        obtain ⟨l1, l2, l3⟩ := lit_facts hb256
        have HCH : Hid (s[a].toNat = v) := hch
        clear hch
        have hS2 : Says p.data.toList (pos + (valB v).length) (toksB rest ++ valB 256) := by
          have := hS
          rw [toksB_cons, List.append_assoc] at this
          exact this.right
        have htl := take_len s a (Nat.le_of_lt has)
        have hMS := valB_length (symOf rest)
        by_cases hcap : (a : Int) < most
        · have htell := fun (x : Int) (hx : x = s[a].toNat) => tell_ok ib p (pos + (valB v).length) (s.take a) most cap s[a] x wr hx hI (by rw [htl]; exact hcap) (by rw [htl]; have := HZ.out; omega)
          rw [← take_more s a has] at htell
          have hword := fun w2 (h1 : Env w2 ib c1 v1 c2 v2) (h2 : Inf w2 ib p (pos + (valB v).length) (s.take (a + 1)) most cap) => rword_fix ib c1 v1 c2 v2 p (pos + (valB v).length) (symOf rest) (s.take (a + 1)) most cap w2 (sym_lt hl) h1 h2 (sym_says hS2) HZ.out.1
          have HE : Hid (∀ w2, Kp ib 2 wr w2 → Env w2 ib c1 v1 c2 v2) := fun w2 k => hE.kp k
          have HNX : Hid (∀ w3, Inf w3 ib p (pos + (valB v).length + (valB (symOf rest)).length) (s.take (a + 1)) most cap → Env w3 ib c1 v1 c2 v2 → Kp ib 2 wr w3 → RcI ib c1 v1 c2 v2 p s to fin most cap w w3 (symOf rest) (pos + (valB v).length)) := fun w3 h1 h2 h3 => ⟨⟨a + 1, rest, hl, hS2, by rw [← hfin, toksB_cons]; show _ = pos + ((valB v ++ toksB rest) ++ valB 256).length; simp; omega, rfl, h1, .inl (by omega)⟩, h2, hK.trans h3⟩
          have HLE2 : Hid (pos + (valB v).length + (valB (symOf rest)).length ≤ 8 * p.size) := by have := (sym_says hS2).le; show _ ≤ _; simpa using this
          have hxx : ∀ x : Int, x = (v : Int) % 256 → x = s[a].toNat := fun x hx => by have := HCH.out; rw [hx, this]; omega
          clear hT hS hfin hv hI ham ham2 hE hK hk hl hcap hS2 hfit
          clear hb256 l3
          go_wp2_with (first
            | (go_at_call 57; refine (htell _ (by first | rfl | exact hxx _ rfl | (apply hxx; simp [IntKind.wrap, IntKind.signed, IntKind.bits]))).mono ?_; rintro e w2 ⟨rfl, hi2, hk2⟩)
            | (go_at_call 58; refine (hword w2 (HE.out w2 hk2) hi2).mono ?_; rintro e w3 ⟨rfl, hi3, he3, hk3⟩))
          go_roundw
          case rel => exact ⟨symOf rest, _, rfl, HNX.out w3 hi3 he3 (hk2.trans hk3)⟩
          case measure => rw [hat]; exact meas_at (Nat.add_le_add_left hMS.2 _) HLE2.out hi3.atOf
        · have htell := fun (x : Int) => tell_cap ib p (pos + (valB v).length) (s.take a) most cap x wr hI (by rw [htl]; exact hcap)
          have HO : Hid (∀ w', Kp ib 2 wr w' → Post (.panicked (stopped cap)) w') := fun w' k => by
            rw [← hout]
            exact Outs.cap (by omega) (hK.trans k)
          clear hT hS hfin hv hI ham ham2 hE hK hk hl hcap hS2 hfit hb256 l3
          go_wp2_with (go_at_call 57; refine (htell _).mono ?_; rintro e w2 ⟨rfl, hk2⟩)
          exact ⟨rfl, HO.out _ hk2⟩
      | rep n d =>
        have hv2 : v = 257 + lenP n := hv
        subst hv2
        obtain ⟨hk, hl⟩ : TokAt s to a (.rep n d) ∧ Toks s to (a + n) rest := by cases hT with | cons h1 h2 => exact ⟨h1, h2⟩
        obtain ⟨r1, r2, r3, r4, r5, r6⟩ := hk.rep n d rfl
        have hfit : a + n ≤ to := hk.fits
        have ham2 : (a : Int) ≤ most := by omega
        have hq := lenP_lt n
        have hq2 := disP_lt d
        have hf1 := lenP_first n r1
        have hf2 := disP_first d r3
        have hr1 := lenP_rest n r1 r2
        have hr2 := disP_rest d r3 r4
        obtain ⟨l1, l2, l3, l4⟩ := rep_facts2 hq
        have hSk := hS
        rw [toksB_cons, List.append_assoc] at hSk
        have hS3 : Says p.data.toList (pos + (Tok.rep n d).bits.length) (toksB rest ++ valB 256) := hSk.right
        have hbits : (Tok.rep n d).bits = valB (257 + lenP n) ++ (lowB (n - spF lenF (lenP n)) (spB lenF (lenP n)) ++ (highB (disP d) 5 ++ lowB (d - spF disF (disP d)) (spB disF (disP d)))) := by show repB n d = _; unfold repB; simp
        have hSa := hSk.left
        rw [hbits] at hSa
        have hSb := hSa.right
        have hSc := hSb.right
        have hSd := hSc.right
        have hb1 := hSb.left
        have hb2 := hSc.left
        rw [lowB_length] at hSc hSd hb2
        rw [highB_length] at hSd
        have hlenc := fun w2 (x : Int) (hx : x = lenP n) (h1 : FErr w2 cap) (h2 : Rd w2 ib p (pos + (valB (257 + lenP n)).length)) (h3 : SpAt w2 20 lenF) => rlength_eq ib p (pos + (valB (257 + lenP n)).length) (lenP n) x (lowB (n - spF lenF (lenP n)) (spB lenF (lenP n))) cap w2 hx hI.base hq (by simp) h1 h2 hb1 HZ.out.1 h3
        rw [numB_lowB _ _ hr1, lowB_length, show spF lenF (lenP n) + (n - spF lenF (lenP n)) = n by omega] at hlenc
        have hdisw := fun w2 (h1 : Env w2 ib c1 v1 c2 v2) (h2 : Inf w2 ib p (pos + (valB (257 + lenP n)).length + spB lenF (lenP n)) (s.take a) most cap) => rword_dis ib c1 v1 c2 v2 p (pos + (valB (257 + lenP n)).length + spB lenF (lenP n)) (disP d) (s.take a) most cap w2 (by omega) h1 h2 hb2 HZ.out.1
        have hdisc := fun w2 (h1 : FErr w2 cap) (h2 : Rd w2 ib p (pos + (valB (257 + lenP n)).length + spB lenF (lenP n) + 5)) (h3 : SpAt w2 21 disF) => rdistance_any ib p (pos + (valB (257 + lenP n)).length + spB lenF (lenP n) + 5) (disP d) (lowB (d - spF disF (disP d)) (spB disF (disP d))) cap w2 hI.base hq2 (by simp) h1 h2 hSd HZ.out.1 h3
        rw [numB_lowB _ _ hr2, lowB_length, show spF disF (disP d) + (d - spF disF (disP d)) = d by omega] at hdisc
        have hpos2 : pos + (Tok.rep n d).bits.length = pos + (valB (257 + lenP n)).length + spB lenF (lenP n) + 5 + spB disF (disP d) := by rw [hbits]; simp; omega
        rw [hpos2] at hS3
        have hrepc := fun w2 (h1 : Inf w2 ib p (pos + (valB (257 + lenP n)).length + spB lenF (lenP n) + 5 + spB disF (disP d)) (s.take a) most cap) => rrepeat_any ib p _ s a n d most cap w2 h1 r2 r3 r5 (by have := HZ.out; omega) HZ.out.2.1 ham2 r6
        have hword := fun w2 (h1 : Env w2 ib c1 v1 c2 v2) (h2 : Inf w2 ib p (pos + (valB (257 + lenP n)).length + spB lenF (lenP n) + 5 + spB disF (disP d)) (s.take (a + n)) most cap) => rword_fix ib c1 v1 c2 v2 p _ (symOf rest) (s.take (a + n)) most cap w2 (sym_lt hl) h1 h2 (sym_says hS3) HZ.out.1
        have HLE2 : Hid (pos + (valB (257 + lenP n)).length + spB lenF (lenP n) + 5 + spB disF (disP d) + (valB (symOf rest)).length ≤ 8 * p.size) := by have := (sym_says hS3).le; show _ ≤ _; simpa using this
        have hMS := valB_length (symOf rest)
        have HI0 : Hid (Inf wr ib p (pos + (valB (257 + lenP n)).length) (s.take a) most cap) := hI
        have HE0 : Hid (Env wr ib c1 v1 c2 v2) := hE
        have HLS := hE.ls
        have HRD := hI.rd
        have HER := hI.err
        have HNX : Hid ((((a + n : Nat) : Int) ≤ most ∨ a + n = 0) → ∀ w3, Inf w3 ib p (pos + (valB (257 + lenP n)).length + spB lenF (lenP n) + 5 + spB disF (disP d) + (valB (symOf rest)).length) (s.take (a + n)) most cap → Env w3 ib c1 v1 c2 v2 → Kp ib 2 wr w3 → RcI ib c1 v1 c2 v2 p s to fin most cap w w3 (symOf rest) (pos + (valB (257 + lenP n)).length + spB lenF (lenP n) + 5 + spB disF (disP d))) := fun hm w3 h1 h2 h3 => ⟨⟨a + n, rest, hl, hS3, by rw [← hfin, toksB_cons, ← hpos2]; simp; omega, rfl, h1, by omega⟩, h2, hK.trans h3⟩
        have HO : Hid (¬ (((a + n : Nat) : Int) ≤ most ∨ a + n = 0) → ∀ w', Kp ib 2 wr w' → Post (.panicked (stopped cap)) w') := fun hm w' k => by
          rw [← hout]
          exact Outs.cap (by omega) (hK.trans k)
        clear hT hS hfin hv hI ham ham2 hE hK hk hl hfit hq hq2 hf1 hf2 hr1 hr2 hSk hbits hSa hSb hSc hSd hb1 hb2 hS3 hpos2 r1 r2 r3 r4 r5 r6
        generalize spB lenF (lenP n) = lb at *
        generalize spB disF (disP d) = db at *
        generalize disP d = dp at *
        generalize (valB (257 + lenP n)).length = vl at *
        generalize lenP n = lp at *
        unfold Outs at hrepc
        by_cases hcap : ((a + n : Nat) : Int) ≤ most ∨ a + n = 0
        · simp only [if_pos hcap] at hrepc
          have HNX2 := HNX.out hcap
          clear HO hcap
          go_wp2_with (first
            | (go_at_call 59; refine (hlenc wr _ (by first | rfl | exact l3 | (unfold wrap64; omega)) HER HRD HLS).mono ?_; rintro e w2 ⟨rfl, hr2, hk2⟩; have hi2 := HI0.out.kr hk2 hr2; have he2 := HE0.out.kp (hk2.kp (by decide)))
            | (go_at_call 58; refine (hword w5 he5 hi5).mono ?_; rintro e w6 ⟨rfl, hi6, he6, hk6⟩)
            | (go_at_call 58; refine (hdisw w2 he2 hi2).mono ?_; rintro e w3 ⟨rfl, hi3, he3, hk3⟩)
            | (go_at_call 60; refine (hdisc w3 hi3.err hi3.rd he3.ds).mono ?_; rintro e w4 ⟨rfl, hr4, hk4⟩; have hi4 := hi3.kr hk4 hr4; have he4 := he3.kp (hk4.kp (by decide)))
            | (go_at_call 61; refine (hrepc w4 hi4).mono ?_; rintro e w5 ⟨rfl, hi5, hk5⟩; have he5 := he4.kp hk5))
          go_roundw
          case rel => exact ⟨symOf rest, _, rfl, HNX2 w6 hi6 he6 ((((hk2.kp (by decide)).trans hk3).trans (hk4.kp (by decide))).trans (hk5.trans hk6))⟩
          case measure => rw [hat]; exact meas_at (by omega) HLE2.out hi6.atOf
        · simp only [if_neg hcap] at hrepc
          have HO2 := HO.out hcap
          clear HNX hcap HO
          go_wp2_with (first
            | (go_at_call 59; refine (hlenc wr _ (by first | rfl | exact l3 | (unfold wrap64; omega)) HER HRD HLS).mono ?_; rintro e w2 ⟨rfl, hr2, hk2⟩; have hi2 := HI0.out.kr hk2 hr2; have he2 := HE0.out.kp (hk2.kp (by decide)))
            | (go_at_call 58; refine (hdisw w2 he2 hi2).mono ?_; rintro e w3 ⟨rfl, hi3, he3, hk3⟩)
            | (go_at_call 60; refine (hdisc w3 hi3.err hi3.rd he3.ds).mono ?_; rintro e w4 ⟨rfl, hr4, hk4⟩; have hi4 := hi3.kr hk4 hr4)
            | (go_at_call 61; refine (hrepc w4 hi4).mono ?_; rintro e w5 ⟨rfl, hk5⟩))
          exact ⟨rfl, HO2 _ ((((hk2.kp (by decide)).trans hk3).trans (hk4.kp (by decide))).trans hk5)⟩
end Go.Proofs.YtohfpmlofjhigaaDoor
