/-
  flate: (*inflater).blocks.
-/
import Derived.Test.YtohfpmlofjhigaaDoorBka
namespace Go.Proofs.YtohfpmlofjhigaaDoor
open Go Go.RowKit Go.Extern.Stop Go.Stop Go.Extern

theorem drewN_add (w : World) (a : Nat) : ∀ b, (w.drewN a).drewN b = w.drewN (a + b)
  | 0 => rfl
  | b + 1 => by
    have := drewN_add w a b
    show ((w.drewN a).drewN b).drew = (w.drewN (a + b)).drew
    rw [this]

set_option maxRecDepth 8000 in
set_option maxHeartbeats 4000000 in
theorem blocks_any (ib : Nat) (p t : ByteArray) (B : List Bool) (most : Int) (cap : Value) (w : World) (hI : Inf w ib p 0 [] most cap) (hnil : w.cell? ⟨ib, 2, none⟩ = some (.slice none 0 0)) (hp : p.data.toList = pack B) (hB : Rest t 0 0 B) (hS : SpAt w 20 lenF) (hT : SpAt w 21 disF) (hn : 32 ≤ w.heap.size) (hm : 0 ≤ most ∨ t.size = 0) (hz : p.size ≤ 70368744177) (ht : t.size ≤ 1000000) :
    Calls Tryd.prog 22 #[.pointer (some ⟨ib, 0, none⟩)] w fun e w' => Ends ib p t most cap w e w' := by
  have hfx := fixedCodes_any w
  have HST : Hid (∀ w1 c1 v1 c2 v2, Fr w.heap.size w w1 → CodeAt w1 c1 v1 288 fixMany fixVal → CodeAt w1 c2 v2 32 disMany id → w.heap.size ≤ c1 → w.heap.size ≤ v1 → w.heap.size ≤ c2 → w.heap.size ≤ v2 → BkI ib c1 v1 c2 v2 p t B most cap w w1 0) := fun w1 c1 v1 c2 v2 hf h1 h2 g1 g2 g3 g4 => BkI.start hI hnil hp hB hS hT hn hm hf h1 h2 g1 g2 g3 g4
  have HZ : Hid (p.size ≤ 70368744177 ∧ t.size ≤ 1000000 ∧ (B.length + 7) / 8 = p.size) := ⟨hz, ht, by have := congrArg List.length hp; rw [pack_length] at this; rw [← this]; simp⟩
  generalize hout : (fun e w' => Ends ib p t most cap w e w') = Post
  clear hI hnil hp hB hS hT hn hm hz ht
  go_enter Tryd.func22, Tryd.ntmps22
  go_wp2
  refine wp_scope_jumps 0 (fun a' w' => ∃ (c1 v1 c2 v2 pos : Nat) (u4 u9 u10 u11 u12 u13 u14 u15 u16 u17 u18 u19 u20 u21 u22 u23 u24 u25 u26 u27 u28 u29 u30 u31 u32 u33 u34 u35 u36 u37 u38 u39 u40 u41 u42 u43 u44 u45 : Value), a' = { tmps := #[.pointer (some ⟨ib, 0, none⟩), undef, .pointer (some ⟨c1, 0, none⟩), .pointer (some ⟨c2, 0, none⟩), u4, .tuple #[.pointer (some ⟨c1, 0, none⟩), .pointer (some ⟨c2, 0, none⟩)], .tuple #[.pointer (some ⟨c1, 0, none⟩), .pointer (some ⟨c2, 0, none⟩)], .pointer (some ⟨c1, 0, none⟩), .pointer (some ⟨c2, 0, none⟩), u9, u10, u11, u12, u13, u14, u15, u16, u17, u18, u19, u20, u21, u22, u23, u24, u25, u26, u27, u28, u29, u30, u31, u32, u33, u34, u35, u36, u37, u38, u39, u40, u41, u42, u43, u44, u45], defers := [] } ∧ BkI ib c1 v1 c2 v2 p t B most cap w w' pos) (fun _ w' => 8 * p.size + 64 - atOf w' ib) rfl ?_ ?_
  · go_wp2_with (go_at_call 36; refine hfx.mono ?_; rintro e w1 ⟨c1, v1, c2, v2, rfl, hc1, hc2, hf1, g1, g2, g3, g4⟩)
    go_step3
    obtain ⟨pos, HBI⟩ : ∃ pos, Hid (BkI ib c1 v1 c2 v2 p t B most cap w w1 pos) := ⟨0, HST.out w1 c1 v1 c2 v2 hf1 hc1 hc2 g1 g2 g3 g4⟩
    clear hfx HST hc1 hc2 hf1 g1 g2 g3 g4
    obtain ⟨⟨a, l, hR, hS, hlen, hinf, ham⟩, hE, hkb, how⟩ := HBI.out
    obtain ⟨to, k, r, hk, rfl, hor⟩ := rest_cases hR
    have hzz := HZ.out
    have hto1 := hk.le
    have hpl : p.data.toList.length = p.size := by simp
    clear HBI
    cases k with
    | fixed toks =>
      have e : blkB t a to pos (.fixed toks) = decide (to = t.size) :: lowB 1 2 ++ (toksB toks ++ valB 256) := by simp [blkB]
      have hS1 := hS
      rw [e] at hS1
      obtain ⟨s1, s2, s3, -, -⟩ := head_says hS1
      rw [hpl] at s2
      have hbit := rbit_any ib p pos cap w1 hinf.err hinf.rd s2 (by omega)
      rw [s1] at hbit
      have hnum := fun w2 (h1 : FErr w2 cap) (h2 : Rd w2 ib p (pos + 1)) => rnumber_any ib p (pos + 1) (lowB 1 2) 2 cap w2 hinf.base rfl (by decide) h1 h2 s3 (by omega)
      rw [numB_lowB _ _ (by decide), lowB_length] at hnum
      have hblk := fun w3 he hi => blk_fixed ib c1 v1 c2 v2 p t a to pos toks r most cap hk hS hzz.1 hzz.2.1 ham w3 he hi
      have hle3 : 3 ≤ (blkB t a to pos (.fixed toks)).length := by rw [e]; simp
      have HLE : Hid (pos + (blkB t a to pos (.fixed toks)).length ≤ 8 * p.size) := by have := hS.left.le; rw [hpl] at this; exact this
      have HINF : Hid (Inf w1 ib p pos (t.data.toList.take a) most cap) := hinf
      have HENV : Hid (Env w1 ib c1 v1 c2 v2) := hE
      have hat := hinf.atOf
      have HNX : Hid (((to : Int) ≤ most ∨ to = 0) → to < t.size → ∀ w', Kp ib 2 w1 w' → Inf w' ib p (pos + (blkB t a to pos (.fixed toks)).length) (t.data.toList.take to) most cap → BkI ib c1 v1 c2 v2 p t B most cap w w' (pos + (blkB t a to pos (.fixed toks)).length)) := fun hm ht w' k h => by
        rcases hor with ⟨h1, _⟩ | ⟨_, h2⟩
        · omega
        · exact BkI.next hkb how hE hS hlen h2 (by have := hk.ft; omega) k h
      have HFIN : Hid (to = t.size → pos + (blkB t a to pos (.fixed toks)).length = B.length) := fun ht => by
        rcases hor with ⟨_, h2⟩ | ⟨h1, _⟩
        · rw [← hlen, h2]; simp
        · omega
      have HKB : Hid (∀ w', Kp ib 2 w1 w' → Kb ib w w') := fun w' k => hkb.kp k how
      generalize (blkB t a to pos (.fixed toks)).length = bl at *
      unfold Outs at hblk
      clear hS1 s1 s2 s3 hS hlen hinf ham hE hkb how hor hk e hR
      by_cases hcap : (to : Int) ≤ most ∨ to = 0
      · simp only [if_pos hcap] at hblk
        by_cases hto : to = t.size
        · have hd : decide (to = t.size) = true := by simpa using hto
          rw [hd] at hbit
          have HTO : Hid (to = t.size) := hto
          clear hto hd HNX
          go_wp2_with (first
            | (go_at_call 37; refine hbit.mono ?_; rintro e w2 ⟨rfl, hr2, hk2⟩; have hi2 := HINF.out.kr hk2 hr2)
            | (go_at_call 38; refine (hnum w2 hi2.err hr2).mono ?_; rintro e w3 ⟨rfl, hr3, hk3⟩; have hi3 := hi2.kr hk3 hr3; have he3 := (HENV.out.kp (hk2.kp (by decide))).kp (hk3.kp (by decide)); clear hnum)
            | (go_at_call 40; refine (hblk w3 he3 hi3).mono ?_; rintro e w4 ⟨rfl, hi4, hk4⟩))
          obtain ⟨bv, hbv⟩ := hi4.err.behind
          have hend := fun W (hr : Rd W ib p (pos + bl)) => isAtEnd_yes ib p (pos + bl) W hr (by have := HLE.out; omega) (by rw [HFIN.out HTO.out]; exact hzz.2.2)
          have HRD : Hid (Rd w4 ib p (pos + bl)) := hi4.rd
          have HO : Hid (∀ n, Post (.returned (.tuple #[])) (w4.drewN n)) := fun n => by
            rw [← hout]
            show Ends ib p t most cap w _ _
            unfold Ends
            have hto := HTO.out
            rw [if_pos (by omega)]
            refine ⟨rfl, ⟨pos + bl, ?_⟩, HKB.out _ ((hk2.kp (by decide)).trans ((hk3.kp (by decide)).trans (hk4.trans ((Kr.drewN _ _ _).kp (by decide)))))⟩
            have := hi4.drewN n
            rw [hto, List.take_of_length_le (by simp)] at this
            exact this
          clear hi4 hi2 hi3 he3 hk2 hk3 hk4 hr2 hr3 hblk HFIN hcap hbit
          go_quiet (first
            | (go_at_call 44; refine (hend _ (HRD.out.drewN _)).mono ?_; rintro e w9 ⟨rfl, n, rfl⟩; exact ⟨rfl, _, drewN_add _ _ _⟩)
            | (go_at_call 43; exact Calls.quiet_of_same (unless_true _ _ _)))
          change Exit.jump 0 _ _ Exit.normal _ _
          unfold Exit.jump
          simp only []
          go_end0
          exact HO.out _
        · have hd : decide (to = t.size) = false := by simpa using hto
          rw [hd] at hbit
          have HLT : Hid (to < t.size) := by show to < t.size; omega
          clear hto hd HFIN
          go_wp2_with (first
            | (go_at_call 37; refine hbit.mono ?_; rintro e w2 ⟨rfl, hr2, hk2⟩; have hi2 := HINF.out.kr hk2 hr2)
            | (go_at_call 38; refine (hnum w2 hi2.err hr2).mono ?_; rintro e w3 ⟨rfl, hr3, hk3⟩; have hi3 := hi2.kr hk3 hr3; have he3 := (HENV.out.kp (hk2.kp (by decide))).kp (hk3.kp (by decide)); clear hnum)
            | (go_at_call 40; refine (hblk w3 he3 hi3).mono ?_; rintro e w4 ⟨rfl, hi4, hk4⟩))
          go_step3
          exact ⟨rfl, c1, v1, c2, v2, pos + bl, _, _, _, _, _, _, _, _, _, _, _, _, _, _, _, _, _, _, _, _, _, _, _, _, _, _, _, _, _, _, _, _, _, _, _, _, _, _, rfl, HNX.out hcap HLT.out w4 ((hk2.kp (by decide)).trans ((hk3.kp (by decide)).trans hk4)) hi4⟩
      · simp only [if_neg hcap] at hblk
        have HO : Hid (∀ w', Kp ib 2 w1 w' → Post (.panicked (stopped cap)) w') := fun w' k => by
          rw [← hout]
          show Ends ib p t most cap w _ _
          unfold Ends
          rw [if_neg (by omega)]
          exact ⟨rfl, HKB.out w' k⟩
        clear HNX HFIN hcap
        go_wp2_with (first
            | (go_at_call 37; refine hbit.mono ?_; rintro e w2 ⟨rfl, hr2, hk2⟩; have hi2 := HINF.out.kr hk2 hr2)
            | (go_at_call 38; refine (hnum w2 hi2.err hr2).mono ?_; rintro e w3 ⟨rfl, hr3, hk3⟩; have hi3 := hi2.kr hk3 hr3; have he3 := (HENV.out.kp (hk2.kp (by decide))).kp (hk3.kp (by decide)); clear hnum)
            | (go_at_call 40; refine (hblk w3 he3 hi3).mono ?_; rintro e w4 ⟨rfl, hk4⟩))
        exact ⟨rfl, HO.out _ ((hk2.kp (by decide)).trans ((hk3.kp (by decide)).trans hk4))⟩
    | stored =>
      have e : blkB t a to pos (.stored) = decide (to = t.size) :: lowB 0 2 ++ storB (pos + 3) (part t a to) := rfl
      have hS1 := hS
      rw [e] at hS1
      obtain ⟨s1, s2, s3, -, -⟩ := head_says hS1
      rw [hpl] at s2
      have hbit := rbit_any ib p pos cap w1 hinf.err hinf.rd s2 (by omega)
      rw [s1] at hbit
      have hnum := fun w2 (h1 : FErr w2 cap) (h2 : Rd w2 ib p (pos + 1)) => rnumber_any ib p (pos + 1) (lowB 0 2) 2 cap w2 hinf.base rfl (by decide) h1 h2 s3 (by omega)
      rw [numB_lowB _ _ (by decide), lowB_length] at hnum
      have hblk := fun w3 hi => blk_stored ib p t a to pos r most cap hk hS hzz.1 hzz.2.1 ham w3 hi
      have hle3 : 3 ≤ (blkB t a to pos (.stored)).length := by rw [e]; simp
      have HLE : Hid (pos + (blkB t a to pos (.stored)).length ≤ 8 * p.size) := by have := hS.left.le; rw [hpl] at this; exact this
      have HINF : Hid (Inf w1 ib p pos (t.data.toList.take a) most cap) := hinf
      have HENV : Hid (Env w1 ib c1 v1 c2 v2) := hE
      have hat := hinf.atOf
      have HNX : Hid (((to : Int) ≤ most ∨ to = 0) → to < t.size → ∀ w', Kp ib 2 w1 w' → Inf w' ib p (pos + (blkB t a to pos (.stored)).length) (t.data.toList.take to) most cap → BkI ib c1 v1 c2 v2 p t B most cap w w' (pos + (blkB t a to pos (.stored)).length)) := fun hm ht w' k h => by
        rcases hor with ⟨h1, _⟩ | ⟨_, h2⟩
        · omega
        · exact BkI.next hkb how hE hS hlen h2 (by have := hk.ft; omega) k h
      have HFIN : Hid (to = t.size → pos + (blkB t a to pos (.stored)).length = B.length) := fun ht => by
        rcases hor with ⟨_, h2⟩ | ⟨h1, _⟩
        · rw [← hlen, h2]; simp
        · omega
      have HKB : Hid (∀ w', Kp ib 2 w1 w' → Kb ib w w') := fun w' k => hkb.kp k how
      generalize (blkB t a to pos (.stored)).length = bl at *
      unfold Outs at hblk
      clear hS1 s1 s2 s3 hS hlen hinf ham hE hkb how hor hk e hR
      by_cases hcap : (to : Int) ≤ most ∨ to = 0
      · simp only [if_pos hcap] at hblk
        by_cases hto : to = t.size
        · have hd : decide (to = t.size) = true := by simpa using hto
          rw [hd] at hbit
          have HTO : Hid (to = t.size) := hto
          clear hto hd HNX
          go_wp2_with (first
            | (go_at_call 37; refine hbit.mono ?_; rintro e w2 ⟨rfl, hr2, hk2⟩; have hi2 := HINF.out.kr hk2 hr2)
            | (go_at_call 38; refine (hnum w2 hi2.err hr2).mono ?_; rintro e w3 ⟨rfl, hr3, hk3⟩; have hi3 := hi2.kr hk3 hr3; have he3 := (HENV.out.kp (hk2.kp (by decide))).kp (hk3.kp (by decide)); clear hnum)
            | (go_at_call 39; refine (hblk w3 hi3).mono ?_; rintro e w4 ⟨rfl, hi4, hk4⟩))
          obtain ⟨bv, hbv⟩ := hi4.err.behind
          have hend := fun W (hr : Rd W ib p (pos + bl)) => isAtEnd_yes ib p (pos + bl) W hr (by have := HLE.out; omega) (by rw [HFIN.out HTO.out]; exact hzz.2.2)
          have HRD : Hid (Rd w4 ib p (pos + bl)) := hi4.rd
          have HO : Hid (∀ n, Post (.returned (.tuple #[])) (w4.drewN n)) := fun n => by
            rw [← hout]
            show Ends ib p t most cap w _ _
            unfold Ends
            have hto := HTO.out
            rw [if_pos (by omega)]
            refine ⟨rfl, ⟨pos + bl, ?_⟩, HKB.out _ ((hk2.kp (by decide)).trans ((hk3.kp (by decide)).trans (hk4.trans ((Kr.drewN _ _ _).kp (by decide)))))⟩
            have := hi4.drewN n
            rw [hto, List.take_of_length_le (by simp)] at this
            exact this
          clear hi4 hi2 hi3 he3 hk2 hk3 hk4 hr2 hr3 hblk HFIN hcap hbit
          go_quiet (first
            | (go_at_call 44; refine (hend _ (HRD.out.drewN _)).mono ?_; rintro e w9 ⟨rfl, n, rfl⟩; exact ⟨rfl, _, drewN_add _ _ _⟩)
            | (go_at_call 43; exact Calls.quiet_of_same (unless_true _ _ _)))
          change Exit.jump 0 _ _ Exit.normal _ _
          unfold Exit.jump
          simp only []
          go_end0
          exact HO.out _
        · have hd : decide (to = t.size) = false := by simpa using hto
          rw [hd] at hbit
          have HLT : Hid (to < t.size) := by show to < t.size; omega
          clear hto hd HFIN
          go_wp2_with (first
            | (go_at_call 37; refine hbit.mono ?_; rintro e w2 ⟨rfl, hr2, hk2⟩; have hi2 := HINF.out.kr hk2 hr2)
            | (go_at_call 38; refine (hnum w2 hi2.err hr2).mono ?_; rintro e w3 ⟨rfl, hr3, hk3⟩; have hi3 := hi2.kr hk3 hr3; have he3 := (HENV.out.kp (hk2.kp (by decide))).kp (hk3.kp (by decide)); clear hnum)
            | (go_at_call 39; refine (hblk w3 hi3).mono ?_; rintro e w4 ⟨rfl, hi4, hk4⟩))
          go_step3
          exact ⟨rfl, c1, v1, c2, v2, pos + bl, _, _, _, _, _, _, _, _, _, _, _, _, _, _, _, _, _, _, _, _, _, _, _, _, _, _, _, _, _, _, _, _, _, _, _, _, _, _, rfl, HNX.out hcap HLT.out w4 ((hk2.kp (by decide)).trans ((hk3.kp (by decide)).trans hk4)) hi4⟩
      · simp only [if_neg hcap] at hblk
        have HO : Hid (∀ w', Kp ib 2 w1 w' → Post (.panicked (stopped cap)) w') := fun w' k => by
          rw [← hout]
          show Ends ib p t most cap w _ _
          unfold Ends
          rw [if_neg (by omega)]
          exact ⟨rfl, HKB.out w' k⟩
        clear HNX HFIN hcap
        go_wp2_with (first
            | (go_at_call 37; refine hbit.mono ?_; rintro e w2 ⟨rfl, hr2, hk2⟩; have hi2 := HINF.out.kr hk2 hr2)
            | (go_at_call 38; refine (hnum w2 hi2.err hr2).mono ?_; rintro e w3 ⟨rfl, hr3, hk3⟩; have hi3 := hi2.kr hk3 hr3; have he3 := (HENV.out.kp (hk2.kp (by decide))).kp (hk3.kp (by decide)); clear hnum)
            | (go_at_call 39; refine (hblk w3 hi3).mono ?_; rintro e w4 ⟨rfl, hk4⟩))
        exact ⟨rfl, HO.out _ ((hk2.kp (by decide)).trans ((hk3.kp (by decide)).trans hk4))⟩
  · rintro a' wr ⟨c1, v1, c2, v2, pos, u4, u9, u10, u11, u12, u13, u14, u15, u16, u17, u18, u19, u20, u21, u22, u23, u24, u25, u26, u27, u28, u29, u30, u31, u32, u33, u34, u35, u36, u37, u38, u39, u40, u41, u42, u43, u44, u45, rfl, hbi⟩
    have HBI : Hid (BkI ib c1 v1 c2 v2 p t B most cap w wr pos) := hbi
    clear hfx HST hbi
    obtain ⟨⟨a, l, hR, hS, hlen, hinf, ham⟩, hE, hkb, how⟩ := HBI.out
    obtain ⟨to, k, r, hk, rfl, hor⟩ := rest_cases hR
    have hzz := HZ.out
    have hto1 := hk.le
    have hpl : p.data.toList.length = p.size := by simp
    clear HBI
    cases k with
    | fixed toks =>
      have e : blkB t a to pos (.fixed toks) = decide (to = t.size) :: lowB 1 2 ++ (toksB toks ++ valB 256) := by simp [blkB]
      have hS1 := hS
      rw [e] at hS1
      obtain ⟨s1, s2, s3, -, -⟩ := head_says hS1
      rw [hpl] at s2
      have hbit := rbit_any ib p pos cap wr hinf.err hinf.rd s2 (by omega)
      rw [s1] at hbit
      have hnum := fun w2 (h1 : FErr w2 cap) (h2 : Rd w2 ib p (pos + 1)) => rnumber_any ib p (pos + 1) (lowB 1 2) 2 cap w2 hinf.base rfl (by decide) h1 h2 s3 (by omega)
      rw [numB_lowB _ _ (by decide), lowB_length] at hnum
      have hblk := fun w3 he hi => blk_fixed ib c1 v1 c2 v2 p t a to pos toks r most cap hk hS hzz.1 hzz.2.1 ham w3 he hi
      have hle3 : 3 ≤ (blkB t a to pos (.fixed toks)).length := by rw [e]; simp
      have HLE : Hid (pos + (blkB t a to pos (.fixed toks)).length ≤ 8 * p.size) := by have := hS.left.le; rw [hpl] at this; exact this
      have HINF : Hid (Inf wr ib p pos (t.data.toList.take a) most cap) := hinf
      have HENV : Hid (Env wr ib c1 v1 c2 v2) := hE
      have hat := hinf.atOf
      have HNX : Hid (((to : Int) ≤ most ∨ to = 0) → to < t.size → ∀ w', Kp ib 2 wr w' → Inf w' ib p (pos + (blkB t a to pos (.fixed toks)).length) (t.data.toList.take to) most cap → BkI ib c1 v1 c2 v2 p t B most cap w w' (pos + (blkB t a to pos (.fixed toks)).length)) := fun hm ht w' k h => by
        rcases hor with ⟨h1, _⟩ | ⟨_, h2⟩
        · omega
        · exact BkI.next hkb how hE hS hlen h2 (by have := hk.ft; omega) k h
      have HFIN : Hid (to = t.size → pos + (blkB t a to pos (.fixed toks)).length = B.length) := fun ht => by
        rcases hor with ⟨_, h2⟩ | ⟨h1, _⟩
        · rw [← hlen, h2]; simp
        · omega
      have HKB : Hid (∀ w', Kp ib 2 wr w' → Kb ib w w') := fun w' k => hkb.kp k how
      generalize (blkB t a to pos (.fixed toks)).length = bl at *
      unfold Outs at hblk
      clear hS1 s1 s2 s3 hS hlen hinf ham hE hkb how hor hk e hR
      by_cases hcap : (to : Int) ≤ most ∨ to = 0
      · simp only [if_pos hcap] at hblk
        by_cases hto : to = t.size
        · have hd : decide (to = t.size) = true := by simpa using hto
          rw [hd] at hbit
          have HTO : Hid (to = t.size) := hto
          clear hto hd HNX
          go_wp2_with (first
            | (go_at_call 37; refine hbit.mono ?_; rintro e w2 ⟨rfl, hr2, hk2⟩; have hi2 := HINF.out.kr hk2 hr2)
            | (go_at_call 38; refine (hnum w2 hi2.err hr2).mono ?_; rintro e w3 ⟨rfl, hr3, hk3⟩; have hi3 := hi2.kr hk3 hr3; have he3 := (HENV.out.kp (hk2.kp (by decide))).kp (hk3.kp (by decide)); clear hnum)
            | (go_at_call 40; refine (hblk w3 he3 hi3).mono ?_; rintro e w4 ⟨rfl, hi4, hk4⟩))
          obtain ⟨bv, hbv⟩ := hi4.err.behind
          have hend := fun W (hr : Rd W ib p (pos + bl)) => isAtEnd_yes ib p (pos + bl) W hr (by have := HLE.out; omega) (by rw [HFIN.out HTO.out]; exact hzz.2.2)
          have HRD : Hid (Rd w4 ib p (pos + bl)) := hi4.rd
          have HO : Hid (∀ n, Post (.returned (.tuple #[])) (w4.drewN n)) := fun n => by
            rw [← hout]
            show Ends ib p t most cap w _ _
            unfold Ends
            have hto := HTO.out
            rw [if_pos (by omega)]
            refine ⟨rfl, ⟨pos + bl, ?_⟩, HKB.out _ ((hk2.kp (by decide)).trans ((hk3.kp (by decide)).trans (hk4.trans ((Kr.drewN _ _ _).kp (by decide)))))⟩
            have := hi4.drewN n
            rw [hto, List.take_of_length_le (by simp)] at this
            exact this
          clear hi4 hi2 hi3 he3 hk2 hk3 hk4 hr2 hr3 hblk HFIN hcap hbit
          go_quiet (first
            | (go_at_call 44; refine (hend _ (HRD.out.drewN _)).mono ?_; rintro e w9 ⟨rfl, n, rfl⟩; exact ⟨rfl, _, drewN_add _ _ _⟩)
            | (go_at_call 43; exact Calls.quiet_of_same (unless_true _ _ _)))
          change Exit.jump 0 _ _ Exit.normal _ _
          unfold Exit.jump
          simp only []
          go_end0
          exact HO.out _
        · have hd : decide (to = t.size) = false := by simpa using hto
          rw [hd] at hbit
          have HLT : Hid (to < t.size) := by show to < t.size; omega
          clear hto hd HFIN
          go_wp2_with (first
            | (go_at_call 37; refine hbit.mono ?_; rintro e w2 ⟨rfl, hr2, hk2⟩; have hi2 := HINF.out.kr hk2 hr2)
            | (go_at_call 38; refine (hnum w2 hi2.err hr2).mono ?_; rintro e w3 ⟨rfl, hr3, hk3⟩; have hi3 := hi2.kr hk3 hr3; have he3 := (HENV.out.kp (hk2.kp (by decide))).kp (hk3.kp (by decide)); clear hnum)
            | (go_at_call 40; refine (hblk w3 he3 hi3).mono ?_; rintro e w4 ⟨rfl, hi4, hk4⟩))
          go_step3
          exact ⟨rfl, ⟨c1, v1, c2, v2, pos + bl, _, _, _, _, _, _, _, _, _, _, _, _, _, _, _, _, _, _, _, _, _, _, _, _, _, _, _, _, _, _, _, _, _, _, _, _, _, _, rfl, HNX.out hcap HLT.out w4 ((hk2.kp (by decide)).trans ((hk3.kp (by decide)).trans hk4)) hi4⟩, by rw [hi4.atOf, hat]; have := HLE.out; omega⟩
      · simp only [if_neg hcap] at hblk
        have HO : Hid (∀ w', Kp ib 2 wr w' → Post (.panicked (stopped cap)) w') := fun w' k => by
          rw [← hout]
          show Ends ib p t most cap w _ _
          unfold Ends
          rw [if_neg (by omega)]
          exact ⟨rfl, HKB.out w' k⟩
        clear HNX HFIN hcap
        go_wp2_with (first
            | (go_at_call 37; refine hbit.mono ?_; rintro e w2 ⟨rfl, hr2, hk2⟩; have hi2 := HINF.out.kr hk2 hr2)
            | (go_at_call 38; refine (hnum w2 hi2.err hr2).mono ?_; rintro e w3 ⟨rfl, hr3, hk3⟩; have hi3 := hi2.kr hk3 hr3; have he3 := (HENV.out.kp (hk2.kp (by decide))).kp (hk3.kp (by decide)); clear hnum)
            | (go_at_call 40; refine (hblk w3 he3 hi3).mono ?_; rintro e w4 ⟨rfl, hk4⟩))
        exact ⟨rfl, HO.out _ ((hk2.kp (by decide)).trans ((hk3.kp (by decide)).trans hk4))⟩
    | stored =>
      have e : blkB t a to pos (.stored) = decide (to = t.size) :: lowB 0 2 ++ storB (pos + 3) (part t a to) := rfl
      have hS1 := hS
      rw [e] at hS1
      obtain ⟨s1, s2, s3, -, -⟩ := head_says hS1
      rw [hpl] at s2
      have hbit := rbit_any ib p pos cap wr hinf.err hinf.rd s2 (by omega)
      rw [s1] at hbit
      have hnum := fun w2 (h1 : FErr w2 cap) (h2 : Rd w2 ib p (pos + 1)) => rnumber_any ib p (pos + 1) (lowB 0 2) 2 cap w2 hinf.base rfl (by decide) h1 h2 s3 (by omega)
      rw [numB_lowB _ _ (by decide), lowB_length] at hnum
      have hblk := fun w3 hi => blk_stored ib p t a to pos r most cap hk hS hzz.1 hzz.2.1 ham w3 hi
      have hle3 : 3 ≤ (blkB t a to pos (.stored)).length := by rw [e]; simp
      have HLE : Hid (pos + (blkB t a to pos (.stored)).length ≤ 8 * p.size) := by have := hS.left.le; rw [hpl] at this; exact this
      have HINF : Hid (Inf wr ib p pos (t.data.toList.take a) most cap) := hinf
      have HENV : Hid (Env wr ib c1 v1 c2 v2) := hE
      have hat := hinf.atOf
      have HNX : Hid (((to : Int) ≤ most ∨ to = 0) → to < t.size → ∀ w', Kp ib 2 wr w' → Inf w' ib p (pos + (blkB t a to pos (.stored)).length) (t.data.toList.take to) most cap → BkI ib c1 v1 c2 v2 p t B most cap w w' (pos + (blkB t a to pos (.stored)).length)) := fun hm ht w' k h => by
        rcases hor with ⟨h1, _⟩ | ⟨_, h2⟩
        · omega
        · exact BkI.next hkb how hE hS hlen h2 (by have := hk.ft; omega) k h
      have HFIN : Hid (to = t.size → pos + (blkB t a to pos (.stored)).length = B.length) := fun ht => by
        rcases hor with ⟨_, h2⟩ | ⟨h1, _⟩
        · rw [← hlen, h2]; simp
        · omega
      have HKB : Hid (∀ w', Kp ib 2 wr w' → Kb ib w w') := fun w' k => hkb.kp k how
      generalize (blkB t a to pos (.stored)).length = bl at *
      unfold Outs at hblk
      clear hS1 s1 s2 s3 hS hlen hinf ham hE hkb how hor hk e hR
      by_cases hcap : (to : Int) ≤ most ∨ to = 0
      · simp only [if_pos hcap] at hblk
        by_cases hto : to = t.size
        · have hd : decide (to = t.size) = true := by simpa using hto
          rw [hd] at hbit
          have HTO : Hid (to = t.size) := hto
          clear hto hd HNX
          go_wp2_with (first
            | (go_at_call 37; refine hbit.mono ?_; rintro e w2 ⟨rfl, hr2, hk2⟩; have hi2 := HINF.out.kr hk2 hr2)
            | (go_at_call 38; refine (hnum w2 hi2.err hr2).mono ?_; rintro e w3 ⟨rfl, hr3, hk3⟩; have hi3 := hi2.kr hk3 hr3; have he3 := (HENV.out.kp (hk2.kp (by decide))).kp (hk3.kp (by decide)); clear hnum)
            | (go_at_call 39; refine (hblk w3 hi3).mono ?_; rintro e w4 ⟨rfl, hi4, hk4⟩))
          obtain ⟨bv, hbv⟩ := hi4.err.behind
          have hend := fun W (hr : Rd W ib p (pos + bl)) => isAtEnd_yes ib p (pos + bl) W hr (by have := HLE.out; omega) (by rw [HFIN.out HTO.out]; exact hzz.2.2)
          have HRD : Hid (Rd w4 ib p (pos + bl)) := hi4.rd
          have HO : Hid (∀ n, Post (.returned (.tuple #[])) (w4.drewN n)) := fun n => by
            rw [← hout]
            show Ends ib p t most cap w _ _
            unfold Ends
            have hto := HTO.out
            rw [if_pos (by omega)]
            refine ⟨rfl, ⟨pos + bl, ?_⟩, HKB.out _ ((hk2.kp (by decide)).trans ((hk3.kp (by decide)).trans (hk4.trans ((Kr.drewN _ _ _).kp (by decide)))))⟩
            have := hi4.drewN n
            rw [hto, List.take_of_length_le (by simp)] at this
            exact this
          clear hi4 hi2 hi3 he3 hk2 hk3 hk4 hr2 hr3 hblk HFIN hcap hbit
          go_quiet (first
            | (go_at_call 44; refine (hend _ (HRD.out.drewN _)).mono ?_; rintro e w9 ⟨rfl, n, rfl⟩; exact ⟨rfl, _, drewN_add _ _ _⟩)
            | (go_at_call 43; exact Calls.quiet_of_same (unless_true _ _ _)))
          change Exit.jump 0 _ _ Exit.normal _ _
          unfold Exit.jump
          simp only []
          go_end0
          exact HO.out _
        · have hd : decide (to = t.size) = false := by simpa using hto
          rw [hd] at hbit
          have HLT : Hid (to < t.size) := by show to < t.size; omega
          clear hto hd HFIN
          go_wp2_with (first
            | (go_at_call 37; refine hbit.mono ?_; rintro e w2 ⟨rfl, hr2, hk2⟩; have hi2 := HINF.out.kr hk2 hr2)
            | (go_at_call 38; refine (hnum w2 hi2.err hr2).mono ?_; rintro e w3 ⟨rfl, hr3, hk3⟩; have hi3 := hi2.kr hk3 hr3; have he3 := (HENV.out.kp (hk2.kp (by decide))).kp (hk3.kp (by decide)); clear hnum)
            | (go_at_call 39; refine (hblk w3 hi3).mono ?_; rintro e w4 ⟨rfl, hi4, hk4⟩))
          go_step3
          exact ⟨rfl, ⟨c1, v1, c2, v2, pos + bl, _, _, _, _, _, _, _, _, _, _, _, _, _, _, _, _, _, _, _, _, _, _, _, _, _, _, _, _, _, _, _, _, _, _, _, _, _, _, rfl, HNX.out hcap HLT.out w4 ((hk2.kp (by decide)).trans ((hk3.kp (by decide)).trans hk4)) hi4⟩, by rw [hi4.atOf, hat]; have := HLE.out; omega⟩
      · simp only [if_neg hcap] at hblk
        have HO : Hid (∀ w', Kp ib 2 wr w' → Post (.panicked (stopped cap)) w') := fun w' k => by
          rw [← hout]
          show Ends ib p t most cap w _ _
          unfold Ends
          rw [if_neg (by omega)]
          exact ⟨rfl, HKB.out w' k⟩
        clear HNX HFIN hcap
        go_wp2_with (first
            | (go_at_call 37; refine hbit.mono ?_; rintro e w2 ⟨rfl, hr2, hk2⟩; have hi2 := HINF.out.kr hk2 hr2)
            | (go_at_call 38; refine (hnum w2 hi2.err hr2).mono ?_; rintro e w3 ⟨rfl, hr3, hk3⟩; have hi3 := hi2.kr hk3 hr3; have he3 := (HENV.out.kp (hk2.kp (by decide))).kp (hk3.kp (by decide)); clear hnum)
            | (go_at_call 39; refine (hblk w3 hi3).mono ?_; rintro e w4 ⟨rfl, hk4⟩))
        exact ⟨rfl, HO.out _ ((hk2.kp (by decide)).trans ((hk3.kp (by decide)).trans hk4))⟩
end Go.Proofs.YtohfpmlofjhigaaDoor
