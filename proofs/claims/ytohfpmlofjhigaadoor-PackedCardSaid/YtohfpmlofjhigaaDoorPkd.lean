/-
  avrokeep.Packed.
-/
import Derived.Test.YtohfpmlofjhigaaDoorTop
import Derived.Test.YtohfpmlofjhigaaDoorKeep
import Derived.Test.YtohfpmlofjhigaaDoorRpx
namespace Go.Proofs.YtohfpmlofjhigaaDoor
open Go Go.RowKit Go.Extern.Stop Go.Stop Go.Extern

/-- What the calls ask of memory. -/
structure Stand (a : Nat → Addr) (b : Addr) (w : World) : Prop where
  err : FErr w (.iface 131 (.pointer (some b)))
  met : Met a w
  ls : SpAt w 20 lenF
  ds : SpAt w 21 disF
  ng : 32 ≤ w.heap.size
theorem Stand.fr {a : Nat → Addr} {b : Addr} {w w' : World} (h : Stand a b w) (k : Fr w.heap.size w w') : Stand a b w' :=
  ⟨h.err.fr k h.ng, h.met.ext (Ext.of_fr k), h.ls.carry (k.old _ (Nat.lt_of_lt_of_le (by decide) h.ng)), h.ds.carry (k.old _ (Nat.lt_of_lt_of_le (by decide) h.ng)), Nat.le_trans h.ng k.size⟩
theorem defl_len {t : ByteArray} {B : List Bool} (h : Defl t B) (ht : t.size ≤ 1000000) : B.length ≤ 1000000000 := by have := h.most; omega
/-- What says the same again and again is short. -/
theorem defl_short {t : ByteArray} {j : Nat} {B : List Bool} (ht : t.size ≤ 64) (hj : j ≤ 300) (h : Defl (rp t j) B) : (strOf (pack B)).size ≤ (rp t j).size / 64 + 100 := by
  have hs := rp_size t j
  have hle : j * t.size ≤ 300 * 64 := Nat.mul_le_mul hj ht
  obtain ⟨l, hl, hb⟩ := h.short (by rw [hs]; omega)
  rw [strOf_size, pack_length]
  by_cases h0 : t.size = 0
  · have h1 : (rp t j).size = 0 := by rw [hs, h0]; simp
    rw [h1] at hl ⊢
    have : l = [] := by
      cases hl with
      | nil => rfl
      | cons hk hl2 =>
        rename_i k l2
        have hf := hk.fits
        cases k with
        | lit b => simp [Tok.len] at hf
        | rep n d => have := (hk.rep n d rfl).1; simp [Tok.len] at hf; omega
    subst this
    simp [toksB] at hb
    omega
  · have := toks_short hl (by omega) ht (fun x h1 h2 => rp_period t j (by omega) x h1 h2)
    omega

set_option maxRecDepth 100000 in
set_option maxHeartbeats 4000000 in
theorem packed_any (a : Nat → Addr) (b : Addr) (sb so n cap : Nat) (K A : Nat → Int) (S : Nat → ByteArray) (w : World) (hn : n ≤ 140737488355328) (hsb : sb < w.heap.size) (hK : ∀ i : Nat, i < n → w.cell? ⟨sb, so + i * 5, none⟩ = some (.int .i64 (K i))) (hA : ∀ i : Nat, i < n → w.cell? ⟨sb, so + i * 5 + 1, none⟩ = some (.int .i64 (A i)) ∧ -9223372036854775808 ≤ A i ∧ A i ≤ 9223372036854775807) (hS : ∀ i : Nat, i < n → w.cell? ⟨sb, so + i * 5 + 4, none⟩ = some (.string (S i))) (hl : ∀ i, i < n → (S i).size ≤ 140737488355328) (hst : Stand a b w) :
    Calls Tryd.prog 3 #[.slice (some ⟨sb, so, none⟩) n cap] w fun e w' => e = .returned (.bool true) ∧ Fr w.heap.size w w' := by
  have hsm := small_any sb so n cap S w hn hS hl
  cases hb : smallB n S with
  | false =>
    rw [hb] at hsm
    clear hn hK hA hS hl hst hb
    go_enter Tryd.func3, Tryd.ntmps3
    go_wp2_with (go_at_call 4; refine hsm.mono ?_; rintro e w1 ⟨rfl, rfl⟩)
    go_ret
    exact ⟨rfl, Fr.refl _ _⟩
  | true =>
    rw [hb] at hsm
    have hsml : n + letters S n ≤ 262144 := by unfold smallB at hb; simpa using hb
    have HN : Hid (n + letters S n ≤ 262144) := hsml
    have HM : Hid ((∀ i : Nat, i < n → w.cell? ⟨sb, so + i * 5, none⟩ = some (.int .i64 (K i))) ∧ (∀ i : Nat, i < n → w.cell? ⟨sb, so + i * 5 + 1, none⟩ = some (.int .i64 (A i)) ∧ -9223372036854775808 ≤ A i ∧ A i ≤ 9223372036854775807) ∧ ∀ i : Nat, i < n → w.cell? ⟨sb, so + i * 5 + 4, none⟩ = some (.string (S i))) := ⟨hK, hA, hS⟩
    have HST : Hid (Stand a b w) := hst
    have hn2 : n ≤ 262144 := by omega
    clear hn hK hA hS hl hst hb hsml
    go_enter Tryd.func3, Tryd.ntmps3
    go_wp2_with (go_at_call 4; refine hsm.mono ?_; rintro e w1 ⟨rfl, rfl⟩)
    go_loopw [4, 5] (fun al cnt wr => ∃ (i : Nat) (all : ByteArray), i ≤ n ∧ cnt = .int .i64 i ∧ al = .string all ∧ all.size ≤ letters S i ∧ Fr w1.heap.size w1 wr) (fun _ cnt _ => n - (intOf cnt).toNat)
    case atStart => exact ⟨0, ⟨#[]⟩, Nat.zero_le _, rfl, rfl, Nat.zero_le _, Fr.refl _ _⟩
    case round =>
      obtain ⟨i, all, hi, rfl, rfl, has, hf⟩ := hrel
      have HF : Hid (Fr w1.heap.size w1 wr) := hf
      have hstr := HST.out.fr hf
      have HSR : Hid (Stand a b wr) := hstr
      clear hf hstr
      by_cases hlt : i < n
      · have hcK := (HF.out.cell hsb).trans (HM.out.1 i hlt)
        obtain ⟨hA0, hA1, hA2⟩ := HM.out.2.1 i hlt
        have hcA := (HF.out.cell hsb).trans hA0
        have hcS := (HF.out.cell hsb).trans (HM.out.2.2 i hlt)
        have hli : ((i : Int) < (n : Int)) = True := by simp; omega
        have hii : (i : Int) < (n : Int) := by omega
        have HI : Hid (i + 1 ≤ n ∧ n - (i + 1) < n - i) := ⟨hlt, by omega⟩
        have hlet : letters S (i + 1) = letters S i + (S i).size := rfl
        have hmono : letters S (i + 1) ≤ letters S n := letters_mono S hlt
        by_cases hk8 : K i = 8
        · rw [hk8] at hcK
          have hSz : (S i).size ≤ 262144 := by have := HN.out; omega
          have HALL : Hid ((all ++ S i).size ≤ letters S (i + 1)) := by show _ ≤ _; rw [ByteArray.size_append]; omega
          have halz : all.size ≤ 262144 := by have := HN.out; omega
          by_cases h64 : 64 < (S i).size
          · have htt : ((S i).extract 0 64).size ≤ 64 := by rw [ByteArray.size_extract]; omega
            have h64i : ((64 : Int) < ((S i).size : Int)) = True := by simp; omega
            have h64j : (64 : Int) ≤ ((S i).size : Int) := by omega
            obtain ⟨ss, hte⟩ : ∃ ss, S i = ss := ⟨_, rfl⟩
            rw [hte] at hcS HALL htt h64i h64j hSz
            clear hlet hmono has hlt hi h64 hte hk8
            have hpk := fun w2 => pick_any (A i) 300 w2 hA1 hA2 (by decide) (by decide)
            obtain ⟨X, HX⟩ : ∃ X : Int, Hid ((if A i < 0 then -(A i + 1) else A i) % 300 = X) := ⟨_, rfl⟩
            have hX0 : 0 ≤ X ∧ X < 300 := by have := HX.out; omega
            rw [HX.out] at hpk
            obtain ⟨q, hq⟩ : ∃ q : Nat, X = q := ⟨X.toNat, by omega⟩
            subst hq
            have hq3 : q < 300 := by omega
            clear hX0 hA0 hA1 hA2 HX
            generalize A i = ai at *
            go_wp2
            generalize ss.extract 0 64 = tt at *
            go_loopw [7, 8] (fun mny cnt wl => ∃ j : Nat, j ≤ 1 + q ∧ cnt = .int .i64 j ∧ mny = .string (rp tt j) ∧ wl = wr) (fun _ cnt _ => 1 + q - (intOf cnt).toNat)
            case atStart => exact ⟨0, Nat.zero_le _, rfl, rfl, rfl⟩
            case round =>
              obtain ⟨j, hj, rfl, rfl, rfl⟩ := hrel
              by_cases hjl : j < 1 + q
              · have hji : ((j : Int) < 1 + (q : Int)) = True := by simp; omega
                have HJ : Hid (j + 1 ≤ 1 + q ∧ 1 + q - (j + 1) < 1 + q - j) := ⟨hjl, by omega⟩
                have hrs := rp_size tt j
                have hrz : (rp tt j).size ≤ 19200 := by rw [hrs]; exact Nat.le_trans (Nat.mul_le_mul (show j ≤ 300 by omega) htt) (by decide)
                clear hj hrs
                go_wp2_with (go_at_call 5; refine (hpk _).mono ?_; rintro e w2 ⟨rfl, rfl⟩)
                exact ⟨⟨j + 1, HJ.out.1, by go_num, rfl, trivial⟩, by simp only [intOf]; exact HJ.out.2⟩
              · have hje : j = 1 + q := by omega
                have hji : ((j : Int) < 1 + (q : Int)) = False := by simp; omega
                have hrs := rp_size tt j
                have hrz : (rp tt j).size ≤ 19200 := by rw [hrs]; exact Nat.le_trans (Nat.mul_le_mul (show j ≤ 300 by omega) htt) (by decide)
                have HSH : Hid (∀ B, Defl (rp tt j) B → (strOf (pack B)).size ≤ (rp tt j).size / 64 + 100) := fun B h => defl_short htt (by omega) h
                have hdef := adeflate_any (rp tt j) wr (by omega) HSR.out.ng HSR.out.ls HSR.out.ds
                have hinf := fun B w2 (hB : Defl (rp tt j) B) (hs : Stand a b w2) => pinflate_ok (rp tt j) B (rp tt j).size _ w2 hB.rest (defl_len hB (by omega)) (by omega) (.inl (Int.le_refl _)) hs.err hs.ng hs.ls hs.ds
                have hinf0 := fun B w2 (hB : Defl (rp tt j) B) (hs : Stand a b w2) (x : Int) (h0 : (rp tt j).size = 0) => pinflate_ok (rp tt j) B x _ w2 hB.rest (defl_len hB (by omega)) (by omega) (.inr h0) hs.err hs.ng hs.ls hs.ds
                have hinf1 := fun B w2 (hB : Defl (rp tt j) B) (hs : Stand a b w2) (x : Int) (hx : x = ((rp tt j).size : Int) - 1) (h0 : (rp tt j).size ≠ 0) => pinflate_cap (rp tt j) B x b a w2 hB.rest (defl_len hB (by omega)) (by omega) (by omega) (by omega) hs.met hs.err hs.ng hs.ls hs.ds
                clear hje hj hjl hrs
                generalize rp tt j = many at *
                by_cases hm0 : many.size = 0
                · have hme : many = ⟨#[]⟩ := by cases many; simpa [ByteArray.size] using hm0
                  subst hme
                  go_wp2_with (first
                    | (go_at_call 5; refine (hpk _).mono ?_; rintro e w2 ⟨rfl, rfl⟩)
                    | (go_at_call 6; refine hdef.mono ?_; rintro e w3 ⟨B, hB, rfl, hf3⟩; have hs3 := HSR.out.fr hf3; have hlp : ((100 : Int) < ((strOf (pack B)).size : Int)) = False := (by have := HSH.out B hB; rw [hm0] at this; simp; omega); clear hdef)
                    | (go_at_call 7; refine (hinf0 B w4 hB hs4 _ hm0).mono ?_; rintro e w5 ⟨rfl, hf5⟩)
                    | (go_at_call 7; refine (hinf B w3 hB hs3).mono ?_; rintro e w4 ⟨rfl, hf4⟩; have hs4 := hs3.fr hf4; clear hinf))
                  all_goals exact ⟨⟨i + 1, all ++ ss, HI.out.1, by go_num, rfl, HALL.out, HF.out.trans ((hf3.mono HF.out.size).trans ((hf4.mono (Nat.le_trans HF.out.size hf3.size)).trans (hf5.mono (Nat.le_trans HF.out.size (Nat.le_trans hf3.size hf4.size)))))⟩, by simp only [intOf]; exact HI.out.2⟩
                · have hme2 : (many = (⟨#[]⟩ : ByteArray)) = False := by simp only [eq_iff_iff, iff_false]; intro e; exact hm0 (by rw [e]; rfl)
                  go_wp2_with (first
                    | (go_at_call 5; refine (hpk _).mono ?_; rintro e w2 ⟨rfl, rfl⟩)
                    | (go_at_call 6; refine hdef.mono ?_; rintro e w3 ⟨B, hB, rfl, hf3⟩; have hs3 := HSR.out.fr hf3; have hlp : ((many.size : Int) / 64 + 100 < ((strOf (pack B)).size : Int)) = False := (by have := HSH.out B hB; simp; omega); clear hdef)
                    | (go_at_call 7; refine (hinf1 B w4 hB hs4 _ (by first | rfl | (unfold wrap64; omega)) hm0).mono ?_; rintro e w5 ⟨rfl, hf5⟩)
                    | (go_at_call 7; refine (hinf B w3 hB hs3).mono ?_; rintro e w4 ⟨rfl, hf4⟩; have hs4 := hs3.fr hf4; clear hinf))
                  all_goals exact ⟨⟨i + 1, all ++ ss, HI.out.1, by go_num, rfl, HALL.out, HF.out.trans ((hf3.mono HF.out.size).trans ((hf4.mono (Nat.le_trans HF.out.size hf3.size)).trans (hf5.mono (Nat.le_trans HF.out.size (Nat.le_trans hf3.size hf4.size)))))⟩, by simp only [intOf]; exact HI.out.2⟩
          · have htt : (S i).size ≤ 64 := by omega
            have h64i : ((64 : Int) < ((S i).size : Int)) = False := by simp; omega
            obtain ⟨tt, hte⟩ : ∃ tt, S i = tt := ⟨_, rfl⟩
            rw [hte] at hcS HALL htt h64i hSz
            clear hlet hmono has hlt hi h64 hte hk8
            have hpk := fun w2 => pick_any (A i) 300 w2 hA1 hA2 (by decide) (by decide)
            obtain ⟨X, HX⟩ : ∃ X : Int, Hid ((if A i < 0 then -(A i + 1) else A i) % 300 = X) := ⟨_, rfl⟩
            have hX0 : 0 ≤ X ∧ X < 300 := by have := HX.out; omega
            rw [HX.out] at hpk
            obtain ⟨q, hq⟩ : ∃ q : Nat, X = q := ⟨X.toNat, by omega⟩
            subst hq
            have hq3 : q < 300 := by omega
            clear hX0 hA0 hA1 hA2 HX
            generalize A i = ai at *
            go_wp2
            go_loopw [7, 8] (fun mny cnt wl => ∃ j : Nat, j ≤ 1 + q ∧ cnt = .int .i64 j ∧ mny = .string (rp tt j) ∧ wl = wr) (fun _ cnt _ => 1 + q - (intOf cnt).toNat)
            case atStart => exact ⟨0, Nat.zero_le _, rfl, rfl, rfl⟩
            case round =>
              obtain ⟨j, hj, rfl, rfl, rfl⟩ := hrel
              by_cases hjl : j < 1 + q
              · have hji : ((j : Int) < 1 + (q : Int)) = True := by simp; omega
                have HJ : Hid (j + 1 ≤ 1 + q ∧ 1 + q - (j + 1) < 1 + q - j) := ⟨hjl, by omega⟩
                have hrs := rp_size tt j
                have hrz : (rp tt j).size ≤ 19200 := by rw [hrs]; exact Nat.le_trans (Nat.mul_le_mul (show j ≤ 300 by omega) htt) (by decide)
                clear hj hrs
                go_wp2_with (go_at_call 5; refine (hpk _).mono ?_; rintro e w2 ⟨rfl, rfl⟩)
                exact ⟨⟨j + 1, HJ.out.1, by go_num, rfl, trivial⟩, by simp only [intOf]; exact HJ.out.2⟩
              · have hje : j = 1 + q := by omega
                have hji : ((j : Int) < 1 + (q : Int)) = False := by simp; omega
                have hrs := rp_size tt j
                have hrz : (rp tt j).size ≤ 19200 := by rw [hrs]; exact Nat.le_trans (Nat.mul_le_mul (show j ≤ 300 by omega) htt) (by decide)
                have HSH : Hid (∀ B, Defl (rp tt j) B → (strOf (pack B)).size ≤ (rp tt j).size / 64 + 100) := fun B h => defl_short htt (by omega) h
                have hdef := adeflate_any (rp tt j) wr (by omega) HSR.out.ng HSR.out.ls HSR.out.ds
                have hinf := fun B w2 (hB : Defl (rp tt j) B) (hs : Stand a b w2) => pinflate_ok (rp tt j) B (rp tt j).size _ w2 hB.rest (defl_len hB (by omega)) (by omega) (.inl (Int.le_refl _)) hs.err hs.ng hs.ls hs.ds
                have hinf0 := fun B w2 (hB : Defl (rp tt j) B) (hs : Stand a b w2) (x : Int) (h0 : (rp tt j).size = 0) => pinflate_ok (rp tt j) B x _ w2 hB.rest (defl_len hB (by omega)) (by omega) (.inr h0) hs.err hs.ng hs.ls hs.ds
                have hinf1 := fun B w2 (hB : Defl (rp tt j) B) (hs : Stand a b w2) (x : Int) (hx : x = ((rp tt j).size : Int) - 1) (h0 : (rp tt j).size ≠ 0) => pinflate_cap (rp tt j) B x b a w2 hB.rest (defl_len hB (by omega)) (by omega) (by omega) (by omega) hs.met hs.err hs.ng hs.ls hs.ds
                clear hje hj hjl hrs
                generalize rp tt j = many at *
                by_cases hm0 : many.size = 0
                · have hme : many = ⟨#[]⟩ := by cases many; simpa [ByteArray.size] using hm0
                  subst hme
                  go_wp2_with (first
                    | (go_at_call 5; refine (hpk _).mono ?_; rintro e w2 ⟨rfl, rfl⟩)
                    | (go_at_call 6; refine hdef.mono ?_; rintro e w3 ⟨B, hB, rfl, hf3⟩; have hs3 := HSR.out.fr hf3; have hlp : ((100 : Int) < ((strOf (pack B)).size : Int)) = False := (by have := HSH.out B hB; rw [hm0] at this; simp; omega); clear hdef)
                    | (go_at_call 7; refine (hinf0 B w4 hB hs4 _ hm0).mono ?_; rintro e w5 ⟨rfl, hf5⟩)
                    | (go_at_call 7; refine (hinf B w3 hB hs3).mono ?_; rintro e w4 ⟨rfl, hf4⟩; have hs4 := hs3.fr hf4; clear hinf))
                  all_goals exact ⟨⟨i + 1, all ++ tt, HI.out.1, by go_num, rfl, HALL.out, HF.out.trans ((hf3.mono HF.out.size).trans ((hf4.mono (Nat.le_trans HF.out.size hf3.size)).trans (hf5.mono (Nat.le_trans HF.out.size (Nat.le_trans hf3.size hf4.size)))))⟩, by simp only [intOf]; exact HI.out.2⟩
                · have hme2 : (many = (⟨#[]⟩ : ByteArray)) = False := by simp only [eq_iff_iff, iff_false]; intro e; exact hm0 (by rw [e]; rfl)
                  go_wp2_with (first
                    | (go_at_call 5; refine (hpk _).mono ?_; rintro e w2 ⟨rfl, rfl⟩)
                    | (go_at_call 6; refine hdef.mono ?_; rintro e w3 ⟨B, hB, rfl, hf3⟩; have hs3 := HSR.out.fr hf3; have hlp : ((many.size : Int) / 64 + 100 < ((strOf (pack B)).size : Int)) = False := (by have := HSH.out B hB; simp; omega); clear hdef)
                    | (go_at_call 7; refine (hinf1 B w4 hB hs4 _ (by first | rfl | (unfold wrap64; omega)) hm0).mono ?_; rintro e w5 ⟨rfl, hf5⟩)
                    | (go_at_call 7; refine (hinf B w3 hB hs3).mono ?_; rintro e w4 ⟨rfl, hf4⟩; have hs4 := hs3.fr hf4; clear hinf))
                  all_goals exact ⟨⟨i + 1, all ++ tt, HI.out.1, by go_num, rfl, HALL.out, HF.out.trans ((hf3.mono HF.out.size).trans ((hf4.mono (Nat.le_trans HF.out.size hf3.size)).trans (hf5.mono (Nat.le_trans HF.out.size (Nat.le_trans hf3.size hf4.size)))))⟩, by simp only [intOf]; exact HI.out.2⟩
        · have hne : (K i == 8) = false := by simpa using hk8
          have hne2 : (K i != 8) = true := by simpa using hk8
          have HAS : Hid (all.size ≤ letters S (i + 1)) := by show _ ≤ _; omega
          clear hA0 hA1 hA2 hcA hcS hlet hmono has hlt hi
          generalize K i = ki at *
          go_wp2
          go_roundw
          case rel => exact ⟨i + 1, all, HI.out.1, by go_num, rfl, HAS.out, HF.out⟩
          case measure => simp only [intOf]; exact HI.out.2
      · have hin : i = n := by omega
        subst hin
        have hall : all.size ≤ 1000000 := by have := HN.out; omega
        have hdef := adeflate_any all wr hall HSR.out.ng HSR.out.ls HSR.out.ds
        have hinf := fun B w2 (hB : Defl all B) (hs : Stand a b w2) => pinflate_ok all B all.size _ w2 hB.rest (defl_len hB hall) hall (.inl (Int.le_refl _)) hs.err hs.ng hs.ls hs.ds
        clear hlt hi has
        go_wp2_with (first
          | (go_at_call 6; refine hdef.mono ?_; rintro e w2 ⟨B, hB, rfl, hf2⟩; have hs2 := HSR.out.fr hf2)
          | (go_at_call 7; refine (hinf B w2 hB hs2).mono ?_; rintro e w3 ⟨rfl, hf3⟩))
        have hlen : (strOf (pack B)).size ≤ all.size + 5 * (all.size / 65535 + 1) := by have := hB.most; rw [strOf_size, pack_length]; exact this
        have hdec : decide (((strOf (pack B)).size : Int) ≤ (all.size : Int) + 5 * ((all.size : Int) / 65535 + 1)) = true := by simp; omega
        go_ret
        exact ⟨(show Ending.returned (Value.bool (decide _)) = _ from by rw [hdec]), HF.out.trans ((hf2.mono HF.out.size).trans (hf3.mono (Nat.le_trans HF.out.size hf2.size)))⟩
end Go.Proofs.YtohfpmlofjhigaaDoor
