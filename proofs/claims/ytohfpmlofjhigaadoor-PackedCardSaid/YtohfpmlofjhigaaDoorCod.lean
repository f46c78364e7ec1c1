/-
  flate: (*deflater).coded.
-/
import Derived.Test.YtohfpmlofjhigaaDoorRem
import Derived.Test.YtohfpmlofjhigaaDoorLon
import Derived.Test.YtohfpmlofjhigaaDoorRpt
namespace Go.Proofs.YtohfpmlofjhigaaDoor
open Go Go.RowKit Go.Extern.Stop Go.Stop Go.Extern Go.Maps Go.WideMaps

theorem value_eq (db : Nat) (B : List Bool) (v : Nat) (x : Int) (w : World) (hx : x = v) (hv : v < 288) (hN : B.length ≤ 70368744177000) (hW : Wr w db B) :
    Calls Tryd.prog 31 #[.pointer (some ⟨db, 0, none⟩), .int .i64 x] w fun e w' => e = .returned (.tuple #[]) ∧ Wr w' db (B ++ valB v) ∧ Kp db 0 w w' := by
  subst hx
  exact value_any db B v w hv hN hW
/-- How many places are kept when p are behind. -/
def mAt (t : ByteArray) (p : Nat) : Nat := min p (t.size - 2)
theorem remember_at (n0 db mb bb : Nat) (t : ByteArray) (p : Nat) (w : World) (hp : p < t.size) (hz : t.size ≤ 70368744177000) (d : Dfl w n0 db mb bb t (mAt t p)) :
    Calls Tryd.prog 33 #[.pointer (some ⟨db, 0, none⟩), .int .i64 p] w fun e w' => e = .returned (.tuple #[]) ∧ Dfl w' n0 db mb bb t (mAt t (p + 1)) ∧ Bt mb bb w w' := by
  by_cases h : p + 3 ≤ t.size
  · have e1 : mAt t p = p := by unfold mAt; omega
    have e2 : mAt t (p + 1) = p + 1 := by unfold mAt; omega
    rw [e1] at d
    rw [e2]
    exact remember_any n0 db mb bb t p w h hz d
  · have e : mAt t (p + 1) = mAt t p := by unfold mAt; omega
    rw [e]
    refine (remember_late db t p w (by omega) (by omega) hz d.c2).mono ?_
    rintro e' w' ⟨rfl, rfl⟩
    exact ⟨rfl, d, Bt.refl _ _ _⟩
theorem remember_eq (n0 db mb bb : Nat) (t : ByteArray) (p : Nat) (x : Int) (w : World) (hx : x = p) (hp : p < t.size) (hz : t.size ≤ 70368744177000) (d : Dfl w n0 db mb bb t (mAt t p)) :
    Calls Tryd.prog 33 #[.pointer (some ⟨db, 0, none⟩), .int .i64 x] w fun e w' => e = .returned (.tuple #[]) ∧ Dfl w' n0 db mb bb t (mAt t (p + 1)) ∧ Bt mb bb w w' := by
  subst hx
  exact remember_at n0 db mb bb t p w hp hz d
theorem longest_at (n0 db mb bb : Nat) (t : ByteArray) (p to : Nat) (w : World) (hto : to ≤ t.size) (hat : p ≤ to) (hz : t.size ≤ 70368744177000) (d : Dfl w n0 db mb bb t (mAt t p)) :
    Calls Tryd.prog 30 #[.pointer (some ⟨db, 0, none⟩), .int .i64 p, .int .i64 to] w fun e w' => ∃ len dist : Nat, Told t.data.toList p to len dist ∧ e = .returned (.tuple #[.int .i64 len, .int .i64 dist]) ∧ Fr w.heap.size w w' := by
  by_cases h : 3 ≤ mostAt p to
  · have e1 : mAt t p = p := by unfold mAt; unfold mostAt at h; omega
    rw [e1] at d
    refine (longest_long n0 db mb bb t p to w hto hat hz h d).mono ?_
    rintro e w' ⟨len, dist, hb, rfl, hf⟩
    exact ⟨len, dist, ⟨fun _ => hb, fun h' => by omega⟩, rfl, hf⟩
  · refine (longest_short db t p to w hto hat hz (by omega)).mono ?_
    rintro e w' ⟨rfl, rfl⟩
    exact ⟨0, 0, ⟨fun h' => by omega, fun _ => ⟨rfl, rfl⟩⟩, rfl, Fr.refl _ _⟩
/-- What longest tells is a token. -/
theorem tok_lit {s : List UInt8} {p to dist : Nat} (h : Told s p to 0 dist) (hp : p < to) : TokAt s to p (.lit (ch s p)) := by
  refine ⟨hp, fun b e => by cases e; rfl, fun n d e => (by cases e), fun q h1 h2 h3 h4 h5 => ?_⟩
  have hb := h.1 h4
  have := (hb.best q h1 h2 h3 h5).1
  unfold mostAt at this
  omega
theorem tok_rep {s : List UInt8} {p to len dist : Nat} (h : Told s p to len dist) (hl : len ≠ 0) : TokAt s to p (.rep len dist) ∧ 3 ≤ len ∧ len ≤ 258 ∧ 1 ≤ dist ∧ dist ≤ 32768 ∧ p + len ≤ to := by
  have h3 : 3 ≤ mostAt p to := by
    rcases Nat.lt_or_ge (mostAt p to) 3 with hlt | hge
    · exact absurd (h.2 hlt).1 hl
    · exact hge
  have hb := h.1 h3
  rcases hb.val with ⟨e, _⟩ | ⟨a1, a2, a3, a4, a5, a6⟩
  · exact absurd e hl
  · have hm : mostAt p to ≤ 258 ∧ mostAt p to ≤ to - p := by unfold mostAt; omega
    refine ⟨⟨by show p + len ≤ to; omega, fun b e => (by cases e), fun n d e => by cases e; exact ⟨a1, by omega, a3, a4, a5, a6⟩, fun q h1 h2 h3' h4 h5 => ?_⟩, a1, by omega, a3, a4, by omega⟩
    obtain ⟨e1, e2⟩ := hb.best q h1 h2 h3' h5
    exact ⟨dist, e2, by rw [e1]; rfl⟩
theorem rep_bits32 (n d : Nat) : (Tok.rep n d).bits.length ≤ 32 := by
  show (repB n d).length ≤ 32
  unfold repB valB
  simp only [List.length_append, highB_length, lowB_length]
  have h1 := lenP_bits n
  have h2 := disP_bits d
  have h3 := (fixW_bits (257 + lenP n)).1
  omega
/-- A round of coded. -/
structure CdI (n0 db mb bb : Nat) (t : ByteArray) (B : List Bool) (from' to : Nat) (w0 wr : World) (p : Nat) : Prop where
  ex : ∃ toks, (∀ rest, Toks t.data.toList to p rest → Toks t.data.toList to from' (toks ++ rest)) ∧ (toksB toks).length ≤ 32 * (p - from') ∧ Wr wr db (B ++ toksB toks)
  ge : from' ≤ p
  le : p ≤ to
  dfl : Dfl wr n0 db mb bb t (mAt t p)
  fr : Fr n0 w0 wr
/-- Of the bytes that a token tells j are kept. -/
structure RmI (n0 db mb bb : Nat) (t : ByteArray) (B : List Bool) (w0 wr : World) (p j : Nat) : Prop where
  hw : Wr wr db B
  dfl : Dfl wr n0 db mb bb t (mAt t (p + j))
  fr : Fr n0 w0 wr
theorem CdI.next {n0 db mb bb : Nat} {t : ByteArray} {B : List Bool} {from' to : Nat} {w0 : World} {p : Nat} {k : Tok} (toks : List Tok) (hpre : ∀ rest, Toks t.data.toList to p rest → Toks t.data.toList to from' (toks ++ rest)) (hl : (toksB toks).length ≤ 32 * (p - from')) (hge : from' ≤ p) (hk : TokAt t.data.toList to p k) (hlen : k.bits.length ≤ 32) (h1 : 1 ≤ k.len) {wr : World} {n : Nat} (hn : n = k.len) (h : RmI n0 db mb bb t (B ++ toksB toks ++ k.bits) w0 wr p n) : CdI n0 db mb bb t B from' to w0 wr (p + n) := by
  subst hn
  refine ⟨⟨toks ++ [k], fun rest hr => ?_, ?_, ?_⟩, by omega, hk.fits, h.dfl, h.fr⟩
  · rw [List.append_assoc]
    exact hpre _ (.cons hk hr)
  · rw [toksB_append, List.length_append]
    have : toksB [k] = k.bits := by simp [toksB]
    rw [this]
    omega
  · have : toksB [k] = k.bits := by simp [toksB]
    rw [toksB_append, this, ← List.append_assoc]
    exact h.hw
theorem lt_int {a b : Nat} (h : a < b) : ((a : Int) < (b : Int)) = True := by simp; omega
theorem ge_int {a b : Nat} (h : ¬ a < b) : ((a : Int) < (b : Int)) = False := by simp; omega
theorem eq0_int {a : Nat} (h : a ≠ 0) : ((a : Int) == 0) = false := by simp; omega
theorem add_facts {p j z : Nat} (h : p + j < z) (hz : z ≤ 70368744177000) : wrap64 ((p : Int) + (j : Int) + 1) = ((p + (j + 1) : Nat) : Int) ∧ wrap64 (((p + j : Nat) : Int) + 1) = ((p + (j + 1) : Nat) : Int) := ⟨by unfold wrap64; omega, by unfold wrap64; omega⟩
theorem cnt_more {j n : Nat} (h : j < n) (hn : n ≤ 258) : wrap64 ((j : Int) + 1) = ((j + 1 : Nat) : Int) ∧ n - (j + 1) < n - j ∧ j + 1 ≤ n := ⟨by unfold wrap64; omega, by omega, by omega⟩
theorem ch_lt (s : List UInt8) (i : Nat) : ch s i < 288 := by unfold ch; have := (s.getD i 0).toNat_lt; omega
theorem lt_more {j n p to z : Nat} (h : j < n) (h2 : p + n ≤ to) (h3 : to ≤ z) : p + j < z := by omega
theorem meas_more {p to j n : Nat} (h : p < to) (hj : j = n) (hn : 1 ≤ n) : to - (p + j) < to - p := by omega
theorem RmI.start {n0 db mb bb : Nat} {t : ByteArray} {B' : List Bool} {w0 wr w2 w3 : World} {p : Nat} (hD : Dfl wr n0 db mb bb t (mAt t p)) (hF : Fr n0 w0 wr) (h2 : Fr wr.heap.size wr w2) (hk : Kp db 0 w2 w3) (hw : Wr w3 db B') : RmI n0 db mb bb t B' w0 w3 p 0 := by
  have d2 := hD.old h2
  obtain ⟨d3, f3⟩ := d2.kp hk
  exact ⟨hw, d3, (hF.trans (h2.mono (by have := hD.ge.1; have : db < wr.heap.size := World.block_lt_of_cell? _ _ hD.c2; omega))).trans f3⟩
theorem RmI.more {n0 db mb bb : Nat} {t : ByteArray} {B : List Bool} {w0 wr w2 : World} {p j : Nat} (h : RmI n0 db mb bb t B w0 wr p j) (hD : Dfl w2 n0 db mb bb t (mAt t (p + j + 1))) (hb : Bt mb bb wr w2) : RmI n0 db mb bb t B w0 w2 p (j + 1) :=
  ⟨h.hw.bt h.dfl hb, hD, h.fr.trans (hb.to h.dfl.ge.2.1 h.dfl.ge.2.2 (by have := h.dfl.ge.1; have : db < wr.heap.size := World.block_lt_of_cell? _ _ h.dfl.c2; omega))⟩
theorem Dfl.gl {w : World} {n0 db mb bb : Nat} {t : ByteArray} {m : Nat} (h : Dfl w n0 db mb bb t m) (hn : 32 ≤ n0) : Gl w db := by
  have h1 := h.ge.1
  have : db < w.heap.size := World.block_lt_of_cell? _ _ h.c2
  exact ⟨by omega, fun i hi => by have := h.own.2.2 i hi; omega, by omega⟩

set_option maxRecDepth 8000 in
set_option maxHeartbeats 2000000 in
theorem dcoded_any (n0 db mb bb : Nat) (t : ByteArray) (B : List Bool) (from' to : Nat) (w : World) (hn0 : 32 ≤ n0) (hft : from' ≤ to) (hto : to ≤ t.size) (h64 : to ≤ from' + 65535) (hz : t.size ≤ 70368744177000) (hN : B.length ≤ 1000000000) (hW : Wr w db B) (hD : Dfl w n0 db mb bb t (mAt t from')) (hS : SpAt w 20 lenF) (hT : SpAt w 21 disF) :
    Calls Tryd.prog 17 #[.pointer (some ⟨db, 0, none⟩), .int .i64 from', .int .i64 to] w fun e w' => e = .returned (.tuple #[]) ∧ ∃ toks, Toks t.data.toList to from' toks ∧ (toksB toks).length ≤ 32 * (to - from') ∧ Wr w' db (B ++ toksB toks ++ valB 256) ∧ Dfl w' n0 db mb bb t (mAt t to) ∧ Fr n0 w w' := by
  have HN : Hid (B.length ≤ 1000000000) := hN
  have HZ : Hid (t.size ≤ 70368744177000) := hz
  have HTO : Hid (to ≤ t.size) := hto
  have H64 : Hid (to ≤ from' + 65535) := h64
  have HN0 : Hid (32 ≤ n0) := hn0
  have HSP : Hid (SpAt w 20 lenF ∧ SpAt w 21 disF) := ⟨hS, hT⟩
  clear hN hz hto h64 hn0 hS hT
  go_enter Tryd.func17, Tryd.ntmps17
  go_wp2
  go_loopw [6] (fun a wr => ∃ p : Nat, a = .int .i64 p ∧ CdI n0 db mb bb t B from' to w wr p) (fun a _ => to - (intOf a).toNat)
  case atStart => exact ⟨from', rfl, ⟨⟨[], fun rest h => h, by simp [toksB], by simpa [toksB] using hW⟩, Nat.le_refl _, hft, hD, Fr.refl _ _⟩⟩
  case round =>
    obtain ⟨p, rfl, hI⟩ := hrel
    have HI : Hid (CdI n0 db mb bb t B from' to w wr p) := hI
    clear hI
    by_cases hlt : p < to
    · have hl1 := lt_int hlt
      obtain ⟨⟨toks, hpre, hlen, hwr⟩, hge, hle, hdf, hfr⟩ := HI.out
      have hlong := longest_at n0 db mb bb t p to wr HTO.out hle HZ.out hdf
      have HPRE : Hid (∀ rest, Toks t.data.toList to p rest → Toks t.data.toList to from' (toks ++ rest)) := hpre
      have HLEN : Hid ((toksB toks).length ≤ 32 * (p - from')) := hlen
      have HGE : Hid (from' ≤ p) := hge
      have HLT : Hid (p < to) := hlt
      clear hpre hlen hge hle hlt
      have hw2' : ∀ w2, Fr wr.heap.size wr w2 → Wr w2 db (B ++ toksB toks) ∧ w2.cell? ⟨db, 2, none⟩ = some (.string t) := fun w2 h => ⟨hwr.old h, (h.cell (World.block_lt_of_cell? _ _ hdf.c2)).trans hdf.c2⟩
      have hBL : (B ++ toksB toks).length ≤ 70368740000000 := by
        have a1 := HN.out
        have a2 := HLEN.out
        have a3 := H64.out
        have a4 := HLT.out
        rw [List.length_append]
        omega
      have hval := fun w2 (x : Int) (hx : x = (ch t.data.toList p : Int)) (h : Fr wr.heap.size wr w2) => value_eq db (B ++ toksB toks) (ch t.data.toList p) x w2 hx (ch_lt _ _) (by omega) (hw2' w2 h).1
      have HSP2 : Hid (∀ w2, Fr wr.heap.size wr w2 → Gl w2 db ∧ SpAt w2 20 lenF ∧ SpAt w2 21 disF) := fun w2 h => by
        have hn := HN0.out
        have hsz : 32 ≤ wr.heap.size := by
          have h1 := hdf.ge.1
          have h2 : db < wr.heap.size := World.block_lt_of_cell? _ _ hdf.c2
          omega
        have e : ∀ i, i < 32 → w2.heap[i]? = w.heap[i]? := fun i hi => (h.old i (by omega)).trans (hfr.old i (by omega))
        exact ⟨(hdf.old h).gl hn, HSP.out.1.carry (e _ (by decide)), HSP.out.2.carry (e _ (by decide))⟩
      have hrep := fun w2 len dist (h : Fr wr.heap.size wr w2) (h3 : 3 ≤ len) (h258 : len ≤ 258) (h1 : 1 ≤ dist) (hd : dist ≤ 32768) => repeat_any db (B ++ toksB toks) len dist w2 h3 h258 h1 hd (by omega) (hw2' w2 h).1 (HSP2.out w2 h).1 (HSP2.out w2 h).2.1 (HSP2.out w2 h).2.2
      have hpt : p < t.size := Nat.lt_of_lt_of_le HLT.out HTO.out
      have g0 := ch_get t p hpt
      have hpi : (p : Int) < (t.size : Int) := by omega
      have HDF : Hid (Dfl wr n0 db mb bb t (mAt t p)) := hdf
      have HFR : Hid (Fr n0 w wr) := hfr
      clear hBL hdf hfr
      go_wp2_with (first
        | (go_at_call 30; refine hlong.mono ?_; rintro e w2 ⟨len, dist, htold, rfl, hf2⟩; have hc2 := (hw2' w2 hf2).2; rcases Nat.eq_zero_or_pos len with h0 | h0)
        | (go_at_call 31; refine (hval w2 _ (by first | exact g0 | rfl | (have := g0; have hb := ch_lt t.data.toList p; unfold wrap64; omega)) hf2).mono ?_; rintro e w3 ⟨rfl, hw3, hk3⟩)
        | (go_at_call 32; obtain ⟨htk, r1, r2, r3, r4, r5⟩ := tok_rep htold (Nat.pos_iff_ne_zero.1 h0); refine (hrep w2 len dist hf2 r1 r2 r3 r4).mono ?_; rintro e w3 ⟨rfl, hw3, hk3⟩))
      · subst h0
        have HTOK : Hid (TokAt t.data.toList to p (Tok.lit (ch t.data.toList p))) := tok_lit htold HLT.out
        have HBIT : Hid ((Tok.lit (ch t.data.toList p)).bits.length ≤ 32) := Nat.le_trans (lit_bits _) (by decide)
        have HONE : Hid (1 ≤ (Tok.lit (ch t.data.toList p)).len) := Nat.le_refl 1
        have HFIT : Hid (p + 1 ≤ to) := HLT.out
        have HL258 : Hid (1 ≤ 258) := by show 1 ≤ 258; decide
        have HRM : Hid (RmI n0 db mb bb t (B ++ toksB toks ++ (Tok.lit (ch t.data.toList p)).bits) w w3 p 0) := RmI.start HDF.out HFR.out hf2 hk3 hw3
        clear hw3 hk3 hf2 hval hrep hlong hw2' htold hwr hc2
        go_loopw [6, 36] (fun a cnt wl => ∃ j : Nat, j ≤ 1 ∧ cnt = .int .i64 j ∧ a = .int .i64 ((p + j : Nat) : Int) ∧ RmI n0 db mb bb t (B ++ toksB toks ++ (Tok.lit (ch t.data.toList p)).bits) w wl p j) (fun _ cnt _ => 1 - (intOf cnt).toNat)
        case atStart => exact ⟨0, Nat.zero_le _, rfl, rfl, HRM.out⟩
        case round =>
          obtain ⟨j, hj, rfl, rfl, hrm⟩ := hrel
          have HRJ : Hid (RmI n0 db mb bb t (B ++ toksB toks ++ (Tok.lit (ch t.data.toList p)).bits) w wr p j) := hrm
          clear hrm
          by_cases hjl : j < 1
          · have hrem := fun (x : Int) (hx : x = ((p + j : Nat) : Int)) => remember_eq n0 db mb bb t (p + j) x wr hx (lt_more hjl HFIT.out HTO.out) HZ.out HRJ.out.dfl
            have hpj : p + j ≤ 70368744177000 := Nat.le_of_lt (Nat.lt_of_lt_of_le (lt_more hjl HFIT.out HTO.out) HZ.out)
            obtain ⟨-, y2, y3⟩ := cnt_more hjl HL258.out
            have hl258 := HL258.out
            have HJL : Hid (1 - (j + 1) < 1 - j ∧ j + 1 ≤ 1) := ⟨y2, y3⟩
            clear y2 y3 hj
            go_wp2_with (go_at_call 33; refine (hrem _ (by push_cast; rfl)).mono ?_; rintro e w5 ⟨rfl, hd5, hb5⟩)
            go_roundw
            case rel => exact ⟨j + 1, HJL.out.2, by go_num, by go_num, HRJ.out.more hd5 hb5⟩
            case measure => simp only [intOf]; exact HJL.out.1
          · have hje : j = 1 := by omega
            have HNX : Hid (CdI n0 db mb bb t B from' to w wr (p + j)) := CdI.next toks HPRE.out HLEN.out HGE.out HTOK.out HBIT.out HONE.out hje HRJ.out
            have HMS : Hid (to - (p + j) < to - p) := meas_more HLT.out hje HONE.out
            clear hj
            go_wp2
            go_roundw
            case rel => exact ⟨p + j, rfl, HNX.out⟩
            case measure => simp only [intOf]; exact HMS.out
      · have HTOK : Hid (TokAt t.data.toList to p (Tok.rep len dist)) := htk
        have HBIT : Hid ((Tok.rep len dist).bits.length ≤ 32) := rep_bits32 _ _
        have HONE : Hid (1 ≤ (Tok.rep len dist).len) := Nat.le_trans (by decide) r1
        have HFIT : Hid (p + len ≤ to) := r5
        have HL258 : Hid (len ≤ 258) := r2
        have HRM : Hid (RmI n0 db mb bb t (B ++ toksB toks ++ (Tok.rep len dist).bits) w w3 p 0) := RmI.start HDF.out HFR.out hf2 hk3 hw3
        clear hw3 hk3 hf2 hval hrep hlong hw2' htold hwr hc2 htk r1 r2 r3 r4 r5
        go_loopw [6, 36] (fun a cnt wl => ∃ j : Nat, j ≤ len ∧ cnt = .int .i64 j ∧ a = .int .i64 ((p + j : Nat) : Int) ∧ RmI n0 db mb bb t (B ++ toksB toks ++ (Tok.rep len dist).bits) w wl p j) (fun _ cnt _ => len - (intOf cnt).toNat)
        case atStart => exact ⟨0, Nat.zero_le _, rfl, rfl, HRM.out⟩
        case round =>
          obtain ⟨j, hj, rfl, rfl, hrm⟩ := hrel
          have HRJ : Hid (RmI n0 db mb bb t (B ++ toksB toks ++ (Tok.rep len dist).bits) w wr p j) := hrm
          clear hrm
          by_cases hjl : j < len
          · have hrem := fun (x : Int) (hx : x = ((p + j : Nat) : Int)) => remember_eq n0 db mb bb t (p + j) x wr hx (lt_more hjl HFIT.out HTO.out) HZ.out HRJ.out.dfl
            have hpj : p + j ≤ 70368744177000 := Nat.le_of_lt (Nat.lt_of_lt_of_le (lt_more hjl HFIT.out HTO.out) HZ.out)
            obtain ⟨-, y2, y3⟩ := cnt_more hjl HL258.out
            have hl258 := HL258.out
            have HJL : Hid (len - (j + 1) < len - j ∧ j + 1 ≤ len) := ⟨y2, y3⟩
            clear y2 y3 hj
            go_wp2_with (go_at_call 33; refine (hrem _ (by push_cast; rfl)).mono ?_; rintro e w5 ⟨rfl, hd5, hb5⟩)
            go_roundw
            case rel => exact ⟨j + 1, HJL.out.2, by go_num, by go_num, HRJ.out.more hd5 hb5⟩
            case measure => simp only [intOf]; exact HJL.out.1
          · have hje : j = len := by omega
            have HNX : Hid (CdI n0 db mb bb t B from' to w wr (p + j)) := CdI.next toks HPRE.out HLEN.out HGE.out HTOK.out HBIT.out HONE.out hje HRJ.out
            have HMS : Hid (to - (p + j) < to - p) := meas_more HLT.out hje HONE.out
            clear hj
            go_wp2
            go_roundw
            case rel => exact ⟨p + j, rfl, HNX.out⟩
            case measure => simp only [intOf]; exact HMS.out
    · have hl1 := ge_int hlt
      obtain ⟨⟨toks, hpre, hlen, hwr⟩, hge, hle, hdf, hfr⟩ := HI.out
      have hpe : p = to := by omega
      have hBL : (B ++ toksB toks).length ≤ 70368740000000 := by
        have a1 := HN.out
        have a3 := H64.out
        rw [List.length_append]
        omega
      have hval := value_eq db (B ++ toksB toks) 256 256 wr rfl (by decide) (by omega) hwr
      have HFIN : Hid (Toks t.data.toList to from' toks ∧ (toksB toks).length ≤ 32 * (to - from')) := by
        subst hpe
        have := hpre [] .nil
        rw [List.append_nil] at this
        exact ⟨this, hlen⟩
      clear hpre hlen hge hle hlt hBL
      go_wp2_with (go_at_call 31; refine hval.mono ?_; rintro e w2 ⟨rfl, hw2, hk2⟩)
      go_end0
      obtain ⟨d2, f2⟩ := hdf.kp hk2
      exact ⟨rfl, toks, HFIN.out.1, HFIN.out.2, hw2, by rw [← hpe]; exact d2, hfr.trans f2⟩
end Go.Proofs.YtohfpmlofjhigaaDoor
