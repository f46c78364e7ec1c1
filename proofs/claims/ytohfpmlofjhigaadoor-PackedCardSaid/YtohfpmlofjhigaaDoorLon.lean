/-
  flate: longest.
-/
import Derived.Test.YtohfpmlofjhigaaDoorThr
import Derived.Test.YtohfpmlofjhigaaDoorAlk
namespace Go.Proofs.YtohfpmlofjhigaaDoor
open Go Go.RowKit Go.Extern.Stop Go.Stop Go.Extern Go.Maps Go.WideMaps

/-- Bytes at 'at' and on, as far as they may be told at once. -/
def mostAt (at' to : Nat) : Nat := min (to - at') 258
/-- What longest tells. -/
def Told (s : List UInt8) (at' to len dist : Nat) : Prop := (3 ≤ mostAt at' to → Best s at' (mostAt at' to) len dist) ∧ (mostAt at' to < 3 → len = 0 ∧ dist = 0)
/-- A round of longest. -/
structure LgI (s : List UInt8) (at' most n0 : Nat) (w : World) (len dist place cnt : Value) (wr : World) : Prop where
  ex : ∃ k x l d, k ≤ 64 ∧ cnt = .int .i64 (k : Nat) ∧ len = .int .i64 (l : Nat) ∧ dist = .int .i64 (d : Nat) ∧ place = .int .i64 (prevI s x (tri s at')) ∧ Lg s at' most x k l d
  fr : Fr n0 w wr
theorem far_facts {a q : Nat} (_ : q < a) (_ : a ≤ 70368744177000) (_ : a - q ≤ 32768) : wrap64 ((a : Int) - (q : Int)) = ((a - q : Nat) : Int) ∧ ((32768 : Int) < ((a - q : Nat) : Int)) = False ∧ ((q : Int) == -1) = false := ⟨by unfold wrap64; omega, by simp; omega, by simp <;> omega⟩
theorem far_facts' {a q : Nat} (_ : q < a) (_ : a ≤ 70368744177000) (_ : 32768 < a - q) : wrap64 ((a : Int) - (q : Int)) = ((a - q : Nat) : Int) ∧ ((32768 : Int) < ((a - q : Nat) : Int)) = True ∧ ((q : Int) == -1) = false := ⟨by unfold wrap64; omega, by simp; omega, by simp <;> omega⟩
theorem cnt_facts {k : Nat} (h : k < 64) : ((k : Int) < 64) = True ∧ 64 - (k + 1) < 64 - k := ⟨by simp; omega, by omega⟩

set_option maxRecDepth 8000 in
set_option maxHeartbeats 1000000 in
theorem longest_short (db : Nat) (t : ByteArray) (at' to : Nat) (w : World) (hto : to ≤ t.size) (hat : at' ≤ to) (hz : t.size ≤ 70368744177000) (hs : mostAt at' to < 3) :
    Calls Tryd.prog 30 #[.pointer (some ⟨db, 0, none⟩), .int .i64 at', .int .i64 to] w fun e w' => e = .returned (.tuple #[.int .i64 0, .int .i64 0]) ∧ w' = w := by
  have h1 : wrap64 ((to : Int) - (at' : Int)) = ((to - at' : Nat) : Int) := by unfold wrap64; omega
  unfold mostAt at hs
  have h2 : ((to - at' : Nat) : Int) < 3 := by omega
  have h3 : min ((to - at' : Nat) : Int) 258 = ((to - at' : Nat) : Int) := by omega
  have h5 : (((to - at' : Nat) : Int) < 3) = True := by simp; omega
  have h4 : ((to : Int) - (at' : Int)) = ((to - at' : Nat) : Int) := by omega
  clear hto hat hz hs h2
  generalize to - at' = x at *
  go_enter Tryd.func30, Tryd.ntmps30
  go_wp2
  go_ret2
  exact ⟨rfl, rfl⟩
theorem most_facts {a to z : Nat} (hat : a ≤ to) (hto : to ≤ z) (hz : z ≤ 70368744177000) (hl : 3 ≤ mostAt a to) : wrap64 ((to : Int) - (a : Int)) = ((to - a : Nat) : Int) ∧ (if (258 : Int) < ((to - a : Nat) : Int) then (258 : Int) else ((to - a : Nat) : Int)) = ((mostAt a to : Nat) : Int) ∧ (((mostAt a to : Nat) : Int) < 3) = False ∧ a + 3 ≤ z ∧ mostAt a to ≤ 258 ∧ a + mostAt a to ≤ z := by
  unfold mostAt at *
  exact ⟨by unfold wrap64; omega, by split <;> omega, by simp; omega, by omega, by omega, by omega⟩
theorem lt_cast {q a m z : Nat} (h : q < a) (h2 : a + m ≤ z) : (q : Int) < (z : Int) := by omega
theorem le_more {q a m z : Nat} (h : q < a) (h2 : a + m ≤ z) : q + m ≤ z := by omega
theorem ne_facts {a b : Nat} (h : a ≠ b) : ((a : Int) == (b : Int)) = false := by simp; omega

set_option maxRecDepth 8000 in
set_option maxHeartbeats 2000000 in
theorem longest_long (n0 db mb bb : Nat) (t : ByteArray) (at' to : Nat) (w : World) (hto : to ≤ t.size) (hat : at' ≤ to) (hz : t.size ≤ 70368744177000) (hl : 3 ≤ mostAt at' to) (d : Dfl w n0 db mb bb t at') :
    Calls Tryd.prog 30 #[.pointer (some ⟨db, 0, none⟩), .int .i64 at', .int .i64 to] w fun e w' => ∃ len dist : Nat, Best t.data.toList at' (mostAt at' to) len dist ∧ e = .returned (.tuple #[.int .i64 len, .int .i64 dist]) ∧ Fr w.heap.size w w' := by
  obtain ⟨h1, h2, h3, h4, hm258, h6⟩ := most_facts hat hto hz hl
  have hthree := fun w1 (hc : w1.cell? ⟨db, 2, none⟩ = some (.string t)) => threeAt_any db t at' w1 h4 hz hc
  have htk := tri_ok t.data.toList at'
  have hlo := fun w2 (h1 : w2.cell? ⟨db, 3, none⟩ = some (.map (some mb))) (h2 : LastAt w2 mb t.data.toList at') (h3 : mb < w2.heap.size) => lastOf_any db mb t.data.toList at' (tri t.data.toList at') w2 htk h1 h2 h3
  have hal := fun q w2 (hq : q + mostAt at' to ≤ t.size) (hc : w2.cell? ⟨db, 2, none⟩ = some (.string t)) => alike_any db t q at' (mostAt at' to) w2 hm258 hq h6 hz hc
  have HD : Hid (Dfl w n0 db mb bb t at') := d
  have HL : Hid (3 ≤ mostAt at' to) := hl
  have HZ : Hid (at' ≤ 70368744177000) := by show at' ≤ _; omega
  have H6 : Hid (at' + mostAt at' to ≤ t.size) := h6
  have c2 := d.c2
  have c3 := d.c3
  have hlt := d.lt.1
  have hlast := d.last
  clear hto hat hz hl h4 h6 d htk
  generalize hmm : mostAt at' to = most at *
  generalize to - at' = x at *
  go_enter Tryd.func30, Tryd.ntmps30
  unfold triV at hlo hthree
  go_wp2_with (first
    | (go_at_call 49; refine (hthree _ c2).mono ?_; rintro e w1 ⟨rfl, hf1⟩)
    | (go_at_call 48; refine (hlo _ ((hf1.cell (World.block_lt_of_cell? _ _ c3)).trans c3) (hlast.carry (hf1.old _ hlt)) (Nat.lt_of_lt_of_le hlt hf1.size)).mono ?_; rintro e w2 ⟨rfl, hf2⟩))
  have HF2 : Hid (Fr w.heap.size w w2) := hf1.trans (hf2.mono hf1.size)
  clear hf1 hf2 hlo hthree hlast c3 hlt h1 h2 h3
  go_loopw [6, 7, 9, 22] (fun len dist place cnt wr => LgI t.data.toList at' most w.heap.size w len dist place cnt wr) (fun _ _ _ cnt _ => 64 - (intOf cnt).toNat)
  case atStart => exact ⟨⟨0, at', 0, 0, by omega, rfl, rfl, rfl, rfl, Lg.start _ _ _⟩, HF2.out⟩
  case round =>
    obtain ⟨⟨k, x, l, d, hk, rfl, rfl, rfl, rfl, hlg⟩, hf⟩ := hrel
    have HG : Hid (Lg t.data.toList at' most x k l d) := hlg
    have HF : Hid (Fr w.heap.size w wr) := hf
    clear hlg hf HF2
    by_cases h64 : k < 64
    · obtain ⟨t64, m64⟩ := cnt_facts h64
      have H64 : Hid (k < 64) := h64
      have M64 : Hid (64 - (k + 1) < 64 - k) := m64
      clear m64
      cases hp : prev t.data.toList x (tri t.data.toList at') with
      | none =>
        have hI : prevI t.data.toList x (tri t.data.toList at') = -1 := by unfold prevI; rw [hp]
        rw [hI]
        have HB : Hid (Best t.data.toList at' most l d) := HG.out.endNone HL.out hp
        clear hp hI
        go_wp2
        go_ret2
        exact ⟨l, d, HB.out, rfl, HF.out⟩
      | some q =>
        have hI : prevI t.data.toList x (tri t.data.toList at') = q := by unfold prevI; rw [hp]
        rw [hI]
        obtain ⟨hq1, hq2, hq3⟩ := prev_lt hp
        have hqa : q < at' := Nat.lt_of_lt_of_le hq1 HG.out.hx
        have hcell : wr.cell? ⟨bb, q, none⟩ = some (.int .i64 (prevI t.data.toList q (tri t.data.toList at'))) := by
          have := HD.out.bef.1 q hqa
          rw [hq2] at this
          exact (HF.out.cell HD.out.lt.2).trans this
        have hc4 : wr.cell? ⟨db, 4, none⟩ = some (.slice (some ⟨bb, 0, none⟩) t.size t.size) := (HF.out.cell (World.block_lt_of_cell? _ _ c2)).trans HD.out.c4
        have hc2 : wr.cell? ⟨db, 2, none⟩ = some (.string t) := (HF.out.cell (World.block_lt_of_cell? _ _ c2)).trans c2
        have HP : Hid (prev t.data.toList x (tri t.data.toList at') = some q) := hp
        have hqt : (q : Int) < (t.size : Int) := lt_cast hqa H6.out
        have HQA : Hid (q + most ≤ t.size) := le_more hqa H6.out
        have HWR : Hid (wr.heap.size ≥ w.heap.size) := HF.out.size
        clear hI hq2 hq3 hq1 hp
        obtain ⟨I, HI⟩ : ∃ I, Hid (prevI t.data.toList q (tri t.data.toList at') = I) := ⟨_, rfl⟩
        rw [HI.out] at hcell
        by_cases hfar : at' - q ≤ 32768
        · obtain ⟨f1, f2, f3⟩ := far_facts hqa HZ.out hfar
          have HFAR : Hid (at' - q ≤ 32768) := hfar
          clear hqa hfar
          by_cases hlm : l = most
          · subst hlm
            have HB : Hid (Best t.data.toList at' l l d) := HG.out.endMost HL.out rfl
            generalize at' - q = far at *
            go_wp2
            go_ret2
            exact ⟨l, d, HB.out, rfl, HF.out⟩
          · have hlm' := ne_facts hlm
            have HLM : Hid (l ≠ most) := hlm
            generalize hfq : at' - q = far at *
            clear hlm
            go_wp2_with (go_at_call 50; refine (hal q _ HQA.out hc2).mono ?_; rintro e w3 ⟨n, han, rfl, hf3⟩; have hc4' := (hf3.cell (World.block_lt_of_cell? _ _ hc4)).trans hc4; have hcell' := (hf3.cell (World.block_lt_of_cell? _ _ hcell)).trans hcell)
            all_goals
              have hst := HG.out.step HL.out HP.out (by rw [hfq]; exact HFAR.out) HLM.out han.le han.same han.ends
              refine ⟨⟨⟨k + 1, q, _, _, H64.out, by go_num, ?_, ?_, by rw [HI.out], hst⟩, HF.out.trans (hf3.mono HWR.out)⟩, by simp only [intOf]; exact M64.out⟩
            · rw [if_pos (by assumption)]
            · rw [if_pos (by assumption), f1, hfq]
            · rw [if_neg (by assumption)]
            · rw [if_neg (by assumption)]
        · obtain ⟨f1, f2, f3⟩ := far_facts' hqa HZ.out (by omega)
          have HB : Hid (Best t.data.toList at' most l d) := HG.out.endFar HL.out HP.out (by omega)
          clear hqa hfar
          generalize at' - q = far at *
          go_wp2
          go_ret2
          exact ⟨l, d, HB.out, rfl, HF.out⟩
    · obtain rfl : k = 64 := by omega
      have HB : Hid (Best t.data.toList at' most l d) := HG.out.end64
      go_wp2
      go_ret2
      exact ⟨l, d, HB.out, rfl, HF.out⟩
end Go.Proofs.YtohfpmlofjhigaaDoor
