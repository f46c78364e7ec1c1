/-
  flate: remember.
-/
import Derived.Test.YtohfpmlofjhigaaDoorThr
namespace Go.Proofs.YtohfpmlofjhigaaDoor
open Go Go.RowKit Go.Extern.Stop Go.Stop Go.Extern Go.Maps Go.WideMaps

/-- Of what was there only the blocks mb and bb may have turned. -/
structure Bt (mb bb : Nat) (w w' : World) : Prop where
  os : w'.os = w.os
  output : w'.output = w.output
  size : w.heap.size ≤ w'.heap.size
  old : ∀ i, i < w.heap.size → i ≠ mb → i ≠ bb → w'.heap[i]? = w.heap[i]?
theorem Bt.refl (mb bb : Nat) (w : World) : Bt mb bb w w := ⟨rfl, rfl, Nat.le_refl _, fun _ _ _ _ => rfl⟩
theorem Bt.trans {mb bb : Nat} {a b c : World} (h : Bt mb bb a b) (k : Bt mb bb b c) : Bt mb bb a c := ⟨k.os.trans h.os, k.output.trans h.output, Nat.le_trans h.size k.size, fun i hi h1 h2 => (k.old i (Nat.lt_of_lt_of_le hi h.size) h1 h2).trans (h.old i hi h1 h2)⟩
theorem Bt.fr {mb bb : Nat} {a b : World} (h : Fr a.heap.size a b) : Bt mb bb a b := ⟨h.os, h.output, h.size, fun i hi _ _ => h.old i hi⟩
theorem Bt.to {mb bb n0 : Nat} {a b : World} (h : Bt mb bb a b) (h1 : n0 ≤ mb) (h2 : n0 ≤ bb) (h3 : n0 ≤ a.heap.size) : Fr n0 a b := ⟨h.os, h.output, h.size, fun i hi => h.old i (by omega) (by omega) (by omega)⟩
theorem Wr.bt {w w' : World} {n0 db mb bb : Nat} {t : ByteArray} {m : Nat} {B : List Bool} (h : Wr w db B) (d : Dfl w n0 db mb bb t m) (k : Bt mb bb w w') : Wr w' db B := by
  obtain ⟨⟨v, c0, hr, hb⟩, c1, f0, f1⟩ := h
  have hdb : db < w.heap.size := World.block_lt_of_cell? _ _ c0
  have e := k.old db hdb d.ne.1 d.ne.2.1
  have hv : blkAt w db 0 = blk v := by unfold blkAt; rw [c0]; rfl
  refine ⟨⟨v, (World.cell?_of_block (a := ⟨db, 0, none⟩) e).trans c0, hr.carry (fun i hi => k.old i (hr.blk_lt hi) ?_ ?_), hb⟩, (World.cell?_of_block (a := ⟨db, 1, none⟩) e).trans c1, (World.frozen?_of_block (a := ⟨db, 0, none⟩) e).trans f0, (World.frozen?_of_block (a := ⟨db, 1, none⟩) e).trans f1⟩
  · intro e'; subst e'; exact d.own.1 (by rw [hv]; exact hi)
  · intro e'; subst e'; exact d.own.2.1 (by rw [hv]; exact hi)
/-- A place more is kept. -/
theorem keep_more {w w1 w2 : World} {n0 db mb bb : Nat} {t : ByteArray} {m : Nat} (d : Dfl w n0 db mb bb t m) (hm : m < t.size) (k1 : Bt mb bb w w1) (e2 : w1.heap[bb]? = w.heap[bb]?)
    (x : Value) (hx : x = .int .i64 (prevI t.data.toList m (tri t.data.toList m)))
    (D : DataW Unit) (hD : IsMap D) (hall : ∀ k, triOk k → Maps.has D (triL k) = (prev t.data.toList m k).isSome ∧ ∀ q, prev t.data.toList m k = some q → D.atKey (triL k) (.lit (.int .i64 0)) = .lit (.int .i64 q))
    (hown : w2.ownsMap Tryd.prog 109 (plainElem Tryd.prog 3) mb (m + 1) (D.put (triL (tri t.data.toList m)) (.lit (.int .i64 m)))) (hg : (w1.setCell ⟨bb, m, none⟩ x).drew.grownBy w2 (some mb)) :
    Dfl w2 n0 db mb bb t (m + 1) ∧ Bt mb bb w w2 := by
  have hmb := d.lt.1
  have hbb := d.lt.2
  have hdb : db < w.heap.size := World.block_lt_of_cell? _ _ d.c2
  have hbelow : ∀ i, i < w1.heap.size → i ≠ mb → w2.heap[i]? = (w1.setCell ⟨bb, m, none⟩ x).heap[i]? := fun i hi hne => hg.block i (by simpa using hi) (fun e => hne (by cases e; rfl))
  have hbt : Bt mb bb w w2 := by
    refine k1.trans ⟨?_, ?_, ?_, fun i hi h1 h2 => (hbelow i hi h1).trans (Below.heap_setCell w1 ⟨bb, m, none⟩ x i h2)⟩
    · exact hg.os
    · exact hg.output
    · have := hg.size
      simpa using this
  have edb : w2.heap[db]? = w.heap[db]? := hbt.old db hdb d.ne.1 d.ne.2.1
  have ebb : w2.heap[bb]? = (w1.setCell ⟨bb, m, none⟩ x).heap[bb]? := hbelow bb (Nat.lt_of_lt_of_le hbb k1.size) (fun e => d.ne.2.2 e.symm)
  have hblk : blkAt w2 db 0 = blkAt w db 0 := by unfold blkAt; rw [World.cell?_of_block (a := ⟨db, 0, none⟩) edb]
  have bef1 : BefAt w1 bb t.size t.data.toList m := d.bef.carry e2
  refine ⟨⟨(World.cell?_of_block (a := ⟨db, 2, none⟩) edb).trans d.c2, (World.cell?_of_block (a := ⟨db, 3, none⟩) edb).trans d.c3, (World.cell?_of_block (a := ⟨db, 4, none⟩) edb).trans d.c4, ⟨_, hown, hD.put _ _, fun k hk => ?_⟩, ?_, d.ge, ⟨Nat.lt_of_lt_of_le hmb hbt.size, Nat.lt_of_lt_of_le hbb hbt.size⟩, d.ne, by rw [hblk]; exact d.own.1, by rw [hblk]; exact d.own.2.1, by rw [hblk]; exact d.own.2.2⟩, hbt⟩
  · have hkey := (Tryd.triLaw).key (keyTri (tri_ok t.data.toList m))
    by_cases e : tri t.data.toList m = k
    · subst e
      have hp : prev t.data.toList (m + 1) (tri t.data.toList m) = some m := by rw [prev, if_pos rfl]
      rw [hp, has_put_same hD hkey]
      refine ⟨rfl, fun q hq => ?_⟩
      cases hq
      exact atKey_put_same hD hkey _ _
    · have hp : prev t.data.toList (m + 1) k = prev t.data.toList m k := by rw [prev, if_neg e]
      have hne := triL_ne hk (tri_ok t.data.toList m) (fun e' => e e'.symm)
      rw [hp, has_put_other hne]
      refine ⟨(hall k hk).1, fun q hq => ?_⟩
      rw [atKey_put_other hne]
      exact (hall k hk).2 q hq
  · have hset : ∀ q, w2.cell? ⟨bb, q, none⟩ = (w1.setCell ⟨bb, m, none⟩ x).cell? ⟨bb, q, none⟩ := fun q => World.cell?_of_block (a := ⟨bb, q, none⟩) ebb
    have hfz : ∀ q, w2.frozen? ⟨bb, q, none⟩ = w1.frozen? ⟨bb, q, none⟩ := fun q => (World.frozen?_of_block (a := ⟨bb, q, none⟩) ebb).trans (by rw [World.frozen?_setCell])
    obtain ⟨y, hy⟩ := Option.isSome_iff_exists.1 (bef1.2 m hm).1
    refine ⟨fun q hq => ?_, fun q hq => ⟨?_, (hfz q).trans (bef1.2 q hq).2⟩⟩
    · rw [hset]
      by_cases e : q = m
      · subst e
        rw [World.cell?_setCell_same _ _ _ hy, hx]
      · rw [World.cell?_setCell_other _ _ _ _ (by simp <;> exact e)]
        exact bef1.1 q (by omega)
    · rw [hset]
      by_cases e : q = m
      · subst e
        rw [World.cell?_setCell_same _ _ _ hy]
        rfl
      · rw [World.cell?_setCell_other _ _ _ _ (by simp <;> exact e)]
        exact (bef1.2 q hq).1

set_option maxRecDepth 8000 in
set_option maxHeartbeats 1000000 in
theorem remember_late (db : Nat) (t : ByteArray) (m : Nat) (w : World) (hm : t.size < m + 3) (hmz : m ≤ t.size) (hz : t.size ≤ 70368744177000) (c2 : w.cell? ⟨db, 2, none⟩ = some (.string t)) :
    Calls Tryd.prog 33 #[.pointer (some ⟨db, 0, none⟩), .int .i64 m] w fun e w' => e = .returned (.tuple #[]) ∧ w' = w := by
  have h1 : ((t.size : Int) < (m : Int) + 3) = True := by simp; omega
  have h2 : wrap64 ((m : Int) + 3) = (m : Int) + 3 := by unfold wrap64; omega
  clear hm hz hmz
  go_enter Tryd.func33, Tryd.ntmps33
  go_wp2
  simp [bodyPost, results, Tryd.results33]

set_option maxRecDepth 8000 in
set_option maxHeartbeats 1000000 in
theorem remember_any (n0 db mb bb : Nat) (t : ByteArray) (m : Nat) (w : World) (hm : m + 3 ≤ t.size) (hz : t.size ≤ 70368744177000) (d : Dfl w n0 db mb bb t m) :
    Calls Tryd.prog 33 #[.pointer (some ⟨db, 0, none⟩), .int .i64 m] w fun e w' => e = .returned (.tuple #[]) ∧ Dfl w' n0 db mb bb t (m + 1) ∧ Bt mb bb w w' := by
  have h1 : ((t.size : Int) < (m : Int) + 3) = False := by simp; omega
  have h2 : wrap64 ((m : Int) + 3) = (m : Int) + 3 := by unfold wrap64; omega
  have c2 := d.c2
  have hthree := fun w1 (hc : w1.cell? ⟨db, 2, none⟩ = some (.string t)) => threeAt_any db t m w1 hm hz hc
  have HD : Hid (Dfl w n0 db mb bb t m) := d
  have HMZ : Hid (m < t.size) := by show m < t.size; omega
  have HMS : Hid (m < maxLen) := by show m < maxLen; unfold maxLen; omega
  have htk := tri_ok t.data.toList m
  have HT : Hid (triOk (tri t.data.toList m)) := htk
  have hI : ∃ I : Int, I = prevI t.data.toList m (tri t.data.toList m) := ⟨_, rfl⟩
  obtain ⟨I, hI⟩ := hI
  generalize htt : tri t.data.toList m = k at *
  obtain ⟨a, b, c⟩ := k
  unfold triV at hthree
  clear hm hz d htk
  go_enter Tryd.func33, Tryd.ntmps33
  go_wp2_with (go_at_call 49; refine (hthree _ c2).mono ?_; rintro e w1 ⟨rfl, hf1⟩)
  obtain ⟨W, hW, hk0, hk1, hk2, hc3, hc4, hlast, hmb, hfr, y, hy, hyf, hkb, hbk⟩ : ∃ W, W = w1.alloc (Obj.cells #[Value.int IntKind.u8 ↑a, Value.int IntKind.u8 ↑b, Value.int IntKind.u8 ↑c] 109) ∧ W.cell? ⟨w1.heap.size, 0, none⟩ = some (.int .u8 (a : Int)) ∧ W.cell? ⟨w1.heap.size, 1, none⟩ = some (.int .u8 (b : Int)) ∧ W.cell? ⟨w1.heap.size, 2, none⟩ = some (.int .u8 (c : Int)) ∧ W.cell? ⟨db, 3, none⟩ = some (.map (some mb)) ∧ W.cell? ⟨db, 4, none⟩ = some (.slice (some ⟨bb, 0, none⟩) t.size t.size) ∧ LastAt W mb t.data.toList m ∧ mb < W.heap.size ∧ Fr w.heap.size w W ∧ ∃ y, W.cell? ⟨bb, m, none⟩ = some y ∧ W.frozen? ⟨bb, m, none⟩ = false ∧ w1.heap.size < W.heap.size ∧ bb < w1.heap.size := by
    have d := HD.out
    have hfr : Fr w.heap.size w (w1.alloc (Obj.cells #[Value.int IntKind.u8 ↑a, Value.int IntKind.u8 ↑b, Value.int IntKind.u8 ↑c] 109)) := hf1.trans (Fr.alloc _ _ hf1.size)
    have d' := d.old hfr
    obtain ⟨y, hy⟩ := Option.isSome_iff_exists.1 (d'.bef.2 m HMZ.out).1
    exact ⟨_, rfl, by simp, by simp, by simp, d'.c3, d'.c4, d'.last, d'.lt.1, hfr, y, hy, (d'.bef.2 m HMZ.out).2, by show w1.heap.size < (w1.heap.push _).size; rw [Array.size_push]; omega, Nat.lt_of_lt_of_le d.lt.2 hf1.size⟩
  rw [← hW]
  have hlo := fun w2 (h1 : w2.cell? ⟨db, 3, none⟩ = some (.map (some mb))) (h2 : LastAt w2 mb t.data.toList m) (h3 : mb < w2.heap.size) => lastOf_any db mb t.data.toList m (a, b, c) w2 HT.out h1 h2 h3
  rw [← hI] at hlo
  unfold triV at hlo
  generalize hkk : w1.heap.size = kb at *
  have hi : (m : Int) < (t.size : Int) := by have := HMZ.out; omega
  clear hW hf1 hkk
  go_region_with (go_at_call 48; refine (hlo W.drew hc3 (hlast.carry rfl) hmb).mono ?_; rintro e w2 ⟨rfl, hf2⟩; have gy := (hf2.cell (b := bb) (o := m) (World.block_lt_of_cell? _ _ hy)).trans hy; have gyf := (hf2.frozen (b := bb) (o := m) (World.block_lt_of_cell? _ _ hy)).trans hyf; have gc4 := (hf2.cell (b := db) (o := 4) (World.block_lt_of_cell? _ _ hc4)).trans hc4)
  all_goals
    rw [← hI]
    have d := HD.out
    have hdb : db < W.heap.size := World.block_lt_of_cell? _ _ hc4
    have hfv : Fr w.heap.size w w2 := hfr.trans ((Fr.drew _ _).trans (hf2.mono (Nat.le_trans hfr.size (Nat.le_refl _))))
    have hne1 : db ≠ bb := d.ne.2.1
    have hne2 : mb ≠ bb := d.ne.2.2
    have hkb3 : kb ≠ bb := by omega
    have q0 : (w2.setCell ⟨bb, m, none⟩ (.int .i64 I)).cell? ⟨kb, 0, none⟩ = some (.int .u8 (a : Int)) := (World.cell?_setCell_other _ _ _ _ (by simp <;> omega)).trans ((hf2.cell hkb).trans hk0)
    have q1 : (w2.setCell ⟨bb, m, none⟩ (.int .i64 I)).cell? ⟨kb, 1, none⟩ = some (.int .u8 (b : Int)) := (World.cell?_setCell_other _ _ _ _ (by simp <;> omega)).trans ((hf2.cell hkb).trans hk1)
    have q2 : (w2.setCell ⟨bb, m, none⟩ (.int .i64 I)).cell? ⟨kb, 2, none⟩ = some (.int .u8 (c : Int)) := (World.cell?_setCell_other _ _ _ _ (by simp <;> omega)).trans ((hf2.cell hkb).trans hk2)
    have q3 : (w2.setCell ⟨bb, m, none⟩ (.int .i64 I)).cell? ⟨db, 3, none⟩ = some (.map (some mb)) := (World.cell?_setCell_other _ _ _ _ (by simp <;> omega)).trans ((hf2.cell hdb).trans hc3)
    have hl : LastAt (w2.setCell ⟨bb, m, none⟩ (.int .i64 I)).drew mb t.data.toList m := hlast.carry ((Below.heap_setCell w2 ⟨bb, m, none⟩ _ mb hne2).trans (hf2.old mb hmb))
    obtain ⟨D, hown, hD, hall⟩ := hl
    obtain ⟨w3, hrun, hown3, hgrow⟩ := hown.update Tryd.triLaw Tryd.underlying37 HMS.out (keyTri HT.out) (plainElem_int Tryd.underlying3 (a := (m : Int)) (WalkArith.wf_i64 (by have := HMS.out; unfold maxLen at this; omega)))
    unfold triV at hrun
    have HFIN : Hid (Dfl w3 n0 db mb bb t (m + 1) ∧ Bt mb bb w w3) := by
      refine keep_more d HMZ.out (Bt.fr hfv) (hfv.old bb d.lt.2) (.int .i64 I) (by rw [hI, htt]) D hD hall (by rw [htt]; exact hown3) ?_
      exact hgrow
    clear hown hD hall hown3 hgrow
    generalize w2.setCell ⟨bb, m, none⟩ (.int .i64 I) = V at *
    clear hc3 hc4 hlast hmb hfr hy hyf hlo hk0 hk1 hk2 gy gyf gc4 hf2 hfv hthree c2
    go_wp2
    go_region
    go_wp2
    go_end0
    exact ⟨rfl, HFIN.out⟩
end Go.Proofs.YtohfpmlofjhigaaDoor
