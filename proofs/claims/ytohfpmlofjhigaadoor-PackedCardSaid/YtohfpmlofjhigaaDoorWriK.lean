/-
  flate: (*bitWriter).backTo.
-/
import Derived.Test.YtohfpmlofjhigaaDoorWri
namespace Go.Proofs.YtohfpmlofjhigaaDoor
open Go Go.RowKit Go.Extern.Stop Go.Stop Go.Extern

/-- The first m of a row. -/
theorem RowAt.first {w : World} {g c N : Nat} {cs : List Value} (h : RowAt w 1 g c N cs) (m : Nat) (hm : m ≤ N) : RowAt w 1 g c m (cs.take m) := by
  have hl := h.len
  refine ⟨h.lt, Nat.le_trans hm h.le, h.max, by rw [List.length_take]; omega, fun j hj => ?_, h.there⟩
  rw [h.holds j (by omega), List.getElem?_take_of_lt (by omega)]
theorem cellsOf_take (bs : List UInt8) (m : Nat) : cellsOf (bs.take m) = (cellsOf bs).take m := by unfold cellsOf; rw [List.map_take]

/-- The slice is cut. -/
theorem cut_facts {w : World} {db g c N m : Nat} {cs : List Value} {n : Int} (hgd : g ≠ db) (k0 : w.cell? ⟨db, 0, none⟩ = some (.slice (some ⟨g, 0, none⟩) N c)) (k1 : w.cell? ⟨db, 1, none⟩ = some (.int .i64 n)) (kz : w.frozen? ⟨db, 0, none⟩ = false) (kf : w.frozen? ⟨db, 1, none⟩ = false) (hr : RowAt w 1 g c m cs) :
    ∃ W, W = (w.setCell ⟨db, 0, none⟩ (.slice (some ⟨g, 0, none⟩) m c)).drew ∧ W.cell? ⟨db, 0, none⟩ = some (.slice (some ⟨g, 0, none⟩) m c) ∧ W.cell? ⟨db, 1, none⟩ = some (.int .i64 n) ∧ W.frozen? ⟨db, 0, none⟩ = false ∧ W.frozen? ⟨db, 1, none⟩ = false ∧ RowAt W 1 g c m cs ∧ Kp db 0 w W := by
  refine ⟨_, rfl, World.cell?_setCell_same _ _ _ k0, (World.cell?_setCell_other _ _ _ _ (by simp)).trans k1, ?_, ?_, ?_, ?_⟩
  · show World.frozen? (World.setCell _ _ _) _ = false; rw [World.frozen?_setCell]; exact kz
  · show World.frozen? (World.setCell _ _ _) _ = false; rw [World.frozen?_setCell]; exact kf
  · rcases Row.carry (.inr ⟨g, c, rfl, hr⟩) (w' := (w.setCell ⟨db, 0, none⟩ (.slice (some ⟨g, 0, none⟩) m c)).drew) (fun i hi => by
      obtain rfl : g = i := by simpa [blk] using hi
      exact Below.heap_setCell w ⟨db, 0, none⟩ _ g hgd) with ⟨e, _⟩ | ⟨g', c', e, h⟩
    · cases e
    · cases e; exact h
  · exact (Kp.grew (v := .slice (some ⟨g, 0, none⟩) N c) (v' := .slice (some ⟨g, 0, none⟩) m c) ⟨rfl, rfl, Nat.le_refl _, fun _ _ _ => rfl, .inl rfl⟩ k0 (fun e => hgd (by simpa [blk] using e))).trans (Kp.drew _ _ _)
theorem set1_facts {w W : World} {db g c m : Nat} {cs : List Value} {n : Int} (x : Int) (hgd : g ≠ db) (qk : Kp db 0 w W) (k0 : W.cell? ⟨db, 0, none⟩ = some (.slice (some ⟨g, 0, none⟩) m c)) (k1 : W.cell? ⟨db, 1, none⟩ = some (.int .i64 n)) (kz : W.frozen? ⟨db, 0, none⟩ = false) (kf : W.frozen? ⟨db, 1, none⟩ = false) (hr : RowAt W 1 g c m cs) :
    ∃ W', W' = W.setCell ⟨db, 1, none⟩ (.int .i64 x) ∧ W'.cell? ⟨db, 0, none⟩ = some (.slice (some ⟨g, 0, none⟩) m c) ∧ W'.cell? ⟨db, 1, none⟩ = some (.int .i64 x) ∧ W'.frozen? ⟨db, 0, none⟩ = false ∧ W'.frozen? ⟨db, 1, none⟩ = false ∧ RowAt W' 1 g c m cs ∧ Kp db 0 w W' := by
  refine ⟨_, rfl, (World.cell?_setCell_other _ _ _ _ (by simp)).trans k0, World.cell?_setCell_same _ _ _ k1, by rw [World.frozen?_setCell]; exact kz, by rw [World.frozen?_setCell]; exact kf, ?_, qk.trans (Kp.set1 _ _ _ _ (by decide))⟩
  rcases Row.carry (.inr ⟨g, c, rfl, hr⟩) (w' := W.setCell ⟨db, 1, none⟩ (.int .i64 x)) (fun i hi => by
    obtain rfl : g = i := by simpa [blk] using hi
    exact Below.heap_setCell W ⟨db, 1, none⟩ _ g hgd) with ⟨e, _⟩ | ⟨g', c', e, h⟩
  · cases e
  · cases e; exact h
/-- Cell 1 is stored. -/
theorem Wr.set1 {w W : World} {db g c m : Nat} {B' : List Bool} {n : Int} (hgd : g ≠ db) (hk : Kp db 0 w W) (k0 : W.cell? ⟨db, 0, none⟩ = some (.slice (some ⟨g, 0, none⟩) m c)) (k1 : W.cell? ⟨db, 1, none⟩ = some (.int .i64 n)) (kz : W.frozen? ⟨db, 0, none⟩ = false) (kf : W.frozen? ⟨db, 1, none⟩ = false) (hr : RowAt W 1 g c m (cellsOf (pack B'))) (x : Int) (hl : x = B'.length) : Wr (W.setCell ⟨db, 1, none⟩ (.int .i64 x)) db B' ∧ Kp db 0 w (W.setCell ⟨db, 1, none⟩ (.int .i64 x)) := by
  have hm : (pack B').length = m := by have := hr.len; simp [cellsOf] at this; simpa using this
  subst hl
  refine ⟨⟨⟨_, (World.cell?_setCell_other _ _ _ _ (by simp)).trans k0, ?_, fun e => hgd (by simpa [blk] using e)⟩, World.cell?_setCell_same _ _ _ k1, by rw [World.frozen?_setCell]; exact kz, by rw [World.frozen?_setCell]; exact kf⟩, hk.trans (Kp.set1 _ _ _ _ (by decide))⟩
  show Row _ 1 _ (pack B').length _
  rw [hm]
  exact Row.carry (.inr ⟨g, c, rfl, hr⟩) (fun i hi => by
    obtain rfl : g = i := by simpa [blk] using hi
    exact Below.heap_setCell W ⟨db, 1, none⟩ _ g hgd)
theorem Wr.put {w W : World} {db g c m i : Nat} {B' : List Bool} {y : Value} (hgd : g ≠ db) (hk : Kp db 0 w W) (k0 : W.cell? ⟨db, 0, none⟩ = some (.slice (some ⟨g, 0, none⟩) m c)) (k1 : W.cell? ⟨db, 1, none⟩ = some (.int .i64 B'.length)) (kz : W.frozen? ⟨db, 0, none⟩ = false) (kf : W.frozen? ⟨db, 1, none⟩ = false) {cs : List Value} (hr : RowAt W 1 g c m cs) (hi : i < m) (hl : cs.set i y = cellsOf (pack B')) : Wr (W.setCell ⟨g, i, none⟩ y).drew db B' ∧ Kp db 0 w (W.setCell ⟨g, i, none⟩ y).drew := by
  have hr2 := hr.put i hi y
  rw [hl] at hr2
  have hm : (pack B').length = m := by have := hr2.len; simp [cellsOf] at this; simpa using this
  refine ⟨⟨⟨_, (World.cell?_setCell_other _ _ _ _ (by simp <;> omega)).trans k0, ?_, fun e => hgd (by simpa [blk] using e)⟩, (World.cell?_setCell_other _ _ _ _ (by simp <;> omega)).trans k1, by show World.frozen? (World.setCell _ _ _) _ = false; rw [World.frozen?_setCell]; exact kz, by show World.frozen? (World.setCell _ _ _) _ = false; rw [World.frozen?_setCell]; exact kf⟩, (hk.trans (Kp.setIn db 0 g i W _ (by unfold blkAt; rw [k0]; rfl) hgd)).trans (Kp.drew _ _ _)⟩
  show Row _ 1 _ (pack B').length _
  rw [hm]
  exact .inr ⟨g, c, rfl, ⟨hr2.lt, hr2.le, hr2.max, hr2.len, hr2.holds, hr2.there⟩⟩

theorem and_mask (a r : Nat) (ha : a < 256) (hr : r < 8) : Go.bits .and .u8 (a : Int) (IntKind.u8.wrap (IntKind.u8.wrap (2 ^ r) - 1)) = ((a % 2 ^ r : Nat) : Int) := by
  have hw : ∀ x : Int, IntKind.u8.wrap x = x % 256 := fun x => by simp [IntKind.wrap, IntKind.signed, IntKind.bits]
  have hp : 2 ^ r ≤ 128 := Nat.le_trans (Nat.pow_le_pow_right (by omega) (show r ≤ 7 by omega)) (by decide)
  have h0 : 0 < 2 ^ r := Nat.pos_of_ne_zero (by simp)
  have e : ((2 : Int) ^ r) = ((2 ^ r : Nat) : Int) := by push_cast; rfl
  have e2 : IntKind.u8.wrap (IntKind.u8.wrap (2 ^ r) - 1) = ((2 ^ r - 1 : Nat) : Int) := by rw [hw, hw, e]; omega
  rw [e2, u8_and_nat _ _ (by omega) (by omega), Nat.and_two_pow_sub_one_eq_mod]

set_option maxRecDepth 8000 in
set_option maxHeartbeats 1000000 in
theorem backTo_even (db : Nat) (B : List Bool) (k : Nat) (w : World) (hN : B.length ≤ 70368744177664) (hk : k ≤ B.length) (hB : 0 < B.length) (h8 : k % 8 = 0) (hW : Wr w db B) :
    Calls Tryd.prog 19 #[.pointer (some ⟨db, 0, none⟩), .int .i64 k] w fun e w' => e = .returned (.tuple #[]) ∧ Wr w' db (B.take k) ∧ Kp db 0 w w' := by
  obtain ⟨⟨v, k0, hrow, hbd⟩, k1, kz, kf⟩ := hW
  have hpl : (pack B).length = (B.length + 7) / 8 := pack_length B
  change Row w 1 v (pack B).length (cellsOf (pack B)) at hrow
  obtain ⟨g, c, hv, hr⟩ := Row.some hrow (by omega)
  subst hv
  have hgd : g ≠ db := fun e => hbd (by rw [e]; rfl)
  have hwb := fun w => wholeBytes_any k w (by omega)
  have e8 : (k + 7) / 8 = k / 8 := by omega
  rw [e8] at hwb
  have hle := hr.le
  have h1 : ((k / 8 : Nat) : Int) ≤ (c : Int) := by omega
  have hmod : Int.tmod (k : Int) 8 = 0 := by rw [Int.tmod_eq_emod_of_nonneg (by omega)]; omega
  have HR : Hid (RowAt w 1 g c (k / 8) ((cellsOf (pack B)).take (k / 8))) := hr.first (k / 8) (by omega)
  have HP : Hid (pack (B.take k) = (pack B).take (k / 8)) := pack_take B k hk h8
  have HK : Hid (k ≤ B.length) := hk
  have HL : Hid ((pack B).length = (B.length + 7) / 8) := hpl
  clear hr hrow hpl hle h8
  generalize hm : k / 8 = m at *
  generalize (pack B).length = N at *
  generalize hki : (k : Int) = ki at *
  clear hN hk hB
  go_enter Tryd.func19, Tryd.ntmps19
  go_wp2
  go_region_with (go_at_call 18; refine (hwb _).mono ?_; rintro e w1 ⟨rfl, rfl⟩)
  all_goals
    obtain ⟨W, hW, q0, q1, qz, qf, qr, qk⟩ := cut_facts hgd k0 k1 kz kf HR.out
    rw [← hW]
    clear hW
    go_wp2
    go_end0
    refine ⟨rfl, Wr.set1 hgd qk q0 q1 qz qf (by rw [HP.out, cellsOf_take]; exact qr) _ ?_⟩
    have := HK.out
    rw [List.length_take]
    omega

set_option maxRecDepth 8000 in
set_option maxHeartbeats 1000000 in
theorem backTo_odd (db : Nat) (B : List Bool) (k : Nat) (w : World) (hN : B.length ≤ 70368744177664) (hk : k ≤ B.length) (hB : 0 < B.length) (h8 : k % 8 ≠ 0) (hW : Wr w db B) :
    Calls Tryd.prog 19 #[.pointer (some ⟨db, 0, none⟩), .int .i64 k] w fun e w' => e = .returned (.tuple #[]) ∧ Wr w' db (B.take k) ∧ Kp db 0 w w' := by
  obtain ⟨⟨v, k0, hrow, hbd⟩, k1, kz, kf⟩ := hW
  have hpl : (pack B).length = (B.length + 7) / 8 := pack_length B
  change Row w 1 v (pack B).length (cellsOf (pack B)) at hrow
  obtain ⟨g, c, hv, hr⟩ := Row.some hrow (by omega)
  subst hv
  have hgd : g ≠ db := fun e => hbd (by rw [e]; rfl)
  have hwb := fun w => wholeBytes_any k w (by omega)
  have e8 : (k + 7) / 8 = k / 8 + 1 := by omega
  rw [e8] at hwb
  have hle := hr.le
  have h1 : ((k / 8 + 1 : Nat) : Int) ≤ (c : Int) := by omega
  have hmod : Int.tmod (k : Int) 8 = ((k % 8 : Nat) : Int) := by rw [Int.tmod_eq_emod_of_nonneg (by omega)]; omega
  have hpos : ((0 : Int) < ((k % 8 : Nat) : Int)) = True := by simp; omega
  have hsh : ((k % 8 : Nat) : Int) < 64 := by omega
  have HR : Hid (RowAt w 1 g c (k / 8 + 1) ((cellsOf (pack B)).take (k / 8 + 1))) := hr.first (k / 8 + 1) (by omega)
  have HP : Hid (pack (B.take k) = (pack B).take (k / 8) ++ [UInt8.ofNat (byteAt B (k / 8) % 2 ^ (k % 8))]) := pack_take' B k hk h8
  have HY : Hid (((cellsOf (pack B)).take (k / 8 + 1)).set (k / 8) (.int .u8 ((byteAt B (k / 8) % 2 ^ (k % 8) : Nat) : Int)) = cellsOf (pack (B.take k))) := by
    show _ = _
    rw [HP.out, cellsOf_append, List.take_add_one]
    have e2 : ((cellsOf (pack B)).take (k / 8)).length = k / 8 := by simp [cellsOf]; omega
    have e3 : (cellsOf (pack B))[k / 8]? = some (.int .u8 (byteAt B (k / 8) : Int)) := by
      unfold cellsOf
      rw [List.getElem?_map, List.getElem?_eq_getElem (by omega), pack_get]
      simp only [Option.map_some, ofNat_byteAt]
    rw [e3, List.set_append_right _ _ (by omega), e2, cellsOf_take]
    simp only [Option.toList_some, Nat.sub_self, List.set_cons_zero, cellsOf, List.map_cons, List.map_nil]
    rw [UInt8.toNat_ofNat_of_lt' (Nat.lt_of_le_of_lt (Nat.mod_le _ _) (byteAt_lt _ _))]
  have kl : w.cell? ⟨g, k / 8, none⟩ = some (.int .u8 (byteAt B (k / 8) : Int)) := by
    rw [hr.holds _ (by omega)]
    unfold cellsOf
    rw [List.getElem?_map, List.getElem?_eq_getElem (by omega), pack_get]
    simp only [Option.map_some, ofNat_byteAt]
  have klf : w.frozen? ⟨g, k / 8, none⟩ = false := (hr.there _ (by omega)).2
  have HAND : Hid (Go.bits .and .u8 (byteAt B (k / 8) : Int) (IntKind.u8.wrap (IntKind.u8.wrap (2 ^ (k % 8)) - 1)) = ((byteAt B (k / 8) % 2 ^ (k % 8) : Nat) : Int)) := and_mask _ _ (byteAt_lt _ _) (by omega)
  have hwm : wrap64 ((k / 8 : Nat) : Int) = ((k / 8 : Nat) : Int) := by unfold wrap64; omega
  have hwk : IntKind.i64.wrap ((k / 8 : Nat) : Int) = ((k / 8 : Nat) : Int) := by rw [IntKind.wrap_i64]; unfold wrap64 at hwm; exact hwm
  have HK : Hid (k ≤ B.length) := hk
  have HL : Hid ((pack B).length = (B.length + 7) / 8) := hpl
  clear hr hrow hpl hle h8
  generalize hyy : byteAt B (k / 8) = y at *
  generalize hm : k / 8 = m at *
  generalize hkk : k % 8 = r at *
  generalize (pack B).length = N at *
  generalize hki : (k : Int) = ki at *
  clear hN hk hB
  go_enter Tryd.func19, Tryd.ntmps19
  go_wp2
  go_region_with (go_at_call 18; refine (hwb _).mono ?_; rintro e w1 ⟨rfl, rfl⟩)
  all_goals
    obtain ⟨W, hW, q0, q1, qz, qf, qr, qk⟩ := cut_facts hgd k0 k1 kz kf HR.out
    rw [← hW]
    clear hW
    go_wp2
    obtain ⟨V, hV, p0, p1, pz, pf, pr, pk⟩ := set1_facts ki hgd qk q0 q1 qz qf qr
    rw [← hV]
    clear hV
    have ql : V.cell? ⟨g, m, none⟩ = some (.int .u8 (y : Int)) := by
      rw [pr.holds m (by omega), ← HR.out.holds m (by omega)]; exact kl
    have qlf : V.frozen? ⟨g, m, none⟩ = false := (pr.there m (by have := pr.le; omega)).2
    have HQR : Hid (RowAt V 1 g c (m + 1) ((cellsOf (pack B)).take (m + 1))) := pr
    clear kl klf qr pr q0 q1 qz qf k0 k1
    go_region
    go_end0
    have HL2 : ki = ((B.take k).length : Int) := by have := HK.out; rw [List.length_take]; omega
    subst HL2
    refine ⟨rfl, Wr.put hgd pk p0 p1 pz pf HQR.out (by omega) ?_⟩
    first
      | (rw [← HY.out, ← HAND.out]; done)
      | (rw [← HY.out]; congr 2; rw [← HAND.out]; simp [IntKind.wrap, IntKind.signed, IntKind.bits])
theorem backTo_any (db : Nat) (B : List Bool) (k : Nat) (w : World) (hN : B.length ≤ 70368744177664) (hk : k ≤ B.length) (hB : 0 < B.length) (hW : Wr w db B) :
    Calls Tryd.prog 19 #[.pointer (some ⟨db, 0, none⟩), .int .i64 k] w fun e w' => e = .returned (.tuple #[]) ∧ Wr w' db (B.take k) ∧ Kp db 0 w w' := by
  by_cases h8 : k % 8 = 0
  · exact backTo_even db B k w hN hk hB h8 hW
  · exact backTo_odd db B k w hN hk hB h8 hW
end Go.Proofs.YtohfpmlofjhigaaDoor
