/-
  flate: (*deflater).stored.
-/
import Derived.Test.YtohfpmlofjhigaaDoorVal
namespace Go.Proofs.YtohfpmlofjhigaaDoor
open Go Go.RowKit Go.Extern.Stop Go.Stop Go.Extern

/-- Noughts up to a whole byte. -/
def padB (n : Nat) : List Bool := List.replicate ((n + 7) / 8 * 8 - n) false
/-- What a stored block says behind its head. -/
def storB (n : Nat) (bs : List UInt8) : List Bool := padB n ++ (lowB bs.length 16 ++ (lowB (65535 - bs.length) 16 ++ bitsOf bs))
theorem pad_even (B : List Bool) : (B ++ padB B.length).length % 8 = 0 := by unfold padB; simp; omega
theorem stor_even (B : List Bool) (bs : List UInt8) : (B ++ padB B.length ++ lowB bs.length 16 ++ lowB (65535 - bs.length) 16).length % 8 = 0 := by
  have := pad_even B
  simp only [List.length_append, lowB_length] at *
  omega
theorem wrapU16 (x : Int) : IntKind.u16.wrap x = x % 65536 := by simp [IntKind.wrap, IntKind.signed, IntKind.bits]
theorem u16_not0 (a : Nat) (h : a < 65536) : Go.bits .xor .u16 65535 (a : Int) = ((65535 - a : Nat) : Int) := by
  rw [show (65535 : Int) = ((65535 : Nat) : Int) from rfl, u16_xor_nat _ _ (by decide) h]
  congr 1
  apply Nat.eq_of_testBit_eq
  intro i
  have e1 : 65535 - a = 2 ^ 16 - (a + 1) := by omega
  have e2 : (65535 : Nat) = 2 ^ 16 - 1 := by decide
  rw [Nat.testBit_xor, e1, Nat.testBit_two_pow_sub_succ (by simpa using h)]
  rw [e2, Nat.testBit_two_pow_sub_one]
  by_cases hi : i < 16
  · simp [hi]
  · have : a.testBit i = false := Nat.testBit_lt_two_pow (Nat.lt_of_lt_of_le h (by rw [show (65536 : Nat) = 2 ^ 16 by decide]; exact Nat.pow_le_pow_right (by omega) (by omega)))
    simp [hi, this]

theorem u16_not (a : Nat) (h : a < 65536) : wrap64 (Go.bits .xor .u16 IntKind.u16.max (a : Int)) = ((65535 - a : Nat) : Int) := by
  rw [show IntKind.u16.max = (65535 : Int) from by decide, u16_not0 a h]
  unfold wrap64
  omega

/-- What was appended to is stored. -/
theorem sto_facts {w3 w4 : World} {db M : Nat} {v v4 : Value} {cs4 : List Value} {n : Int} (c0 : w3.cell? ⟨db, 0, none⟩ = some v) (c1 : w3.cell? ⟨db, 1, none⟩ = some (.int .i64 n)) (f0 : w3.frozen? ⟨db, 0, none⟩ = false) (f1 : w3.frozen? ⟨db, 1, none⟩ = false) (hbd : blk v ≠ some db) (hg : Grew w3 v w4 v4) (hr : Row w4 1 v4 M cs4) :
    w4.cell? ⟨db, 0, none⟩ = some v ∧ w4.frozen? ⟨db, 0, none⟩ = false ∧ (w4.setCell ⟨db, 0, none⟩ v4).cell? ⟨db, 0, none⟩ = some v4 ∧ Row (w4.setCell ⟨db, 0, none⟩ v4) 1 v4 M cs4 ∧ blk v4 ≠ some db ∧ (w4.setCell ⟨db, 0, none⟩ v4).cell? ⟨db, 1, none⟩ = some (.int .i64 n) ∧ (w4.setCell ⟨db, 0, none⟩ v4).frozen? ⟨db, 0, none⟩ = false ∧ (w4.setCell ⟨db, 0, none⟩ v4).frozen? ⟨db, 1, none⟩ = false ∧ Kp db 0 w3 (w4.setCell ⟨db, 0, none⟩ v4) := by
  have hdb : db < w3.heap.size := World.block_lt_of_cell? _ _ c0
  have e := hg.old db hdb hbd
  have c0' : w4.cell? ⟨db, 0, none⟩ = some v := hg.cell hdb hbd c0
  have hk := Kp.grew hg c0 hbd
  have hb4 : blk v4 ≠ some db := by
    rcases hg.at' with e' | ⟨g', h1, e'⟩
    · rw [e']; exact hbd
    · rw [e']; intro h; cases h; omega
  exact ⟨c0', (World.frozen?_of_block (a := ⟨db, 0, none⟩) e).trans f0, World.cell?_setCell_same _ _ _ c0', hr.carry (fun i hi => Below.heap_setCell w4 ⟨db, 0, none⟩ _ i (fun e' => hb4 (by rw [hi]; exact congrArg some e'))), hb4, (World.cell?_setCell_other _ _ _ _ (by simp)).trans (hg.cell hdb hbd c1), (hk.froz 0).trans f0, (hk.froz 1).trans f1, hk⟩

theorem mk_bytes {X Y : List UInt8} {M : Nat} {w : World} {v : Value} {p : ByteArray} (he : Y = X ++ p.data.toList) (hm : X.length = M) (h : Row w 1 v (M + p.size) (cellsOf X ++ byteCells p)) : Bytes w v Y := by
  subst he
  unfold Bytes
  rw [cellsOf_append, List.length_append, hm]
  exact h

set_option maxRecDepth 4000 in
theorem toByte_gen (db : Nat) (B : List Bool) (w : World) (n : Int) (v : Value) (hN : B.length ≤ 70368744177664) (h8 : B.length % 8 = 0) (k0 : w.cell? ⟨db, 0, none⟩ = some v) (hrow : Bytes w v (pack B)) (hbd : blk v ≠ some db) (k1 : w.cell? ⟨db, 1, none⟩ = some (.int .i64 n)) (kz : w.frozen? ⟨db, 0, none⟩ = false) (kf : w.frozen? ⟨db, 1, none⟩ = false) :
    Calls Tryd.prog 34 #[.pointer (some ⟨db, 0, none⟩)] w fun e w' => e = .returned (.tuple #[]) ∧ Wr w' db B ∧ Kp db 0 w w' := by
  have hpl : (pack B).length = (B.length + 7) / 8 := pack_length B
  have HPL : Hid ((pack B).length * 8 = (B.length + 7) / 8 * 8) := by show _ = _; rw [hpl]
  have HROW : Hid (Bytes w v (pack B)) := hrow
  obtain ⟨a, c, hv⟩ := hrow.shape
  subst hv
  have hwm : wrap64 (((pack B).length : Int) * 8) = ((pack B).length : Int) * 8 := by unfold wrap64; omega
  clear hpl hN hrow
  generalize hm : (pack B).length = m at *
  go_enter Tryd.func34, Tryd.ntmps34
  go_wp2
  go_end0
  refine ⟨rfl, ⟨⟨_, (World.cell?_setCell_other _ _ _ _ (by simp)).trans k0, ?_, hbd⟩, ?_, by rw [World.frozen?_setCell]; exact kz, by rw [World.frozen?_setCell]; exact kf⟩, Kp.set1 _ _ _ _ (by decide)⟩
  · have hb := HROW.out
    refine Row.carry hb (fun i hi => Below.heap_setCell w ⟨db, 1, none⟩ _ i (fun e => hbd (by rw [hi]; exact congrArg some e)))
  · rw [World.cell?_setCell_same _ _ _ k1]
    have := HPL.out
    congr 2
    omega

set_option maxRecDepth 8000 in
set_option maxHeartbeats 2000000 in
theorem dstored_any (db : Nat) (B : List Bool) (p : ByteArray) (w : World) (hp : p.size ≤ 65535) (hN : B.length ≤ 70368740000000) (hW : Wr w db B) :
    Calls Tryd.prog 20 #[.pointer (some ⟨db, 0, none⟩), .string p] w fun e w' => e = .returned (.tuple #[]) ∧ Wr w' db (B ++ storB B.length p.data.toList) ∧ Kp db 0 w w' := by
  obtain ⟨i, hi, hi'⟩ := Option.map_eq_some_iff.1 Tryd.infoU8
  obtain ⟨hz0, hz1, hz2⟩ : i.zero = some (.int .u8 0) ∧ i.size = 1 ∧ i.bytes = 1 := by simpa using hi'
  have hpl : (padB B.length).length ≤ 8 := by unfold padB; simp; omega
  have ht1 := toByte_any db B w (by omega) hW
  have hn1 := fun w1 (h : Wr w1 db (B ++ padB B.length)) => number_eq db (B ++ padB B.length) p.size 16 p.size 16 w1 rfl rfl (by simp; omega) (by omega) (by omega) h
  have hn2 := fun w1 (x : Int) (hx : x = ((65535 - p.size : Nat) : Int)) (h : Wr w1 db (B ++ padB B.length ++ lowB p.size 16)) => number_eq db _ (65535 - p.size) 16 x 16 w1 hx rfl (by simp; omega) (by omega) (by omega) h
  have hpd : p.data.toList.length = p.size := by simp
  have hev := stor_even B p.data.toList
  rw [hpd] at hev
  have HE : Hid (pack (B ++ padB B.length ++ lowB p.size 16 ++ lowB (65535 - p.size) 16 ++ bitsOf p.data.toList) = pack (B ++ padB B.length ++ lowB p.size 16 ++ lowB (65535 - p.size) 16) ++ p.data.toList) := pack_bytes _ _ hev
  have HB : Hid (B ++ padB B.length ++ lowB p.size 16 ++ lowB (65535 - p.size) 16 ++ bitsOf p.data.toList = B ++ storB B.length p.data.toList) := by show _ = _; unfold storB; rw [hpd]; simp
  have HC : Hid (∀ (w1 : World) (n : Int) (v : Value), w1.cell? ⟨db, 0, none⟩ = some v → Bytes w1 v (pack (B ++ storB B.length p.data.toList)) → blk v ≠ some db → w1.cell? ⟨db, 1, none⟩ = some (.int .i64 n) → w1.frozen? ⟨db, 0, none⟩ = false → w1.frozen? ⟨db, 1, none⟩ = false → Calls Tryd.prog 34 #[.pointer (some ⟨db, 0, none⟩)] w1 fun e w' => e = .returned (.tuple #[]) ∧ Wr w' db (B ++ storB B.length p.data.toList) ∧ Kp db 0 w1 w') := by
    intro w1 n v h1 h2 h3 h4 h5 h6
    refine toByte_gen db _ w1 n v ?_ ?_ h1 h2 h3 h4 h5 h6
    · rw [← HB.out]; simp; omega
    · rw [← HB.out, List.length_append, bitsOf_length]; omega
  have HL : Hid ((pack (B ++ padB B.length ++ lowB p.size 16 ++ lowB (65535 - p.size) 16)).length + p.size ≤ 70368744170000) := by show _ ≤ _; rw [pack_length]; simp; omega
  have hcu : IntKind.u16.wrap (p.size : Int) = (p.size : Int) := by rw [wrapU16]; omega
  have hxor := u16_not p.size (by omega)
  have HT1 : Hid (Calls Tryd.prog 34 #[.pointer (some ⟨db, 0, none⟩)] w fun e w' => e = .returned (.tuple #[]) ∧ Wr w' db (B ++ padB B.length) ∧ Kp db 0 w w') := ht1
  rw [HB.out] at HE
  have hsz : (p.size : Int) % 65536 = (p.size : Int) := by omega
  clear ht1 hpl hev hpd hN hW hp HB
  generalize 65535 - p.size = q at *
  obtain ⟨M, HM⟩ : ∃ M, Hid ((pack (B ++ padB B.length ++ lowB p.size 16 ++ lowB q 16)).length = M) := ⟨_, rfl⟩
  rw [HM.out] at HL
  go_enter Tryd.func20, Tryd.ntmps20
  go_wp2_with (first
    | (go_at_call 34; refine (HC.out _ _ _ z0 Z1 z2 z3 z4 z5).mono ?_; rintro e w9 ⟨rfl, hw9, hk9⟩)
    | (go_at_call 34; refine HT1.out.mono ?_; rintro e w1 ⟨rfl, hw1, hk1⟩)
    | (go_at_call 29; refine (hn2 _ _ hxor hw2).mono ?_; rintro e w3 ⟨rfl, hw3, hk3⟩; obtain ⟨⟨v, c0, hrow, hbd⟩, c1, f0, f1⟩ := hw3; change Row _ 1 v (pack (B ++ padB B.length ++ lowB p.size 16 ++ lowB q 16)).length (cellsOf (pack (B ++ padB B.length ++ lowB p.size 16 ++ lowB q 16))) at hrow; rw [HM.out] at hrow; have HR3 : Hid (w3.cell? ⟨db, 1, none⟩ = some (.int .i64 (B ++ padB B.length ++ lowB p.size 16 ++ lowB q 16).length)) := c1; clear c1)
    | (go_at_call 29; refine (hn1 _ hw1).mono ?_; rintro e w2 ⟨rfl, hw2, hk2⟩; clear hn1)
    | (at_builtin; refine wpList_append_row _ rfl (.tmp 30) (.tmp 31) 39 9 rfl (by decide) i (.int .u8 0) 1 Tryd.underlying39 hi hz0 hz1 hz2 rfl rfl hrow _ p.size (byteCells p) rfl (Src.ofString _ Tryd.underlying9 p) (by have := HL.out; unfold maxLen; omega) (by have := HL.out; omega) ?_; intro v4 w4 hrow4 hg4; obtain ⟨a4, c4, hv4⟩ := hrow4.shape; subst hv4; obtain ⟨y0, y1, z0, z1, z2, z3, z4, z5, hk4⟩ := sto_facts c0 HR3.out f0 f1 hbd hg4 hrow4; have Z1 := mk_bytes HE.out HM.out z1))
  go_end0
  exact ⟨rfl, hw9, (((hk1.trans hk2).trans hk3).trans hk4).trans hk9⟩
end Go.Proofs.YtohfpmlofjhigaaDoor
