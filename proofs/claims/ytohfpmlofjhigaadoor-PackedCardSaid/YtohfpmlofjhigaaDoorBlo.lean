/-
  flate: (*deflater).block.
-/
import Derived.Test.YtohfpmlofjhigaaDoorCod
import Derived.Test.YtohfpmlofjhigaaDoorSto
import Derived.Test.YtohfpmlofjhigaaDoorWriK
namespace Go.Proofs.YtohfpmlofjhigaaDoor
open Go Go.RowKit Go.Extern.Stop Go.Stop Go.Extern Go.Maps Go.WideMaps

/-- A block: by tokens, or as it stands. -/
inductive Blk where
  | fixed (toks : List Tok)
  | stored
/-- The bytes of a part. -/
def part (t : ByteArray) (from' to : Nat) : List UInt8 := (t.extract from' to).data.toList
/-- Its bits, where pos stand ahead. -/
def blkB (t : ByteArray) (from' to pos : Nat) : Blk → List Bool
  | .fixed toks => decide (to = t.size) :: lowB 1 2 ++ toksB toks ++ valB 256
  | .stored => decide (to = t.size) :: lowB 0 2 ++ storB (pos + 3) (part t from' to)
/-- What a block is that block has written behind B. -/
structure BlkIs (t : ByteArray) (from' to : Nat) (B : List Bool) (k : Blk) : Prop where
  toks : ∀ l, k = .fixed l → Toks t.data.toList to from' l
  most : (B ++ blkB t from' to B.length k).length ≤ (B.length + 10) / 8 * 8 + 32 + 8 * (to - from')
  short : ∃ l, Toks t.data.toList to from' l ∧ (B ++ blkB t from' to B.length k).length ≤ B.length + 3 + (toksB l).length + 7
theorem wholeBytes_eq (n : Nat) (x : Int) (w : World) (hx : x = n) (h : n ≤ 70368744177664) :
    Calls Tryd.prog 18 #[.int .i64 x] w fun e w' => e = .returned (.int .i64 ((n + 7) / 8 : Nat)) ∧ w' = w := by
  subst hx
  exact wholeBytes_any n w h
theorem head_eq (db : Nat) (B : List Bool) (t : ByteArray) (kind to : Nat) (x : Int) (w : World) (hx : x = kind) (hk : kind < 4) (hN : B.length ≤ 70368744177000) (hW : Wr w db B) (c2 : w.cell? ⟨db, 2, none⟩ = some (.string t)) :
    Calls Tryd.prog 16 #[.pointer (some ⟨db, 0, none⟩), .int .i64 x, .int .i64 to] w fun e w' => e = .returned (.tuple #[]) ∧ Wr w' db (B ++ decide (to = t.size) :: lowB kind 2) ∧ Kp db 0 w w' := by
  subst hx
  exact head_any db B t kind to w hk hN hW c2
theorem val256 : (valB 256).length = 7 := by kernel_rfl
theorem storB_length (n : Nat) (bs : List UInt8) : (storB n bs).length = (n + 7) / 8 * 8 - n + 32 + 8 * bs.length := by
  unfold storB padB
  simp
  omega
theorem part_length (t : ByteArray) (from' to : Nat) (h1 : from' ≤ to) (h2 : to ≤ t.size) : (part t from' to).length = to - from' := by
  unfold part
  have : (t.extract from' to).size = to - from' := by rw [ByteArray.size_extract]; omega
  rw [Array.length_toList]
  exact this

set_option maxRecDepth 8000 in
set_option maxHeartbeats 2000000 in
theorem block_any (n0 db mb bb : Nat) (t : ByteArray) (B : List Bool) (from' to : Nat) (w : World) (hn0 : 32 ≤ n0) (hft : from' ≤ to) (hto : to ≤ t.size) (h64 : to ≤ from' + 65535) (hz : t.size ≤ 70368744177000) (hN : B.length ≤ 100000000) (hW : Wr w db B) (hD : Dfl w n0 db mb bb t (mAt t from')) (hS : SpAt w 20 lenF) (hT : SpAt w 21 disF) :
    Calls Tryd.prog 11 #[.pointer (some ⟨db, 0, none⟩), .int .i64 from', .int .i64 to] w fun e w' => e = .returned (.tuple #[]) ∧ ∃ k, BlkIs t from' to B k ∧ Wr w' db (B ++ blkB t from' to B.length k) ∧ Dfl w' n0 db mb bb t (mAt t to) ∧ Fr n0 w w' := by
  have hhd := head_eq db B t 1 to 1 w rfl (by decide) (by omega) hW hD.c2
  have hcd := fun w1 (hw : Wr w1 db (B ++ decide (to = t.size) :: lowB 1 2)) (hd : Dfl w1 n0 db mb bb t (mAt t from')) (hs : SpAt w1 20 lenF) (ht : SpAt w1 21 disF) => dcoded_any n0 db mb bb t (B ++ decide (to = t.size) :: lowB 1 2) from' to w1 hn0 hft hto h64 hz (by simp; omega) hw hd hs ht
  have hwb := fun (x : Int) (hx : x = ((B.length + 3 : Nat) : Int)) w1 => wholeBytes_eq (B.length + 3) x w1 hx (by omega)
  have HG : Hid (∀ w1, Kp db 0 w w1 → Dfl w1 n0 db mb bb t (mAt t from') ∧ Fr n0 w w1 ∧ SpAt w1 20 lenF ∧ SpAt w1 21 disF) := fun w1 k => by
    obtain ⟨d1, f1⟩ := hD.kp k
    exact ⟨d1, f1, hS.carry (f1.old _ (Nat.lt_of_lt_of_le (by decide) hn0)), hT.carry (f1.old _ (Nat.lt_of_lt_of_le (by decide) hn0))⟩
  have hbk := fun w3 toks (hlen : (toksB toks).length ≤ 32 * (to - from')) (hw : Wr w3 db (B ++ decide (to = t.size) :: lowB 1 2 ++ toksB toks ++ valB 256)) => backTo_any db _ B.length w3 (by have := val256; simp; omega) (by simp) (by simp; omega) hw
  have htake : ∀ toks, (B ++ decide (to = t.size) :: lowB 1 2 ++ toksB toks ++ valB 256).take B.length = B := fun toks => by simp
  have hhd0 := fun w4 (hw : Wr w4 db B) (hc : w4.cell? ⟨db, 2, none⟩ = some (.string t)) => head_eq db B t 0 to 0 w4 rfl (by decide) (by omega) hw hc
  have hst := fun w5 (hw : Wr w5 db (B ++ decide (to = t.size) :: lowB 0 2)) => dstored_any db _ (t.extract from' to) w5 (by rw [ByteArray.size_extract]; omega) (by simp; omega) hw
  have HB1 : Hid (∀ toks, Toks t.data.toList to from' toks → B.length + (2 + ((toksB toks).length + (valB 256).length) + 1) ≤ (B.length + 3 + 7) / 8 * 8 + 32 + (to - from') * 8 → BlkIs t from' to B (.fixed toks)) := fun toks h1 h2 => by
    have h3 := val256
    refine ⟨fun l e => by cases e; exact h1, ?_, toks, h1, ?_⟩
    · simp [blkB]; omega
    · simp [blkB]; omega
  have HB2 : Hid (∀ toks, Toks t.data.toList to from' toks → (B.length + 3 + 7) / 8 * 8 + 32 + (to - from') * 8 < B.length + (2 + ((toksB toks).length + (valB 256).length) + 1) → BlkIs t from' to B .stored) := fun toks h1 h2 => by
    have h3 := val256
    have h4 := part_length t from' to hft hto
    have h5 := storB_length (B.length + 3) (part t from' to)
    refine ⟨fun l e => (by cases e), ?_, toks, h1, ?_⟩
    · simp [blkB]; omega
    · simp [blkB]; omega
  have HE2 : Hid (B ++ decide (to = t.size) :: lowB 0 2 ++ storB (B ++ decide (to = t.size) :: lowB 0 2).length (t.extract from' to).data.toList = B ++ blkB t from' to B.length .stored) := by
    show _ = _
    have : (B ++ decide (to = t.size) :: lowB 0 2).length = B.length + 3 := by simp
    rw [this]
    simp [blkB, part]
  have c1 := hW.c1
  clear hS hT
  go_enter Tryd.func11, Tryd.ntmps11
  go_wp2_with (first
    | (go_at_call 16; refine (hhd0 w4 hw4 hd4.c2).mono ?_; rintro e w5 ⟨rfl, hw5, hk5⟩; obtain ⟨hd5, hf5⟩ := hd4.kp hk5; have c25 := hd5.c2)
    | (go_at_call 16; refine hhd.mono ?_; rintro e w1 ⟨rfl, hw1, hk1⟩; obtain ⟨hd1, hf1, hs1, ht1⟩ := HG.out w1 hk1)
    | (go_at_call 17; refine (hcd w1 hw1 hd1 hs1 ht1).mono ?_; rintro e w2 ⟨rfl, toks, htk, hlen, hw2, hd2, hf2⟩; have c12 := hw2.c1)
    | (go_at_call 18; refine (hwb _ (by push_cast; rfl) _).mono ?_; rintro e w3 ⟨rfl, rfl⟩)
    | (go_at_call 19; refine (hbk _ toks hlen hw2).mono ?_; rintro e w4 ⟨rfl, hw4, hk4⟩; rw [htake] at hw4; obtain ⟨hd4, hf4⟩ := hd2.kp hk4)
    | (go_at_call 20; refine (hst w5 hw5).mono ?_; rintro e w6 ⟨rfl, hw6, hk6⟩))
  · rename_i hcmp
    go_end0
    rw [HE2.out] at hw6
    obtain ⟨hd6, hf6⟩ := hd5.kp hk6
    exact ⟨rfl, .stored, HB2.out toks htk (by omega), hw6, hd6, (((hf1.trans hf2).trans hf4).trans hf5).trans hf6⟩
  · rename_i hcmp
    go_end0
    exact ⟨rfl, .fixed toks, HB1.out toks htk (by omega), by simpa [blkB] using hw2, hd2, hf1.trans hf2⟩
end Go.Proofs.YtohfpmlofjhigaaDoor
