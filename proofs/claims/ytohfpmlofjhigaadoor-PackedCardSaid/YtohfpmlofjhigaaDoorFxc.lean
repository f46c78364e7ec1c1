/-
  flate: fixedCodes.
-/
import Derived.Test.YtohfpmlofjhigaaDoorCof
import Derived.Test.YtohfpmlofjhigaaDoorPlc
namespace Go.Proofs.YtohfpmlofjhigaaDoor
open Go Go.RowKit Go.Extern.Stop Go.Stop Go.Extern

theorem zero288 : (List.range 288).all (fun k => match Tryd.zeroCells117[k]? with | some (.int .i64 0) => true | _ => false) = true := by kernel_rfl
theorem isZero {o : Option Value} (h : (match o with | some (.int .i64 0) => true | _ => false) = true) : o.isSome = true := by
  cases o with
  | none => cases h
  | some v => rfl
/-- An array whose first m are told. -/
structure Arr (n0 b N : Nat) (f : Nat → Nat) (w wr : World) (m : Nat) : Prop where
  told : ∀ k, k < m → wr.cell? ⟨b, k, none⟩ = some (.int .i64 (f k))
  there : There wr b N
  fr : Fr n0 w wr
  lt : b < wr.heap.size
theorem Arr.start (w : World) (n0 N : Nat) (C : Array Value) (T : TypeId) (f : Nat → Nat) (hn : n0 ≤ w.heap.size) (hC : ∀ k, k < N → C[k]?.isSome = true) : Arr n0 w.heap.size N f w (w.alloc (Obj.cells C T)) 0 := by
  obtain ⟨n1, s1⟩ := new_block w (Obj.cells C T)
  have z1 : ∀ i, (w.alloc (Obj.cells C T)).frozen? ⟨w.heap.size, i, none⟩ = false := fun i => World.frozen?_alloc_new _ _ _ _
  have f1 : Fr n0 w (w.alloc (Obj.cells C T)) := Fr.alloc w _ hn
  generalize w.alloc (Obj.cells C T) = W at *
  have hc : ∀ q, W.cell? ⟨w.heap.size, q, none⟩ = C[q]? := fun q => by unfold World.cell?; simp [n1]
  exact ⟨fun k hk => by omega, fun q hq => ⟨by rw [hc]; exact hC q hq, z1 q⟩, f1, by omega⟩
theorem Arr.step {n0 b N : Nat} {f : Nat → Nat} {w wr : World} {m : Nat} (h : Arr n0 b N f w wr m) (hm : m < N) (hb : n0 ≤ b) (x : Int) (hx : x = f m) : Arr n0 b N f w (wr.setCell ⟨b, m, none⟩ (.int .i64 x)) (m + 1) := by
  obtain ⟨z, hz⟩ := Option.isSome_iff_exists.1 (h.there m hm).1
  refine ⟨fun k hk => ?_, fun q hq => ⟨?_, by rw [World.frozen?_setCell]; exact (h.there q hq).2⟩, h.fr.trans (Fr.set wr _ _ hb), by simp; exact h.lt⟩
  · by_cases e : k = m
    · subst e; rw [World.cell?_setCell_same _ _ _ hz, hx]
    · rw [World.cell?_setCell_other _ _ _ _ (by simp <;> exact e)]; exact h.told k (by omega)
  · by_cases e : q = m
    · subst e; rw [World.cell?_setCell_same _ _ _ hz]; rfl
    · rw [World.cell?_setCell_other _ _ _ _ (by simp <;> exact e)]; exact (h.there q hq).1
theorem CodeAt.fr {w w' : World} {cb vb N n : Nat} {many vals : Nat → Nat} (h : CodeAt w cb vb N many vals) (hN : 0 < N) (k : Fr n w w') (hn : w.heap.size ≤ n) : CodeAt w' cb vb N many vals :=
  h.carry (k.old _ (Nat.lt_of_lt_of_le (World.block_lt_of_cell? _ _ h.sl) hn)) (k.old _ (Nat.lt_of_lt_of_le (World.block_lt_of_cell? _ _ (h.vals 0 hN)) hn))
theorem CodeAt.ext {w : World} {cb vb N : Nat} {m1 m2 vals : Nat → Nat} (h : CodeAt w cb vb N m1 vals) (he : (List.range 16).all (fun k => m1 k == m2 k) = true) : CodeAt w cb vb N m2 vals :=
  ⟨fun k hk => by
    have := List.all_eq_true.1 he k (List.mem_range.2 (by omega))
    have e : m1 k = m2 k := by simpa using this
    rw [← e]; exact h.many k hk, h.sl, h.vals⟩

set_option maxRecDepth 100000 in
set_option maxHeartbeats 2000000 in
theorem fixedCodes_any (w : World) :
    Calls Tryd.prog 36 #[] w fun e w' => ∃ c1 v1 c2 v2, e = .returned (.tuple #[.pointer (some ⟨c1, 0, none⟩), .pointer (some ⟨c2, 0, none⟩)]) ∧ CodeAt w' c1 v1 288 fixMany fixVal ∧ CodeAt w' c2 v2 32 disMany id ∧ Fr w.heap.size w w' ∧ w.heap.size ≤ c1 ∧ w.heap.size ≤ v1 ∧ w.heap.size ≤ c2 ∧ w.heap.size ≤ v2 := by
  go_enter Tryd.func36, Tryd.ntmps36
  go_wp2
  have H1 : Hid (Arr w.heap.size w.heap.size 288 fixLen w (w.alloc (Obj.cells Tryd.zeroCells117 117)) 0) := Arr.start w _ 288 _ _ _ (Nat.le_refl _) (fun k hk => isZero (List.all_eq_true.1 zero288 k (List.mem_range.2 hk)))
  generalize w.alloc (Obj.cells Tryd.zeroCells117 117) = W0 at *
  generalize hn0 : w.heap.size = n0 at *
  go_loopw [6] (fun cnt wr => ∃ m : Nat, m ≤ 288 ∧ cnt = .int .i64 m ∧ Arr n0 n0 288 fixLen w wr m) (fun cnt _ => 288 - (intOf cnt).toNat)
  case atStart => exact ⟨0, Nat.zero_le _, rfl, H1.out⟩
  case round =>
    obtain ⟨m, hm, rfl, hI⟩ := hrel
    clear H1
    by_cases hlt : m < 288
    · have hfw := fixedWord_any m wr hlt
      obtain ⟨y, hy⟩ := Option.isSome_iff_exists.1 (hI.there m hlt).1
      have hyf := (hI.there m hlt).2
      have HNX : Hid (Arr n0 n0 288 fixLen w (wr.setCell ⟨n0, m, none⟩ (.int .i64 (((fixW m).2 : Nat) : Int))) (m + 1)) := hI.step hlt (Nat.le_refl _) _ rfl
      have hm288 : ((m : Int) < 288) = True := by simp; omega
      clear hI hm
      generalize (fixW m).1 = a1 at *
      generalize (fixW m).2 = a2 at *
      go_wp2_with (go_at_call 52; refine hfw.mono ?_; rintro e w1 ⟨rfl, rfl⟩)
      go_roundw
      case rel => exact ⟨m + 1, hlt, by go_num, HNX.out⟩
      case measure => simp only [intOf]; omega
    · have hm2 : m = 288 := by omega
      subst hm2
      have H2 : Hid (Arr wr.heap.size wr.heap.size 32 (fun _ => 5) wr (wr.alloc (Obj.cells #[Value.int IntKind.i64 0, Value.int IntKind.i64 0, Value.int IntKind.i64 0, Value.int IntKind.i64 0, Value.int IntKind.i64 0, Value.int IntKind.i64 0, Value.int IntKind.i64 0, Value.int IntKind.i64 0, Value.int IntKind.i64 0, Value.int IntKind.i64 0, Value.int IntKind.i64 0, Value.int IntKind.i64 0, Value.int IntKind.i64 0, Value.int IntKind.i64 0, Value.int IntKind.i64 0, Value.int IntKind.i64 0, Value.int IntKind.i64 0, Value.int IntKind.i64 0, Value.int IntKind.i64 0, Value.int IntKind.i64 0, Value.int IntKind.i64 0, Value.int IntKind.i64 0, Value.int IntKind.i64 0, Value.int IntKind.i64 0, Value.int IntKind.i64 0, Value.int IntKind.i64 0, Value.int IntKind.i64 0, Value.int IntKind.i64 0, Value.int IntKind.i64 0, Value.int IntKind.i64 0, Value.int IntKind.i64 0, Value.int IntKind.i64 0] 118)) 0) := Arr.start wr _ 32 _ _ _ (Nat.le_refl _) (fun k hk => by simp; omega)
      have HI : Hid (Arr n0 n0 288 fixLen w wr 288) := hI
      clear hI hm hlt
      go_wp2
      generalize wr.alloc (Obj.cells #[Value.int IntKind.i64 0, Value.int IntKind.i64 0, Value.int IntKind.i64 0, Value.int IntKind.i64 0, Value.int IntKind.i64 0, Value.int IntKind.i64 0, Value.int IntKind.i64 0, Value.int IntKind.i64 0, Value.int IntKind.i64 0, Value.int IntKind.i64 0, Value.int IntKind.i64 0, Value.int IntKind.i64 0, Value.int IntKind.i64 0, Value.int IntKind.i64 0, Value.int IntKind.i64 0, Value.int IntKind.i64 0, Value.int IntKind.i64 0, Value.int IntKind.i64 0, Value.int IntKind.i64 0, Value.int IntKind.i64 0, Value.int IntKind.i64 0, Value.int IntKind.i64 0, Value.int IntKind.i64 0, Value.int IntKind.i64 0, Value.int IntKind.i64 0, Value.int IntKind.i64 0, Value.int IntKind.i64 0, Value.int IntKind.i64 0, Value.int IntKind.i64 0, Value.int IntKind.i64 0, Value.int IntKind.i64 0, Value.int IntKind.i64 0] 118) = W2 at *
      generalize hn1 : wr.heap.size = n1 at *
      generalize hw1 : wr = w1 at *
      go_loopw [17] (fun cnt wl => ∃ m : Nat, m ≤ 32 ∧ cnt = .int .i64 m ∧ Arr n1 n1 32 (fun _ => 5) w1 wl m) (fun cnt _ => 32 - (intOf cnt).toNat)
      case atStart => exact ⟨0, Nat.zero_le _, rfl, H2.out⟩
      case round =>
        obtain ⟨m, hm, rfl, hI⟩ := hrel
        clear H2
        by_cases hlt : m < 32
        · obtain ⟨y, hy⟩ := Option.isSome_iff_exists.1 (hI.there m hlt).1
          have hyf := (hI.there m hlt).2
          have HNX : Hid (Arr n1 n1 32 (fun _ => 5) w1 (wr.setCell ⟨n1, m, none⟩ (.int .i64 5)) (m + 1)) := hI.step hlt (Nat.le_refl _) 5 rfl
          have hm32 : ((m : Int) < 32) = True := by simp; omega
          clear hI hm
          go_wp2
          go_roundw
          case rel => exact ⟨m + 1, hlt, by go_num, HNX.out⟩
          case measure => simp only [intOf]; omega
        · have hm2 : m = 32 := by omega
          subst hm2
          have HI2 : Hid (Arr n1 n1 32 (fun _ => 5) w1 wr 32) := hI
          have hnn : n0 < n1 := by have := HI.out.lt; rw [hn1] at this; exact this
          clear hI hm hlt
          have hcA : ∀ v, v < 288 → wr.cell? ⟨n0, v, none⟩ = some (.int .i64 (fixLen v)) := fun v hv => (HI2.out.fr.cell hnn).trans (HI.out.told v hv)
          have hcB : ∀ v, v < 32 → wr.cell? ⟨n1, v, none⟩ = some (.int .i64 ((fun _ => 5 : Nat → Nat) v)) := fun v hv => HI2.out.told v hv
          have hl1 := HI2.out.lt
          have hfw : Fr n0 w wr := HI.out.fr.trans (HI2.out.fr.mono (Nat.le_of_lt hnn))
          have HA : Hid (∀ W, Fr wr.heap.size wr W → Calls Tryd.prog 55 #[.slice (some ⟨n0, 0, none⟩) 288 288] W fun e w' => ∃ cb vb, e = .returned (.pointer (some ⟨cb, 0, none⟩)) ∧ CodeAt w' cb vb 288 (manyU fixLen 288) fixVal ∧ Fr W.heap.size W w' ∧ W.heap.size ≤ cb ∧ W.heap.size ≤ vb) := fun W k => codeOf_any n0 288 fixLen fixVal W lens_fix (by have := k.size; omega) (fun v hv => (k.cell (by omega)).trans (hcA v hv))
          have HB : Hid (∀ W, Fr wr.heap.size wr W → Calls Tryd.prog 55 #[.slice (some ⟨n1, 0, none⟩) 32 32] W fun e w' => ∃ cb vb, e = .returned (.pointer (some ⟨cb, 0, none⟩)) ∧ CodeAt w' cb vb 32 (manyU (fun _ => 5) 32) id ∧ Fr W.heap.size W w' ∧ W.heap.size ≤ cb ∧ W.heap.size ≤ vb) := fun W k => codeOf_any n1 32 (fun _ => 5) id W lens_dis (by have := k.size; omega) (fun v hv => (k.cell hl1).trans (hcB v hv))
          have HFW : Hid (Fr n0 w wr ∧ n0 < wr.heap.size) := ⟨hfw, by omega⟩
          clear hcA hcB hfw
          go_wp2
          refine wp_region_any (by kernel_rfl) ?_
          change wpAny _ _ _ _ _ _ _ (World.drew _)
          refine wpAny_take (i := 0) (v := ?_) rfl (by kernel_rfl) (by kernel_rfl) (by kernel_rfl) (fun _ _ _ h => h) (Or.inl ⟨by rfl, ?_⟩) ?_
          rotate_left
          · intro w
            go_simp
            with_reducible rfl
          refine wpAny_take (i := 2) (v := ?_) rfl (by kernel_rfl) (by kernel_rfl) (by kernel_rfl) (fun _ _ _ h => h) (Or.inl ⟨by rfl, ?_⟩) ?_
          rotate_left
          · intro w
            go_simp
            with_reducible rfl
          refine wpAny_ready (rs := [1]) (by kernel_rfl) (by simp) ?_
          refine AllReady.cons rfl (fun K hK => ?_) AllReady.nil
          go_simp
          go_wp2_with (go_at_call 55; refine (HA.out _ (Fr.drew _ _)).mono ?_; rintro e wA ⟨cA, vA, rfl, hcA, hfA, hA1, hA2⟩)
          refine wpAny_ready (rs := [3]) (by kernel_rfl) (by simp) ?_
          refine AllReady.cons rfl (fun K hK => ?_) AllReady.nil
          go_simp
          go_wp2_with (go_at_call 55; refine (HB.out _ ((Fr.drew _ _).trans hfA)).mono ?_; rintro e wB ⟨cB, vB, rfl, hcB, hfB, hB1, hB2⟩)
          refine wpAny_take (i := 4) (v := ?_) rfl (by kernel_rfl) (by kernel_rfl) (by kernel_rfl) (fun _ _ _ h => h) (Or.inl ⟨by rfl, ?_⟩) ?_
          rotate_left
          · intro w
            go_simp
            with_reducible rfl
          refine wpAny_take (i := 5) (v := ?_) rfl (by kernel_rfl) (by kernel_rfl) (by kernel_rfl) (fun _ _ _ h => h) (Or.inl ⟨by rfl, ?_⟩) ?_
          rotate_left
          · intro w
            go_simp
            with_reducible rfl
          refine wpAny_done (by kernel_rfl) ?_ _
          go_simp
          go_wp2
          go_ret2
          have hs := hfA.size
          have hw := HFW.out
          have hd : (wr.drew).heap.size = wr.heap.size := rfl
          have hfin : Fr n0 w wB := (hw.1.trans (Fr.drew _ _)).trans ((hfA.mono (by rw [hd]; omega)).trans (hfB.mono (by omega)))
          refine ⟨cA, vA, cB, vB, rfl, (hcA.ext fix_many).fr (by decide) hfB (Nat.le_refl _), hcB.ext dis_many, by rw [hn0]; exact hfin, ?_, ?_, ?_, ?_⟩ <;> omega
end Go.Proofs.YtohfpmlofjhigaaDoor
