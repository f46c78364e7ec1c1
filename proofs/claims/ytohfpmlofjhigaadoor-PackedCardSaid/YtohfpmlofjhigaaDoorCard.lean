/-
  avrokeep.Packed: the row and the card (laid by a template over this cut).
-/
import Derived.Test.YtohfpmlofjhigaaDoorRows
import Derived.Test.YtohfpmlofjhigaaDoorCards
import Derived.Test.YtohfpmlofjhigaaDoorTie
import Derived.Test.YtohfpmlofjhigaaDoorNil
import Derived.Test.YtohfpmlofjhigaaDoorLai
import Derived.Test.YtohfpmlofjhigaaDoorOpn
import Derived.ProofKit
import Derived.LaidMore
import Derived.LaidLaws
import Derived.LaidHandle
import Derived.OpenShut
import Derived.Stop.Joined
import Derived.SevenTiedAt
import Derived.WideKeyArgs
namespace Go.Proofs.YtohfpmlofjhigaaDoor
open Go Go.ChangeShapes Go.WideShapes Go.ChangeAt Go.RowKit

theorem Tryd.knownN : (flates.map fun x => Tryd.prog.globalNamed x.1) = [some 16, some 22, some 18, some 23, some 24, some 28, some 29, some 25, some 31, some 26, some 27, some 19] := by kernel_rfl
theorem flate_at {W : World} {b : Nat → Addr} (hb : ∀ i x, flates[i]? = some x → W.var? Tryd.prog x.1 = some #[.iface 131 (.pointer (some (b i)))]) (i : Nat) (hi : i < 12) (g : Nat)
    (hg : (flates.map fun x => Tryd.prog.globalNamed x.1)[i]? = some (some g)) : W.cell? ⟨g, 0, none⟩ = some (.iface 131 (.pointer (some (b i)))) := by
  have hl : flates.length = 12 := rfl
  have hx : flates[i]? = some flates[i] := List.getElem?_eq_getElem (by omega)
  have hgn : Tryd.prog.globalNamed (flates[i]).1 = some g := by
    rw [List.getElem?_map, hx] at hg
    simpa using hg
  simpa using World.var?_cell hgn (hb i _ hx) 0

/-- All that the walk asks of memory, off the row's list. -/
theorem stand_of {W : World} (h : laidMetH Tryd.prog Rows.packedRow.laid W) : ∃ a b, Stand a b W := by
  obtain ⟨⟨a, M⟩, hls, hds, b, hb⟩ := laid_facts h
  have H := fun i hi g hg => flate_at hb i hi g (by rw [Tryd.knownN]; exact hg)
  refine ⟨a, b 0, ⟨⟨_, rfl, H 0 (by decide) _ rfl⟩, ⟨_, H 1 (by decide) _ rfl⟩, ⟨_, H 11 (by decide) _ rfl⟩, ⟨_, H 3 (by decide) _ rfl⟩, ⟨_, H 9 (by decide) _ rfl⟩, ⟨_, H 10 (by decide) _ rfl⟩⟩, M, hls, hds, ?_⟩
  exact lt_of_cell (H 8 (by decide) 31 rfl)

theorem same_of_fr {W W' : World} (h : Fr W.heap.size W W') {p : MemPlace} (hp : p.block < W.heap.size) : W.sameAt W' p := by
  cases p with
  | cell b o => exact World.cell?_of_block (w := W) (h.old b hp)
  | map b => exact h.old b hp

set_option maxRecDepth 100000 in
theorem lifted (os : Os) (started : os.Started) (H : Type) (enc : TypeId × Value → H) :
    ReturnsInHanded {} Tryd.checked os 3 .any (fun w args => (Rows.packedSpec.pre enc Tryd.prog Tryd.f3 [] false w args ∧ laidMetH Tryd.prog Rows.packedRow.laid w) ∧ sizedMet enc Tryd.prog Tryd.f3 (OpenSpec.ofChange Rows.packedSpec) false w args)
      (Rows.packedSpec.post enc Tryd.prog Tryd.f3 false true false false) := by
  refine returnsInHanded_of_change_and (C := Tryd.checked) (X := fun w _ => laidMetH Tryd.prog Rows.packedRow.laid w) (fun _ _ _ hh h => h.of_heap hh) Tryd.own started (by kernel_rfl) Tryd.func3
    (ChangeSpec.witness_shaped (enc := enc) (C := Tryd.checked) (os := os) (X := fun w _ => laidMetH Tryd.prog Rows.packedRow.laid w) false (World.doorLaid Tryd.prog 1000 os) #[.slice none 0 0] 8 rfl (World.shaped_of_RefB (by kernel_rfl) (by kernel_rfl)) (by kernel_rfl) (by kernel_rfl) (by kernel_rfl) (door_met os _)) ?_
  intro W base args ds gs before hval0 hW _ hz hL _
  have hval : ∀ (j : Nat) t v, Tryd.f3.params[j]? = some t → args[j]? = some v → Value.okWide Tryd.prog W .any base t v := hval0
  have hlt := hW.lt
  have hW' := hW
  obtain ⟨p, q, hA0, hV, rfl, hfz, hnd⟩ := hW
  have hA : DataW.TrodAll enc Tryd.prog W 0 (fun _ => true) true Tryd.f3.params.toList args.toList ds p := hA0
  rw [Tryd.params3] at hA hval
  obtain ⟨v, d, rfl, rfl, hd⟩ := trodAll_one hA
  obtain ⟨rfl, rfl⟩ := trodVars_none hV
  have hz' : (DataW.weightsEach Tryd.prog [22] [d]).all (· ≤ reachBytes) = true := hz
  obtain ⟨a, b, hst⟩ := stand_of hL
  have walk : Calls Tryd.prog 3 #[v] W fun e w' => e = .returned (.bool true) ∧ Fr W.heap.size W w' := by
    rcases open_script (hval 0 _ v rfl rfl) hd hz' with ⟨sa, cap, rfl⟩ | ⟨sb, so, n, cap, K, A, S, rfl, h1, h2, h3, h4, h5, h6⟩
    · exact packed_none a b sa cap W hst
    · exact packed_any a b sb so n cap K A S W h1 h2 h3 h4 h5 h6 hst
  refine walk.mono fun e W' ⟨he, hx⟩ => ?_
  subst he
  have hd' : DataW.Trod enc Tryd.prog W' 0 (fun b => decide (b < W.heap.size)) true 22 v d p :=
    WideElems.Trod_stays (by kernel_rfl) (by kernel_rfl) (of_decide_eq_true (by kernel_rfl)) hd (fun x hx' => same_of_fr hx (hlt x (List.mem_append_left _ hx'))) (fun x hx' => by simpa using hlt x (List.mem_append_left _ hx'))
  refine ⟨_, rfl, _, _, _, [], p, [], hW', ?_, ?_, ?_, (Ext.of_fr hx).kept _, fun h => by cases h⟩
  · exact trodAll_mk1 (shut_bool Tryd.underlying4 true)
  · show DataW.TrodAll enc Tryd.prog W' 0 (fun b => decide (b < W.heap.size)) true Tryd.f3.params.toList [v] [d] _
    rw [Tryd.params3]
    exact trodAll_mk1 hd'
  · rfl

theorem packed_holds : Rows.PackedSaid :=
  OpenClaim.holds_of_wide 3 Tryd.f3 rfl rfl rfl rfl rfl rfl rfl ⟨rfl, rfl, rfl, rfl, rfl⟩ rfl rfl rfl rfl rfl (by kernel_rfl) Tryd.func3 (by kernel_rfl)
    (of_decide_eq_true (by kernel_rfl)) (by unfold Func.isWrapper; first | (rw [if_pos (by decide +kernel)]; kernel_rfl) | (rw [if_neg (by decide +kernel)]; exact ⟨rfl, rfl⟩))
    (fun os started H enc _ => lifted os started H enc)
#print axioms packed_holds

theorem Tryd.noStand : Tryd.prog.wantsStandIn 22 = false := by kernel_rfl
/-- The card. -/
theorem packed_card : Rows.PackedCardSaid :=
  Claim7.holds_tied_plain_at .later [] [.handle, .sentinel, .sentinel, .sentinel, .sentinel, .sentinel, .sentinel, .sentinel, .sentinel, .sentinel, .sentinel, .sentinel, .sentinel, .data, .data, .data, .sentinel, .sentinel, .sentinel, .sentinel, .sentinel, .sentinel, .sentinel, .sentinel, .sentinel, .sentinel, .sentinel, .sentinel, .sentinel, .sentinel, .sentinel, .sentinel] true Rows.packedCard.stood.harness true
    packed_holds (fun _ h => by cases h) (by kernel_rfl) (fun _ h => by cases h) packed_row_tie rfl ⟨rfl, rfl⟩ (by kernel_rfl) rfl
    (fun f fn hf hfn => by
      obtain rfl : f = 3 := Option.some.inj ((show Tryd.prog.funcNamed "avro/avrokeep.Packed" = some 3 by kernel_rfl).symm.trans hf) |>.symm
      obtain rfl : fn = Tryd.f3 := (Option.some.inj (Tryd.func3.symm.trans hfn)).symm
      exact ⟨by kernel_rfl, fun j t ht => by
        rw [Tryd.params3] at ht
        have e : t = 22 := by
          cases j with
          | zero => exact (Option.some.inj ht).symm
          | succ j => simp at ht
        rw [e]
        exact Tryd.noStand⟩)
    (by kernel_rfl)
#print axioms packed_card
end Go.Proofs.YtohfpmlofjhigaaDoor
