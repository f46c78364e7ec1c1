/-
  avrolaw.Names: Proofs (laid by a template over this cut).
-/
import Derived.Test.YtpbbpdopfhadbaaDoorRows
import Derived.Test.YtpbbpdopfhadbaaDoorCards
import Derived.Test.YtpbbpdopfhadbaaDoorTie
import Derived.Test.YtpbbpdopfhadbaaDoorWalk
import Derived.ProofKit
import Derived.LaidMore
import Derived.LaidLaws
import Derived.LaidHandle
import Derived.OpenShut
import Derived.Stop.Joined
import Derived.SevenTiedAt
namespace Go.Proofs.YtpbbpdopfhadbaaDoor
open Go Go.ChangeShapes Go.WideShapes Go.ChangeAt Go.RowKit

/-- Several reasons, one behind the other on the list: each variable holds a pointer of its own to its text. -/
theorem laid_many {P : Program} {nm : String} {W : World} {ti tp te ts : TypeId} {ms : Array (String × TypeId)} {f : Field}
    (hi : P.underlying ti = some (.interface ms)) (hrow : ∀ u, P.typeName? 3 u = some nm → u = tp)
    (hp : P.underlying tp = some (.pointer te)) (he : P.underlying te = some (.struct #[f])) (hft : f.type = ts) (hfo : f.offset = 0) (hs : P.underlying ts = some .string) (hc : P.cellsOf te = 1) (hcs : P.cellsOf ts = 1) :
    ∀ (l : List (String × List UInt8)) (ps : List MemPlace), (∀ x ∈ l, ∃ g, P.globalNamed x.1 = some g ∧ (P.globals[g]?).map (·.type) = some ti) →
      DataW.LaidVars P W (l.map fun x => (x.1, .iface nm (.ptr (.agg [.lit (.string x.2)])))) ps →
      (∀ b off, MemPlace.cell b off ∈ ps → (∃ c t, W.heap[b]? = some (.cells c t (0, 0))) ∧ ∀ u v, W.cell? ⟨b, off, none⟩ = some (.iface u v) → Value.okWide P W .any 0 u v) →
      ∃ a : Nat → Addr, (∀ i x, l[i]? = some x → W.var? P x.1 = some #[.iface tp (.pointer (some (a i)))] ∧ (∃ s : ByteArray, W.cell? (a i) = some (.string s) ∧ s.data.toList = x.2) ∧ ∃ c t, W.heap[(a i).block]? = some (.cells c t (0, 0))) ∧
        ((List.range l.length).map fun i => MemPlace.cell (a i).block (a i).off).Sublist ps
  | [], ps, _, h, _ => ⟨fun _ => ⟨0, 0, none⟩, fun i x hx => by simp at hx, by simp⟩
  | (n, text) :: r, ps, hg, h, hrows => by
    obtain ⟨g0, t0, cs0, f0, p0, q0, hg0, ht0, hv0, hd0, hr, e0⟩ := h
    obtain ⟨g, hgn, hgt⟩ := hg (n, text) List.mem_cons_self
    obtain rfl := Option.some.inj (hgn.symm.trans hg0)
    obtain rfl := Option.some.inj (hgt.symm.trans ht0)
    subst e0
    obtain ⟨l0⟩ := cs0
    have ok0 : ∀ u v, l0 = [.iface u v] → Value.okWide P W .any 0 u v := fun u v e => by
      subst e
      exact (hrows g 0 (by simp [MemPlace.row])).2 u v (by simpa using World.var?_cell hg0 hv0 0)
    obtain ⟨a0, s0, rfl, hc0, hs0, _, rfl⟩ := errorString_of_trod hi hrow hp he hft hfo hs hc hcs hd0 ok0
    obtain ⟨c0, t0, hb0⟩ := (hrows a0.block a0.off (by simp [MemPlace.row])).1
    obtain ⟨a, ha, hsub⟩ := laid_many hi hrow hp he hft hfo hs hc hcs r q0 (fun x hx => hg x (List.mem_cons_of_mem _ hx)) hr (fun b off hm => hrows b off (List.mem_append_right _ hm))
    refine ⟨fun i => match i with | 0 => a0 | j + 1 => a j, ?_, ?_⟩
    · intro i x hx
      match i, hx with
      | 0, hx =>
        obtain rfl : (n, text) = x := by simpa using hx
        exact ⟨hv0, ⟨s0, hc0, hs0⟩, c0, t0, hb0⟩
      | j + 1, hx => exact ha j x (by simpa using hx)
    · rw [List.length_cons, List.range_succ_eq_map, List.map_cons, List.map_map]
      have e1 : MemPlace.row ⟨g, 0, none⟩ (Array.size ⟨[Value.iface tp (.pointer (some a0))]⟩) ++ MemPlace.row a0 1 ++ q0 = MemPlace.cell g 0 :: MemPlace.cell a0.block a0.off :: q0 := by simp [MemPlace.row]
      rw [e1]
      exact List.Sublist.cons _ (List.Sublist.cons_cons _ hsub)

def reasons : List (String × List UInt8) := [("avro/avro.ErrText", [110, 111, 32, 74, 83, 79, 78]), ("avro/avro.ErrSchema", [97, 32, 115, 99, 104, 101, 109, 97, 32, 116, 104, 97, 116, 32, 109, 97, 121, 32, 110, 111, 116, 32, 98, 101]), ("avro/avro.ErrDatum", [97, 32, 100, 97, 116, 117, 109, 32, 116, 104, 97, 116, 32, 116, 104, 101, 32, 115, 99, 104, 101, 109, 97, 32, 100, 111, 101, 115, 32, 110, 111, 116, 32, 104, 97, 118, 101]), ("avro/avro.ErrShort", [98, 121, 116, 101, 115, 32, 116, 104, 97, 116, 32, 101, 110, 100, 32, 116, 111, 111, 32, 101, 97, 114, 108, 121]), ("avro/avro.ErrRange", [97, 32, 110, 117, 109, 98, 101, 114, 32, 111, 114, 32, 97, 32, 116, 101, 120, 116, 32, 116, 104, 97, 116, 32, 109, 97, 121, 32, 110, 111, 116, 32, 98, 101]), ("avro/avro.ErrDeep", [110, 101, 115, 116, 101, 100, 32, 116, 111, 111, 32, 100, 101, 101, 112]), ("avro/avro.ErrMany", [116, 111, 111, 32, 109, 97, 110, 121, 32, 105, 116, 101, 109, 115]), ("avro/avro.ErrFlate", [110, 111, 32, 99, 111, 109, 112, 114, 101, 115, 115, 101, 100, 32, 100, 97, 116, 97]), ("avro/avro.ErrCap", [109, 111, 114, 101, 32, 100, 97, 116, 97, 32, 116, 104, 97, 110, 32, 109, 97, 121, 32, 98, 101]), ("avro/avro.ErrHeader", [110, 111, 32, 104, 101, 97, 100, 101, 114]), ("avro/avro.ErrCodec", [97, 32, 99, 111, 100, 101, 99, 32, 116, 104, 97, 116, 32, 105, 115, 32, 110, 111, 116, 32, 107, 110, 111, 119, 110]), ("avro/avro.ErrBlock", [110, 111, 32, 98, 108, 111, 99, 107]), ("avro/avro.ErrMatch", [115, 99, 104, 101, 109, 97, 115, 32, 116, 104, 97, 116, 32, 100, 111, 32, 110, 111, 116, 32, 103, 111, 32, 116, 111, 103, 101, 116, 104, 101, 114]), ("avro/avro.ErrResolve", [97, 32, 100, 97, 116, 117, 109, 32, 116, 104, 97, 116, 32, 116, 104, 101, 32, 114, 101, 97, 100, 101, 114, 39, 115, 32, 115, 99, 104, 101, 109, 97, 32, 100, 111, 101, 115, 32, 110, 111, 116, 32, 104, 97, 118, 101]), ("avro/avro.ErrClosed", [105, 116, 32, 105, 115, 32, 99, 108, 111, 115, 101, 100]), ("avro/avro.ErrDown", [116, 104, 101, 32, 102, 105, 108, 101, 32, 105, 115, 32, 100, 111, 119, 110])]
theorem Tryd.own : ownKnob Tryd.prog.godebug = none := by kernel_rfl
theorem Tryd.cells106 : Tryd.prog.cellsOf 106 = 1 := by kernel_rfl
theorem Tryd.cells9 : Tryd.prog.cellsOf 9 = 1 := by kernel_rfl
theorem star : "*" ++ "errors.errorString" = "*errors.errorString" := by decide
theorem Tryd.row66 (u : TypeId) (h : Tryd.prog.typeName? 3 u = some "*errors.errorString") : u = 66 :=
  typeName_ptr_named (nm := "errors.errorString") (by rw [star]; kernel_rfl) (by kernel_rfl) (by decide) u (by rw [star]; exact h)
theorem Tryd.known : ((List.range 16).all fun i => match reasons[i]? with
    | some x => Tryd.prog.globalNamed x.1 == some i && (Tryd.prog.globals[i]?).map (·.type) == some 26 && decide (0 < x.2.length) && decide (x.2.length < 1000)
    | none => false) = true := by kernel_rfl
theorem known_at (i : Nat) (x : String × List UInt8) (hx : reasons[i]? = some x) :
    Tryd.prog.globalNamed x.1 = some i ∧ (Tryd.prog.globals[i]?).map (·.type) = some 26 ∧ 0 < x.2.length ∧ x.2.length < 1000 := by
  have hi : i < 16 := (List.getElem?_eq_some_iff.1 hx).1
  have h := List.all_eq_true.1 Tryd.known i (List.mem_range.2 hi)
  simp only [hx, Bool.and_eq_true, beq_iff_eq, decide_eq_true_eq] at h
  exact ⟨h.1.1.1, h.1.1.2, h.1.2, h.2⟩
theorem reason_at (i : Nat) (hi : i < 16) : ∃ x, reasons[i]? = some x := ⟨_, List.getElem?_eq_getElem (l := reasons) hi⟩

theorem Tryd.et : Tryd.prog.globalNamed "errors.errorType" = some 16 := by kernel_rfl
theorem Tryd.rt : (Tryd.prog.cutTypes.find? (·.1 == "internal/reflectlite.rtype")).map (·.2) = some 52 := by kernel_rfl
theorem Tryd.oneRow : ((List.range 118).filter fun t => Tryd.prog.rowNamed t [101, 114, 114, 111, 114]) = [26] := by kernel_rfl
theorem Tryd.size : Tryd.prog.types.size = 118 := by kernel_rfl
theorem flt : (Rows.namesRow.laid.filter fun x => x.2.handleName?.isNone) = reasons.map fun x => (x.1, .iface "*errors.errorString" (.ptr (.agg [.lit (.string x.2)]))) := by kernel_rfl
theorem flh : (Rows.namesRow.laid.filter fun x => x.2.handleName?.isSome) = [("errors.errorType", Rows.laid_errors_errorType)] := by kernel_rfl

/-- What the condition gives the walk. -/
theorem met_of_laid {W : World} (h : laidMetH Tryd.prog Rows.namesRow.laid W) : ∃ a, Met a W := by
  unfold laidMetH at h
  rw [flh, flt] at h
  obtain ⟨⟨ps, hv, hnd, hrows⟩, hh⟩ := h
  obtain ⟨a, ha, hsub⟩ := laid_many Tryd.underlying26 Tryd.row66 Tryd.underlying66 Tryd.underlying106 rfl rfl Tryd.underlying9 Tryd.cells106 Tryd.cells9 reasons ps
    (fun x hx => by
      obtain ⟨i, hi⟩ := List.getElem?_of_mem hx
      exact ⟨i, (known_at i x hi).1, (known_at i x hi).2.1⟩) hv hrows
  refine ⟨a, fun i hi => ?_, fun i j hi hj hne heq => ?_, fun i hi => ?_, fun i hi => ?_, ?_⟩
  · obtain ⟨x, hx⟩ := reason_at i hi
    simpa using World.var?_cell (known_at i x hx).1 (ha i x hx).1 0
  · have hd := List.Nodup.sublist hsub hnd
    have hlen : reasons.length = 16 := rfl
    rw [hlen] at hd
    have hpw := List.pairwise_iff_getElem.1 hd
    rcases Nat.lt_or_gt_of_ne hne with h | h
    · exact hpw i j (by simpa using hi) (by simpa using hj) h (by simp [heq])
    · exact hpw j i (by simpa using hj) (by simpa using hi) h (by simp [heq])
  · obtain ⟨x, hx⟩ := reason_at i hi
    exact (ha i x hx).2.2
  · obtain ⟨x, hx⟩ := reason_at i hi
    obtain ⟨s, hs, ht⟩ := (ha i x hx).2.1
    have hk := known_at i x hx
    refine ⟨s, hs, ?_, ?_⟩
    · rw [ByteArray.toList_eq, ht]
      cases hl : x.2 with
      | nil => rw [hl] at hk; exact absurd hk.2.2.1 (by decide)
      | cons _ _ => rfl
    · have e : s.size = x.2.length := by rw [← ht]; rfl
      rw [e]; exact hk.2.2.2
  · obtain ⟨name, u, ty, e1, e2, e3, e4, e5⟩ := hh _ (List.mem_singleton.2 rfl)
    have en : name = [101, 114, 114, 111, 114] := (Option.some.inj e1).symm
    subst en
    obtain rfl := Option.some.inj (Tryd.rt.symm.trans e2)
    have hm : ty ∈ (List.range 118).filter fun t => Tryd.prog.rowNamed t [101, 114, 114, 111, 114] := List.mem_filter.2 ⟨List.mem_range.2 (by rw [← Tryd.size]; exact e3), e4⟩
    rw [Tryd.oneRow] at hm
    obtain rfl := List.mem_singleton.1 hm
    have hh : typeHandle Tryd.prog 26 = .pointer (some ⟨20, 26, none⟩) := by kernel_rfl
    rw [hh] at e5
    simpa using World.var?_cell Tryd.et e5 0

/-- The door's own heap meets the condition. -/
theorem door_met (os : Os) (args : Array Value) : laidMetH Tryd.prog Rows.namesRow.laid ((World.doorLaid Tryd.prog 400 os).forCall (fun _ _ => 0) ⟨#[], args, []⟩).memory :=
  laidMetH_of_parts3 (fuel := 8) (laidMet_of_run' 8 (by kernel_rfl) (by kernel_rfl)) (by kernel_rfl) (by kernel_rfl)

set_option maxRecDepth 100000 in
theorem lifted (os : Os) (started : os.Started) (H : Type) (enc : TypeId × Value → H) :
    ReturnsInHanded {} Tryd.checked os 3 .any (fun w args => (Rows.namesSpec.pre enc Tryd.prog Tryd.f3 [] false w args ∧ laidMetH Tryd.prog Rows.namesRow.laid w) ∧ sizedMet enc Tryd.prog Tryd.f3 (OpenSpec.ofChange Rows.namesSpec) false w args)
      (Rows.namesSpec.post enc Tryd.prog Tryd.f3 false true false false) := by
  refine returnsInHanded_of_change_and (C := Tryd.checked) (X := fun w _ => laidMetH Tryd.prog Rows.namesRow.laid w) (fun _ _ _ hh h => h.of_heap hh) Tryd.own started (by kernel_rfl) Tryd.func3
    (ChangeSpec.witness_shaped (enc := enc) (C := Tryd.checked) (os := os) (X := fun w _ => laidMetH Tryd.prog Rows.namesRow.laid w) false (World.doorLaid Tryd.prog 400 os) #[] 8 rfl (World.shaped_of_RefB (by kernel_rfl) (by kernel_rfl)) (by kernel_rfl) (by kernel_rfl) (by kernel_rfl) (door_met os _)) ?_
  intro W base args ds gs before hval0 hW _ _ hL _
  have hW' := hW
  obtain ⟨p, q, hA0, hV, rfl, hfz, hnd⟩ := hW
  have hA : DataW.TrodAll enc Tryd.prog W 0 (fun _ => true) true Tryd.f3.params.toList args.toList ds p := hA0
  rw [Tryd.params3] at hA
  obtain ⟨rfl, rfl, rfl⟩ := trodAll_none hA
  obtain ⟨rfl, rfl⟩ := trodVars_none hV
  obtain ⟨a, M⟩ := met_of_laid hL
  refine (names_walk a W M).mono fun e W' ⟨he, hx⟩ => ?_
  subst he
  refine ⟨_, rfl, _, _, _, [], [], [], hW', ?_, ?_, ?_, hx.kept _, fun h => by cases h⟩
  · exact trodAll_mk1 (shut_bool Tryd.underlying4 true)
  · rfl
  · rfl

theorem names_holds : Rows.NamesSaid :=
  OpenClaim.holds_of_wide 3 Tryd.f3 rfl rfl rfl rfl rfl rfl rfl ⟨rfl, rfl, rfl, rfl, rfl⟩ rfl rfl rfl rfl rfl (by kernel_rfl) Tryd.func3 (by kernel_rfl)
    (of_decide_eq_true (by kernel_rfl)) (by unfold Func.isWrapper; first | (rw [if_pos (by decide +kernel)]; kernel_rfl) | (rw [if_neg (by decide +kernel)]; exact ⟨rfl, rfl⟩))
    (fun os started H enc _ => lifted os started H enc)
#print axioms names_holds

/-- The card. -/
theorem names_card : Rows.NamesCardSaid :=
  Claim7.holds_tied_plain_at .later [] [.handle, .sentinel, .sentinel, .sentinel, .sentinel, .sentinel, .sentinel, .sentinel, .sentinel, .sentinel, .sentinel, .sentinel, .sentinel, .sentinel, .sentinel, .sentinel, .sentinel] true Rows.namesCard.stood.harness true
    names_holds (fun _ h => by cases h) (by kernel_rfl) (fun _ h => by cases h) names_row_tie rfl ⟨rfl, rfl⟩ (by kernel_rfl) rfl
    (fun f fn hf hfn => by
      obtain rfl : f = 3 := Option.some.inj ((show Tryd.prog.funcNamed "avro/avrolaw.Names" = some 3 by kernel_rfl).symm.trans hf) |>.symm
      obtain rfl : fn = Tryd.f3 := (Option.some.inj (Tryd.func3.symm.trans hfn)).symm
      exact ⟨by kernel_rfl, fun j t ht => by
        rw [Tryd.params3] at ht
        simp at ht⟩)
    (by kernel_rfl)
#print axioms names_card
end Go.Proofs.YtpbbpdopfhadbaaDoor
