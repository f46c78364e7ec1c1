/-
  What the row lists of package variables, as the walks of avrokeep.Packed want it (laid by a template over this cut).
-/
import Derived.Test.YtohfpmlofjhigaaDoorRows
import Derived.Test.YtohfpmlofjhigaaDoorNum
import Derived.Test.YtohfpmlofjhigaaDoorPlc
import Derived.ProofKit
import Derived.LaidMore
import Derived.LaidLaws
import Derived.LaidHandle
import Derived.OpenShut
import Derived.Stop.Joined
namespace Go.Proofs.YtohfpmlofjhigaaDoor
open Go Go.ChangeShapes Go.WideShapes Go.ChangeAt Go.RowKit

/-- Several errors, one behind the other on the list: each variable holds a pointer of its own to its text. -/
theorem laid_many {P : Program} {nm : String} {W : World} {ti tp te ts : TypeId} {ms : Array (String × TypeId)} {f : Field}
    (hi : P.underlying ti = some (.interface ms)) (hrow : ∀ u, P.typeName? 3 u = some nm → u = tp)
    (hp : P.underlying tp = some (.pointer te)) (he : P.underlying te = some (.struct #[f])) (hft : f.type = ts) (hfo : f.offset = 0) (hs : P.underlying ts = some .string) (hc : P.cellsOf te = 1) (hcs : P.cellsOf ts = 1) :
    ∀ (l : List (String × List UInt8)) (ps : List MemPlace), (∀ x ∈ l, ∃ g, P.globalNamed x.1 = some g ∧ (P.globals[g]?).map (·.type) = some ti) →
      DataW.LaidVars P W (l.map fun x => (x.1, .iface nm (.ptr (.agg [.lit (.string x.2)])))) ps →
      (∀ b off, MemPlace.cell b off ∈ ps → (∃ c t, W.heap[b]? = some (.cells c t (0, 0))) ∧ ∀ u v, W.cell? ⟨b, off, none⟩ = some (.iface u v) → Value.okWide P W .any 0 u v) →
      ∃ a : Nat → Addr, (∀ i x, l[i]? = some x → W.var? P x.1 = some #[.iface tp (.pointer (some (a i)))] ∧ (∃ s : ByteArray, W.cell? (a i) = some (.string s) ∧ s.data.toList = x.2) ∧ ∃ c t, W.heap[(a i).block]? = some (.cells c t (0, 0))) ∧
        ((List.range l.length).map fun i => MemPlace.cell (a i).block (a i).off).Sublist ps
  | [], ps, _, h, _ => ⟨fun _ => ⟨0, 0, none⟩, fun i x hx => by simp at hx, by simp⟩
  | (n, text) :: r, ps, hg, h, hrows => by
    obtain ⟨g0, t0, cs0, f0, p0, q0, hg0, ht0, hv0, hd0, hr, e0⟩ := h
    obtain ⟨g, hgn, hgt⟩ := hg (n, text) List.mem_cons_self
    obtain rfl := Option.some.inj (hgn.symm.trans hg0)
    obtain rfl := Option.some.inj (hgt.symm.trans ht0)
    subst e0
    obtain ⟨l0⟩ := cs0
    have ok0 : ∀ u v, l0 = [.iface u v] → Value.okWide P W .any 0 u v := fun u v e => by
      subst e
      exact (hrows g 0 (by simp [MemPlace.row])).2 u v (by simpa using World.var?_cell hg0 hv0 0)
    obtain ⟨a0, s0, rfl, hc0, hs0, _, rfl⟩ := errorString_of_trod hi hrow hp he hft hfo hs hc hcs hd0 ok0
    obtain ⟨c0, t0, hb0⟩ := (hrows a0.block a0.off (by simp [MemPlace.row])).1
    obtain ⟨a, ha, hsub⟩ := laid_many hi hrow hp he hft hfo hs hc hcs r q0 (fun x hx => hg x (List.mem_cons_of_mem _ hx)) hr (fun b off hm => hrows b off (List.mem_append_right _ hm))
    refine ⟨fun i => match i with | 0 => a0 | j + 1 => a j, ?_, ?_⟩
    · intro i x hx
      match i, hx with
      | 0, hx =>
        obtain rfl : (n, text) = x := by simpa using hx
        exact ⟨hv0, ⟨s0, hc0, hs0⟩, c0, t0, hb0⟩
      | j + 1, hx => exact ha j x (by simpa using hx)
    · rw [List.length_cons, List.range_succ_eq_map, List.map_cons, List.map_map]
      have e1 : MemPlace.row ⟨g, 0, none⟩ (Array.size ⟨[Value.iface tp (.pointer (some a0))]⟩) ++ MemPlace.row a0 1 ++ q0 = MemPlace.cell g 0 :: MemPlace.cell a0.block a0.off :: q0 := by simp [MemPlace.row]
      rw [e1]
      exact List.Sublist.cons _ (List.Sublist.cons_cons _ hsub)

/-- A list of variables, parted. -/
theorem laid_app {P : Program} {W : World} : ∀ (l r : List (String × DataW Unit)) (ps : List MemPlace), DataW.LaidVars P W (l ++ r) ps → ∃ p q, ps = p ++ q ∧ DataW.LaidVars P W l p ∧ DataW.LaidVars P W r q
  | [], r, ps, h => ⟨[], ps, rfl, rfl, h⟩
  | (n, d) :: l, r, ps, h => by
    obtain ⟨g, t, cs, f, p0, q0, h1, h2, h3, h4, h5, e⟩ := h
    obtain ⟨p, q, rfl, hp, hq⟩ := laid_app l r q0 h5
    exact ⟨MemPlace.row ⟨g, 0, none⟩ cs.size ++ p0 ++ p, q, by rw [e]; simp only [List.append_assoc], ⟨g, t, cs, f, p0, p, h1, h2, h3, h4, hp, rfl⟩, hq⟩

/-- What reads as spans are these, cell for cell. -/
theorem cells_of_spans {P : Program} {w : World} {base : Nat} {sp : Nat → Bool} {held : Bool} {fuel : Nat} {t e ti : TypeId} {n : Nat} {cs : List Value} {l : List (Nat × Nat)} {p : List MemPlace} {f0 f1 : Field}
    (ht : P.underlying t = some (.array n e)) (he : P.underlying e = some (.struct #[f0, f1])) (hce : P.cellsOf e = 2) (t0 : f0.type = ti) (t1 : f1.type = ti) (o0 : f0.offset = 0) (o1 : f1.offset = 1) (hti : P.underlying ti = some (.int .i64)) (hci : P.cellsOf ti = 1)
    (h : DataW.trod (fun _ => ()) P w base sp held fuel t cs = some (.agg (l.map fun x => .agg [.lit (.int .i64 x.1), .lit (.int .i64 x.2)]), p)) :
    ∀ i, i < l.length → cs[i * 2]? = some (.int .i64 (spF l i)) ∧ cs[i * 2 + 1]? = some (.int .i64 (spB l i)) := by
  obtain ⟨xs, m, _, hx, _, hxl, hf⟩ := DataW.trod_array ht h
  have hm : (l.map fun x : Nat × Nat => (DataW.agg [.lit (.int .i64 x.1), .lit (.int .i64 x.2)] : DataW Unit)) = xs.map (·.1) := by
    have := congrArg Prod.fst hx
    simpa only [DataW.agg.injEq] using this
  have hlen : l.length = n := by
    have := congrArg List.length hm
    rw [List.length_map, List.length_map] at this
    omega
  intro i hi
  have hfi := hf i (by omega)
  rw [List.getElem?_eq_getElem (show i < xs.length by omega)] at hfi
  have hmi : (DataW.agg [.lit (.int .i64 (l[i]).1), .lit (.int .i64 (l[i]).2)] : DataW Unit) = (xs[i]'(by omega)).1 := by
    have := congrArg (·[i]?) hm
    simpa [List.getElem?_eq_getElem hi, List.getElem?_eq_getElem (show i < xs.length by omega)] using this
  obtain ⟨ys, k, _, hy, _, hyl, hg⟩ := DataW.trod_struct he hfi
  have hyl2 : ys.length = 2 := hyl
  rw [hy] at hmi
  match ys, hyl2 with
  | [z0, z1], _ =>
    have g0 := hg 0 f0 rfl
    have g1 := hg 1 f1 rfl
    rw [t0, o0, hci, hce] at g0
    rw [t1, o1, hci, hce] at g1
    obtain ⟨n0, e0, d0, _⟩ := DataW.trod_int hti (x := z0) g0
    obtain ⟨n1, e1, d1, _⟩ := DataW.trod_int hti (x := z1) g1
    subst d0; subst d1
    simp only [List.map_cons, List.map_nil, DataW.agg.injEq, List.cons.injEq, DataW.lit.injEq, Lit.int.injEq, true_and, and_true] at hmi
    obtain ⟨rfl, rfl⟩ := hmi
    have eF : spF l i = (l[i]).1 := by unfold spF; rw [List.getD_eq_getElem?_getD, List.getElem?_eq_getElem hi]; rfl
    have eB : spB l i = (l[i]).2 := by unfold spB; rw [List.getD_eq_getElem?_getD, List.getElem?_eq_getElem hi]; rfl
    rw [eF, eB]
    constructor
    · have := congrArg (·[0]?) e0
      simpa [List.getElem?_take, List.getElem?_drop] using this
    · have := congrArg (·[0]?) e1
      simpa [List.getElem?_take, List.getElem?_drop] using this

def reasons : List (String × List UInt8) := [("avro/avro.ErrText", [110, 111, 32, 74, 83, 79, 78]), ("avro/avro.ErrSchema", [97, 32, 115, 99, 104, 101, 109, 97, 32, 116, 104, 97, 116, 32, 109, 97, 121, 32, 110, 111, 116, 32, 98, 101]), ("avro/avro.ErrDatum", [97, 32, 100, 97, 116, 117, 109, 32, 116, 104, 97, 116, 32, 116, 104, 101, 32, 115, 99, 104, 101, 109, 97, 32, 100, 111, 101, 115, 32, 110, 111, 116, 32, 104, 97, 118, 101]), ("avro/avro.ErrShort", [98, 121, 116, 101, 115, 32, 116, 104, 97, 116, 32, 101, 110, 100, 32, 116, 111, 111, 32, 101, 97, 114, 108, 121]), ("avro/avro.ErrRange", [97, 32, 110, 117, 109, 98, 101, 114, 32, 111, 114, 32, 97, 32, 116, 101, 120, 116, 32, 116, 104, 97, 116, 32, 109, 97, 121, 32, 110, 111, 116, 32, 98, 101]), ("avro/avro.ErrDeep", [110, 101, 115, 116, 101, 100, 32, 116, 111, 111, 32, 100, 101, 101, 112]), ("avro/avro.ErrMany", [116, 111, 111, 32, 109, 97, 110, 121, 32, 105, 116, 101, 109, 115]), ("avro/avro.ErrFlate", [110, 111, 32, 99, 111, 109, 112, 114, 101, 115, 115, 101, 100, 32, 100, 97, 116, 97]), ("avro/avro.ErrCap", [109, 111, 114, 101, 32, 100, 97, 116, 97, 32, 116, 104, 97, 110, 32, 109, 97, 121, 32, 98, 101]), ("avro/avro.ErrHeader", [110, 111, 32, 104, 101, 97, 100, 101, 114]), ("avro/avro.ErrCodec", [97, 32, 99, 111, 100, 101, 99, 32, 116, 104, 97, 116, 32, 105, 115, 32, 110, 111, 116, 32, 107, 110, 111, 119, 110]), ("avro/avro.ErrBlock", [110, 111, 32, 98, 108, 111, 99, 107]), ("avro/avro.ErrMatch", [115, 99, 104, 101, 109, 97, 115, 32, 116, 104, 97, 116, 32, 100, 111, 32, 110, 111, 116, 32, 103, 111, 32, 116, 111, 103, 101, 116, 104, 101, 114]), ("avro/avro.ErrResolve", [97, 32, 100, 97, 116, 117, 109, 32, 116, 104, 97, 116, 32, 116, 104, 101, 32, 114, 101, 97, 100, 101, 114, 39, 115, 32, 115, 99, 104, 101, 109, 97, 32, 100, 111, 101, 115, 32, 110, 111, 116, 32, 104, 97, 118, 101]), ("avro/avro.ErrClosed", [105, 116, 32, 105, 115, 32, 99, 108, 111, 115, 101, 100]), ("avro/avro.ErrDown", [116, 104, 101, 32, 102, 105, 108, 101, 32, 105, 115, 32, 100, 111, 119, 110])]
def flates : List (String × List UInt8) := [("avro/flate.ErrCap", [109, 111, 114, 101, 32, 98, 121, 116, 101, 115, 32, 99, 111, 109, 101, 32, 111, 117, 116, 32, 116, 104, 97, 110, 32, 109, 97, 121]), ("avro/flate.errEnds", [116, 104, 101, 32, 116, 101, 120, 116, 32, 101, 110, 100, 115, 32, 116, 111, 111, 32, 101, 97, 114, 108, 121]), ("avro/flate.errKind", [97, 32, 98, 108, 111, 99, 107, 32, 111, 102, 32, 97, 32, 107, 105, 110, 100, 32, 116, 104, 97, 116, 32, 116, 104, 101, 114, 101, 32, 105, 115, 32, 110, 111, 116]), ("avro/flate.errStored", [97, 32, 108, 101, 110, 103, 116, 104, 32, 97, 110, 100, 32, 105, 116, 115, 32, 99, 111, 109, 112, 108, 101, 109, 101, 110, 116, 32, 116, 104, 97, 116, 32, 100, 111, 32, 110, 111, 116, 32, 102, 105, 116]), ("avro/flate.errMany", [109, 111, 114, 101, 32, 108, 101, 110, 103, 116, 104, 115, 32, 116, 111, 108, 100, 32, 116, 104, 97, 110, 32, 116, 104, 101, 114, 101, 32, 109, 97, 121, 32, 98, 101]), ("avro/flate.errNone", [97, 32, 108, 101, 110, 103, 116, 104, 32, 97, 103, 97, 105, 110, 32, 119, 104, 101, 114, 101, 32, 116, 104, 101, 114, 101, 32, 105, 115, 32, 110, 111, 110, 101, 32, 97, 104, 101, 97, 100]), ("avro/flate.errBeyond", [108, 101, 110, 103, 116, 104, 115, 32, 98, 101, 121, 111, 110, 100, 32, 116, 104, 111, 115, 101, 32, 116, 104, 97, 116, 32, 97, 114, 101, 32, 116, 111, 108, 100]), ("avro/flate.errNoEnd", [97, 32, 98, 108, 111, 99, 107, 32, 119, 105, 116, 104, 111, 117, 116, 32, 97, 32, 119, 111, 114, 100, 32, 102, 111, 114, 32, 105, 116, 115, 32, 101, 110, 100]), ("avro/flate.errCode", [97, 32, 99, 111, 100, 101, 32, 119, 105, 116, 104, 32, 109, 111, 114, 101, 32, 119, 111, 114, 100, 115, 32, 116, 104, 97, 110, 32, 116, 104, 101, 114, 101, 32, 105, 115, 32, 114, 111, 111, 109, 32, 102, 111, 114, 44, 32, 111, 114, 32, 119, 105, 116, 104, 32, 108, 101, 115, 115]), ("avro/flate.errWord", [97, 32, 119, 111, 114, 100, 32, 116, 104, 97, 116, 32, 116, 104, 101, 114, 101, 32, 105, 115, 32, 110, 111, 116]), ("avro/flate.errDistance", [97, 32, 100, 105, 115, 116, 97, 110, 99, 101, 32, 98, 101, 121, 111, 110, 100, 32, 119, 104, 97, 116, 32, 99, 97, 109, 101, 32, 111, 117, 116]), ("avro/flate.errBehind", [98, 121, 116, 101, 115, 32, 98, 101, 104, 105, 110, 100, 32, 116, 104, 101, 32, 108, 97, 115, 116, 32, 98, 108, 111, 99, 107])]
def errD (x : String × List UInt8) : String × DataW Unit := (x.1, .iface "*errors.errorString" (.ptr (.agg [.lit (.string x.2)])))
def spanD (l : List (Nat × Nat)) : DataW Unit := .agg (l.map fun x => .agg [.lit (.int .i64 x.1), .lit (.int .i64 x.2)])
theorem Tryd.own : ownKnob Tryd.prog.godebug = none := by kernel_rfl
theorem Tryd.cells106 : Tryd.prog.cellsOf 152 = 1 := by kernel_rfl
theorem Tryd.cells9 : Tryd.prog.cellsOf 9 = 1 := by kernel_rfl
theorem Tryd.cells3 : Tryd.prog.cellsOf 3 = 1 := by kernel_rfl
theorem Tryd.cellsSp : Tryd.prog.cellsOf 114 = 2 := by kernel_rfl
theorem star : "*" ++ "errors.errorString" = "*errors.errorString" := by decide
theorem Tryd.row66 (u : TypeId) (h : Tryd.prog.typeName? 3 u = some "*errors.errorString") : u = 131 :=
  typeName_ptr_named (nm := "errors.errorString") (by rw [star]; kernel_rfl) (by kernel_rfl) (by decide) u (by rw [star]; exact h)
theorem Tryd.known : ((List.range 16).all fun i => match reasons[i]? with
    | some x => Tryd.prog.globalNamed x.1 == some i && (Tryd.prog.globals[i]?).map (·.type) == some 31 && decide (0 < x.2.length) && decide (x.2.length < 1000)
    | none => false) = true := by kernel_rfl
theorem known_at (i : Nat) (x : String × List UInt8) (hx : reasons[i]? = some x) :
    Tryd.prog.globalNamed x.1 = some i ∧ (Tryd.prog.globals[i]?).map (·.type) = some 31 ∧ 0 < x.2.length ∧ x.2.length < 1000 := by
  have hi : i < 16 := (List.getElem?_eq_some_iff.1 hx).1
  have h := List.all_eq_true.1 Tryd.known i (List.mem_range.2 hi)
  simp only [hx, Bool.and_eq_true, beq_iff_eq, decide_eq_true_eq] at h
  exact ⟨h.1.1.1, h.1.1.2, h.1.2, h.2⟩
theorem reason_at (i : Nat) (hi : i < 16) : ∃ x, reasons[i]? = some x := ⟨_, List.getElem?_eq_getElem (l := reasons) hi⟩
theorem Tryd.knownF : (flates.all fun x => match Tryd.prog.globalNamed x.1 with
    | some g => (Tryd.prog.globals[g]?).map (·.type) == some 31
    | none => false) = true := by kernel_rfl
theorem knownF_at (x : String × List UInt8) (hx : x ∈ flates) : ∃ g, Tryd.prog.globalNamed x.1 = some g ∧ (Tryd.prog.globals[g]?).map (·.type) = some 31 := by
  have h := List.all_eq_true.1 Tryd.knownF x hx
  cases hg : Tryd.prog.globalNamed x.1 with
  | none => rw [hg] at h; cases h
  | some g => rw [hg] at h; exact ⟨g, rfl, by simpa using h⟩
theorem Tryd.et : Tryd.prog.globalNamed "errors.errorType" = some 17 := by kernel_rfl
theorem Tryd.rt : (Tryd.prog.cutTypes.find? (·.1 == "internal/reflectlite.rtype")).map (·.2) = some 93 := by kernel_rfl
theorem Tryd.oneRow : ((List.range 163).filter fun t => Tryd.prog.rowNamed t [101, 114, 114, 111, 114]) = [31] := by kernel_rfl
theorem Tryd.size : Tryd.prog.types.size = 163 := by kernel_rfl
theorem flt : (Rows.packedRow.laid.filter fun x => x.2.handleName?.isNone) = flates.map errD ++ ([("avro/flate.lengthOrder", Rows.laid_avro_flate_lengthOrder), ("avro/flate.lengthSpans", spanD lenF), ("avro/flate.distanceSpans", spanD disF)] ++ reasons.map errD) := by kernel_rfl
theorem flh : (Rows.packedRow.laid.filter fun x => x.2.handleName?.isSome) = [("errors.errorType", Rows.laid_errors_errorType)] := by kernel_rfl
theorem Tryd.gls : Tryd.prog.globalNamed "avro/flate.lengthSpans" = some 20 := by kernel_rfl
theorem Tryd.gds : Tryd.prog.globalNamed "avro/flate.distanceSpans" = some 21 := by kernel_rfl
theorem Tryd.tls : (Tryd.prog.globals[20]?).map (·.type) = some 115 := by kernel_rfl
theorem Tryd.tds : (Tryd.prog.globals[21]?).map (·.type) = some 116 := by kernel_rfl

/-- The reasons, off the last part of the list. -/
theorem met_of {W : World} {ps q : List MemPlace} (hv : DataW.LaidVars Tryd.prog W (reasons.map errD) q) (hsb : q.Sublist ps) (hnd : ps.Nodup)
    (hrows : ∀ b off, MemPlace.cell b off ∈ ps → (∃ c t, W.heap[b]? = some (.cells c t (0, 0))) ∧ ∀ u v, W.cell? ⟨b, off, none⟩ = some (.iface u v) → Value.okWide Tryd.prog W .any 0 u v)
    (hh : W.cell? ⟨17, 0, none⟩ = some (.iface 93 (.agg #[.pointer (some ⟨32, 31, none⟩)]))) : ∃ a, Met a W := by
  obtain ⟨a, ha, hsub⟩ := laid_many Tryd.underlying31 Tryd.row66 Tryd.underlying131 Tryd.underlying152 rfl rfl Tryd.underlying9 Tryd.cells106 Tryd.cells9 reasons q
    (fun x hx => by
      obtain ⟨i, hi⟩ := List.getElem?_of_mem hx
      exact ⟨i, (known_at i x hi).1, (known_at i x hi).2.1⟩) hv (fun b off hm => hrows b off (hsb.subset hm))
  refine ⟨a, fun i hi => ?_, fun i j hi hj hne heq => ?_, fun i hi => ?_, fun i hi => ?_, hh⟩
  · obtain ⟨x, hx⟩ := reason_at i hi
    simpa using World.var?_cell (known_at i x hx).1 (ha i x hx).1 0
  · have hd := List.Nodup.sublist (hsub.trans hsb) hnd
    have hlen : reasons.length = 16 := rfl
    rw [hlen] at hd
    have hpw := List.pairwise_iff_getElem.1 hd
    rcases Nat.lt_or_gt_of_ne hne with h | h
    · exact hpw i j (by simpa using hi) (by simpa using hj) h (by simp [heq])
    · exact hpw j i (by simpa using hj) (by simpa using hi) h (by simp [heq])
  · obtain ⟨x, hx⟩ := reason_at i hi
    exact (ha i x hx).2.2
  · obtain ⟨x, hx⟩ := reason_at i hi
    obtain ⟨s, hs, ht⟩ := (ha i x hx).2.1
    have hk := known_at i x hx
    refine ⟨s, hs, ?_, ?_⟩
    · rw [ByteArray.toList_eq, ht]
      cases hl : x.2 with
      | nil => rw [hl] at hk; exact absurd hk.2.2.1 (by decide)
      | cons _ _ => rfl
    · have e : s.size = x.2.length := by rw [← ht]; rfl
      rw [e]; exact hk.2.2.2

/-- What the condition gives the walk. -/
theorem laid_facts {W : World} (h : laidMetH Tryd.prog Rows.packedRow.laid W) :
    (∃ a, Met a W) ∧ SpAt W 20 lenF ∧ SpAt W 21 disF ∧ ∃ b : Nat → Addr, ∀ i x, flates[i]? = some x → W.var? Tryd.prog x.1 = some #[.iface 131 (.pointer (some (b i)))] := by
  unfold laidMetH at h
  rw [flh, flt] at h
  obtain ⟨⟨ps, hv, hnd, hrows⟩, hh⟩ := h
  obtain ⟨p1, q1, rfl, hv1, hv2⟩ := laid_app _ _ _ hv
  obtain ⟨p2, q2, rfl, hv3, hv4⟩ := laid_app _ _ _ hv2
  refine ⟨met_of hv4 ((List.sublist_append_right _ _).trans (List.sublist_append_right _ _)) hnd hrows ?_, ?_, ?_, ?_⟩
  · obtain ⟨name, u, ty, e1, e2, e3, e4, e5⟩ := hh _ (List.mem_singleton.2 rfl)
    have en : name = [101, 114, 114, 111, 114] := (Option.some.inj e1).symm
    subst en
    obtain rfl := Option.some.inj (Tryd.rt.symm.trans e2)
    have hm : ty ∈ (List.range 163).filter fun t => Tryd.prog.rowNamed t [101, 114, 114, 111, 114] := List.mem_filter.2 ⟨List.mem_range.2 (by rw [← Tryd.size]; exact e3), e4⟩
    rw [Tryd.oneRow] at hm
    obtain rfl := List.mem_singleton.1 hm
    have hh : typeHandle Tryd.prog 31 = .pointer (some ⟨32, 31, none⟩) := by kernel_rfl
    rw [hh] at e5
    simpa using World.var?_cell Tryd.et e5 0
  · obtain ⟨_, _, _, _, _, _, _, _, _, _, ⟨g, t, cs, f, p, q, hg, ht, hvr, hd, _, _⟩, _⟩ := hv3
    obtain rfl := Option.some.inj (Tryd.gls.symm.trans hg)
    obtain rfl := Option.some.inj (Tryd.tls.symm.trans ht)
    have hc := cells_of_spans Tryd.underlying115 Tryd.underlying114 Tryd.cellsSp rfl rfl rfl rfl Tryd.underlying3 Tryd.cells3 hd
    intro i hi
    refine ⟨?_, ?_⟩
    · rw [World.var?_cell Tryd.gls hvr (i * 2)]; simpa using (hc i hi).1
    · rw [World.var?_cell Tryd.gls hvr (i * 2 + 1)]; simpa using (hc i hi).2
  · obtain ⟨_, _, _, _, _, _, _, _, _, _, ⟨_, _, _, _, _, _, _, _, _, _, ⟨g, t, cs, f, p, q, hg, ht, hvr, hd, _, _⟩, _⟩, _⟩ := hv3
    obtain rfl := Option.some.inj (Tryd.gds.symm.trans hg)
    obtain rfl := Option.some.inj (Tryd.tds.symm.trans ht)
    have hc := cells_of_spans Tryd.underlying116 Tryd.underlying114 Tryd.cellsSp rfl rfl rfl rfl Tryd.underlying3 Tryd.cells3 hd
    intro i hi
    refine ⟨?_, ?_⟩
    · rw [World.var?_cell Tryd.gds hvr (i * 2)]; simpa using (hc i hi).1
    · rw [World.var?_cell Tryd.gds hvr (i * 2 + 1)]; simpa using (hc i hi).2
  · obtain ⟨b, hb, _⟩ := laid_many Tryd.underlying31 Tryd.row66 Tryd.underlying131 Tryd.underlying152 rfl rfl Tryd.underlying9 Tryd.cells106 Tryd.cells9 flates p1
      (fun x hx => knownF_at x hx) hv1 (fun b off hm => hrows b off (List.mem_append_left _ hm))
    exact ⟨b, fun i x hx => (hb i x hx).1⟩

/-- The door's own heap meets the condition. -/
theorem door_met (os : Os) (args : Array Value) : laidMetH Tryd.prog Rows.packedRow.laid ((World.doorLaid Tryd.prog 1000 os).forCall (fun _ _ => 0) ⟨#[], args, []⟩).memory :=
  laidMetH_of_parts3 (fuel := 8) (laidMet_of_run' 8 (by kernel_rfl) (by kernel_rfl)) (by kernel_rfl) (by kernel_rfl)
end Go.Proofs.YtohfpmlofjhigaaDoor
