/-
  NARROWER THAN 'FOR EVERY INPUT', by the rows' own cells (each row's printed sentence says how): Names: laid.
  DERIVED. THE GIVEN ROWS OF THIS SEAT. 1 by the template 'for every input the law returns true; each argument reads behind the call as it read before'; 0 by the template 'total and deterministic' (their statements: YtpbbpdopfhadbaaDoorTotals.lean).
  GIVEN WITH THE SEED: the statements are not yours to turn. If you find one false, say at which input.
  Laid BY PROGRAM, IN A SANDBOX (cutbox-rows.mjs): the forced cells as the released guide's own fill.sh prints them over the translation b1db8b876bed2887… (all of the seat's roots in one cut). By AI agents, Wed Nov 11 2026. No macro, syntax, notation, axiom, sorry.
-/
import Derived.Test.YtpbbpdopfhadbaaDoorChecked
import GoSem.Claim
import GoSem.ClaimJoined
import GoSem.ClaimMapViews
import Derived.JoinedTies
import Derived.KernelRfl
namespace Go.Proofs.YtpbbpdopfhadbaaDoor
/- THE CELL 'sum', in the pinned program and in every row, IS THE sha256 OF THE DUMP (.gsa) THAT YtpbbpdopfhadbaaDoorProg.lean LOADS. Nothing in Lean hashes anything: it is a label: what it is worth is what the hold of that sum in a sandbox is worth. -/
noncomputable def Tryd.pinned : Pinned := { name := "ytpbbpdopfhadbaadoor", sum := "b1db8b876bed2887cfa2348972e8cb0e6667aab1d0e3a870fef8eb413dd02c2f", checked := Tryd.checked }
namespace Rows
def none {H : Type} : Left H := { results := [], args := [] }

/- WHAT THE LISTED PACKAGE-LEVEL VARIABLES READ AS WHEN THE CALL BEGINS. Each datum BY PROGRAM (the guide's laid-datum.mjs) off the statement by which the dump's own 'gosem.cut.vars' lays the variable. In a bare row this is a premise. The card (YtpbbpdopfhadbaaDoorCards.lean) ties it to the program's text. -/
def laid_errors_errorType {H : Type} : DataW H := .iface "internal/reflectlite.rtype" (.agg [.ptr (.lit (.string [101, 114, 114, 111, 114]))])
def laid_avro_avro_ErrText {H : Type} : DataW H := .iface "*errors.errorString" (.ptr (.agg [.lit (.string [110, 111, 32, 74, 83, 79, 78])]))
def laid_avro_avro_ErrSchema {H : Type} : DataW H := .iface "*errors.errorString" (.ptr (.agg [.lit (.string [97, 32, 115, 99, 104, 101, 109, 97, 32, 116, 104, 97, 116, 32, 109, 97, 121, 32, 110, 111, 116, 32, 98, 101])]))
def laid_avro_avro_ErrDatum {H : Type} : DataW H := .iface "*errors.errorString" (.ptr (.agg [.lit (.string [97, 32, 100, 97, 116, 117, 109, 32, 116, 104, 97, 116, 32, 116, 104, 101, 32, 115, 99, 104, 101, 109, 97, 32, 100, 111, 101, 115, 32, 110, 111, 116, 32, 104, 97, 118, 101])]))
def laid_avro_avro_ErrShort {H : Type} : DataW H := .iface "*errors.errorString" (.ptr (.agg [.lit (.string [98, 121, 116, 101, 115, 32, 116, 104, 97, 116, 32, 101, 110, 100, 32, 116, 111, 111, 32, 101, 97, 114, 108, 121])]))
def laid_avro_avro_ErrRange {H : Type} : DataW H := .iface "*errors.errorString" (.ptr (.agg [.lit (.string [97, 32, 110, 117, 109, 98, 101, 114, 32, 111, 114, 32, 97, 32, 116, 101, 120, 116, 32, 116, 104, 97, 116, 32, 109, 97, 121, 32, 110, 111, 116, 32, 98, 101])]))
def laid_avro_avro_ErrDeep {H : Type} : DataW H := .iface "*errors.errorString" (.ptr (.agg [.lit (.string [110, 101, 115, 116, 101, 100, 32, 116, 111, 111, 32, 100, 101, 101, 112])]))
def laid_avro_avro_ErrMany {H : Type} : DataW H := .iface "*errors.errorString" (.ptr (.agg [.lit (.string [116, 111, 111, 32, 109, 97, 110, 121, 32, 105, 116, 101, 109, 115])]))
def laid_avro_avro_ErrFlate {H : Type} : DataW H := .iface "*errors.errorString" (.ptr (.agg [.lit (.string [110, 111, 32, 99, 111, 109, 112, 114, 101, 115, 115, 101, 100, 32, 100, 97, 116, 97])]))
def laid_avro_avro_ErrCap {H : Type} : DataW H := .iface "*errors.errorString" (.ptr (.agg [.lit (.string [109, 111, 114, 101, 32, 100, 97, 116, 97, 32, 116, 104, 97, 110, 32, 109, 97, 121, 32, 98, 101])]))
def laid_avro_avro_ErrHeader {H : Type} : DataW H := .iface "*errors.errorString" (.ptr (.agg [.lit (.string [110, 111, 32, 104, 101, 97, 100, 101, 114])]))
def laid_avro_avro_ErrCodec {H : Type} : DataW H := .iface "*errors.errorString" (.ptr (.agg [.lit (.string [97, 32, 99, 111, 100, 101, 99, 32, 116, 104, 97, 116, 32, 105, 115, 32, 110, 111, 116, 32, 107, 110, 111, 119, 110])]))
def laid_avro_avro_ErrBlock {H : Type} : DataW H := .iface "*errors.errorString" (.ptr (.agg [.lit (.string [110, 111, 32, 98, 108, 111, 99, 107])]))
def laid_avro_avro_ErrMatch {H : Type} : DataW H := .iface "*errors.errorString" (.ptr (.agg [.lit (.string [115, 99, 104, 101, 109, 97, 115, 32, 116, 104, 97, 116, 32, 100, 111, 32, 110, 111, 116, 32, 103, 111, 32, 116, 111, 103, 101, 116, 104, 101, 114])]))
def laid_avro_avro_ErrResolve {H : Type} : DataW H := .iface "*errors.errorString" (.ptr (.agg [.lit (.string [97, 32, 100, 97, 116, 117, 109, 32, 116, 104, 97, 116, 32, 116, 104, 101, 32, 114, 101, 97, 100, 101, 114, 39, 115, 32, 115, 99, 104, 101, 109, 97, 32, 100, 111, 101, 115, 32, 110, 111, 116, 32, 104, 97, 118, 101])]))
def laid_avro_avro_ErrClosed {H : Type} : DataW H := .iface "*errors.errorString" (.ptr (.agg [.lit (.string [105, 116, 32, 105, 115, 32, 99, 108, 111, 115, 101, 100])]))
def laid_avro_avro_ErrDown {H : Type} : DataW H := .iface "*errors.errorString" (.ptr (.agg [.lit (.string [116, 104, 101, 32, 102, 105, 108, 101, 32, 105, 115, 32, 100, 111, 119, 110])]))

/-- 'avrolaw.Names': WHATEVER THE INPUT: true; the input reads as it did. -/
def namesSpec : ChangeSpec := { name := "names", fn := fun _ => fun
  | [] => { results := [.lit (.bool true)], args := [] }
  | _ => none }
def namesRow : OpenClaim := { program := "ytpbbpdopfhadbaadoor", sum := "b1db8b876bed2887cfa2348972e8cb0e6667aab1d0e3a870fef8eb413dd02c2f", func := "avro/avrolaw.Names", spec := "names", inPlace := ["internal/reflectlite.TypeOf", "internal/reflectlite.ValueOf", "(internal/reflectlite.Value).Type", "(internal/reflectlite.Value).IsNil", "(internal/reflectlite.Value).Elem", "(internal/reflectlite.Value).Set"], unfollowed := true, recurses := true, named := ["avro/avro.ErrText", "avro/avro.ErrSchema", "avro/avro.ErrDatum", "avro/avro.ErrShort", "avro/avro.ErrRange", "avro/avro.ErrDeep", "avro/avro.ErrMany", "avro/avro.ErrFlate", "avro/avro.ErrCap", "avro/avro.ErrHeader", "avro/avro.ErrCodec", "avro/avro.ErrBlock", "avro/avro.ErrMatch", "avro/avro.ErrResolve", "avro/avro.ErrClosed", "avro/avro.ErrDown", "errors.errorType"], apart := false, laid := [("errors.errorType", laid_errors_errorType), ("avro/avro.ErrText", laid_avro_avro_ErrText), ("avro/avro.ErrSchema", laid_avro_avro_ErrSchema), ("avro/avro.ErrDatum", laid_avro_avro_ErrDatum), ("avro/avro.ErrShort", laid_avro_avro_ErrShort), ("avro/avro.ErrRange", laid_avro_avro_ErrRange), ("avro/avro.ErrDeep", laid_avro_avro_ErrDeep), ("avro/avro.ErrMany", laid_avro_avro_ErrMany), ("avro/avro.ErrFlate", laid_avro_avro_ErrFlate), ("avro/avro.ErrCap", laid_avro_avro_ErrCap), ("avro/avro.ErrHeader", laid_avro_avro_ErrHeader), ("avro/avro.ErrCodec", laid_avro_avro_ErrCodec), ("avro/avro.ErrBlock", laid_avro_avro_ErrBlock), ("avro/avro.ErrMatch", laid_avro_avro_ErrMatch), ("avro/avro.ErrResolve", laid_avro_avro_ErrResolve), ("avro/avro.ErrClosed", laid_avro_avro_ErrClosed), ("avro/avro.ErrDown", laid_avro_avro_ErrDown)] }
def NamesSaid : Prop := namesRow.holds Tryd.pinned (OpenSpec.ofChange namesSpec)

/-- ITS FALSE NEIGHBOUR: 'it returns false'. Refute it at one input. -/
def namesWrong : ChangeSpec := { name := "names", fn := fun _ => fun
  | [] => { results := [.lit (.bool false)], args := [] }
  | _ => none }
def NamesWrongFalsely : Prop := namesRow.holds Tryd.pinned (OpenSpec.ofChange namesWrong)

/- THE SECOND FORM. 'bulk': how many values and letters a reading holds, each counted each time it is reached (what is shared counts as often as it is met; a slice's spare places count too). A statement '..UptoSaid' is the law's where the arguments, and the package variables that the reading takes, are together of bulk at most 1048576: NARROWER than '..Said'. Prove '..Said' where nothing that the law and all that it calls make is longer than what came in: it says more and counts as full. Else prove '..UptoSaid'. A law counts once. -/
mutual
def uptoBulk {H : Type} : DataW H → Nat
  | .lit (.string bytes) => bytes.length + 1
  | .lit _ => 1
  | .nil => 1
  | .ptr d => uptoBulk d + 1
  | .slice elems spare => uptoBulkAll elems + uptoBulkAll spare + 1
  | .agg parts => uptoBulkAll parts + 1
  | .iface _ d => uptoBulk d + 1
  | .map entries => uptoBulkEntries entries + 1
  | .held _ => 1
def uptoBulkAll {H : Type} : List (DataW H) → Nat
  | [] => 0
  | d :: r => uptoBulk d + uptoBulkAll r
def uptoBulkEntries {H : Type} : List (Lit × DataW H) → Nat
  | [] => 0
  | x :: r => uptoBulkEntry x + uptoBulkEntries r
def uptoBulkEntry {H : Type} : Lit × DataW H → Nat
  | (.string bytes, d) => bytes.length + uptoBulk d + 1
  | (_, d) => uptoBulk d + 1
 end
def uptoSmall : (H : Type) → List (DataW H) → Bool := fun _ ds => decide (uptoBulkAll ds ≤ 1048576)
def OpenSpec.upto (s : _root_.Go.ChangeSpec) : _root_.Go.OpenSpec := { _root_.Go.OpenSpec.ofChange s with cond := some uptoSmall }

/-- 'avrolaw.Names', WHERE WHAT IT READS IS OF BULK AT MOST 1048576: true; the input reads as it did. -/
def namesUptoRow : OpenClaim := { program := "ytpbbpdopfhadbaadoor", sum := "b1db8b876bed2887cfa2348972e8cb0e6667aab1d0e3a870fef8eb413dd02c2f", func := "avro/avrolaw.Names", spec := "names", inPlace := ["internal/reflectlite.TypeOf", "internal/reflectlite.ValueOf", "(internal/reflectlite.Value).Type", "(internal/reflectlite.Value).IsNil", "(internal/reflectlite.Value).Elem", "(internal/reflectlite.Value).Set"], unfollowed := true, recurses := true, named := ["avro/avro.ErrText", "avro/avro.ErrSchema", "avro/avro.ErrDatum", "avro/avro.ErrShort", "avro/avro.ErrRange", "avro/avro.ErrDeep", "avro/avro.ErrMany", "avro/avro.ErrFlate", "avro/avro.ErrCap", "avro/avro.ErrHeader", "avro/avro.ErrCodec", "avro/avro.ErrBlock", "avro/avro.ErrMatch", "avro/avro.ErrResolve", "avro/avro.ErrClosed", "avro/avro.ErrDown", "errors.errorType"], apart := false, laid := [("errors.errorType", laid_errors_errorType), ("avro/avro.ErrText", laid_avro_avro_ErrText), ("avro/avro.ErrSchema", laid_avro_avro_ErrSchema), ("avro/avro.ErrDatum", laid_avro_avro_ErrDatum), ("avro/avro.ErrShort", laid_avro_avro_ErrShort), ("avro/avro.ErrRange", laid_avro_avro_ErrRange), ("avro/avro.ErrDeep", laid_avro_avro_ErrDeep), ("avro/avro.ErrMany", laid_avro_avro_ErrMany), ("avro/avro.ErrFlate", laid_avro_avro_ErrFlate), ("avro/avro.ErrCap", laid_avro_avro_ErrCap), ("avro/avro.ErrHeader", laid_avro_avro_ErrHeader), ("avro/avro.ErrCodec", laid_avro_avro_ErrCodec), ("avro/avro.ErrBlock", laid_avro_avro_ErrBlock), ("avro/avro.ErrMatch", laid_avro_avro_ErrMatch), ("avro/avro.ErrResolve", laid_avro_avro_ErrResolve), ("avro/avro.ErrClosed", laid_avro_avro_ErrClosed), ("avro/avro.ErrDown", laid_avro_avro_ErrDown)], narrowed := true }
def NamesUptoSaid : Prop := namesUptoRow.holds Tryd.pinned (OpenSpec.upto namesSpec)

end Rows
end Go.Proofs.YtpbbpdopfhadbaaDoor
