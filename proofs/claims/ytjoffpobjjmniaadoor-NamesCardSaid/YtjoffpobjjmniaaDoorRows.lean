/-
  NARROWER THAN 'FOR EVERY INPUT', by the rows' own cells (each row's printed sentence says how): Names: laid.
  DERIVED. THE GIVEN ROWS OF THIS SEAT. 1 by the template 'for every input the law returns true; each argument reads behind the call as it read before'; 0 by the template 'total and deterministic' (their statements: YtjoffpobjjmniaaDoorTotals.lean).
  GIVEN WITH THE SEED: the statements are not yours to turn. If you find one false, say at which input.
  Laid BY PROGRAM, IN A SANDBOX (cutbox-rows.mjs): the forced cells as the released guide's own fill.sh prints them over the translation 12ed74d4663d6004… (all of the seat's roots in one cut). By AI agents, Wed Nov 11 2026. No macro, syntax, notation, axiom, sorry.
-/
import Derived.Test.YtjoffpobjjmniaaDoorChecked
import GoSem.Claim
import GoSem.ClaimJoined
import GoSem.ClaimMapViews
import Derived.JoinedTies
import Derived.KernelRfl
namespace Go.Proofs.YtjoffpobjjmniaaDoor
/- THE CELL 'sum', in the pinned program and in every row, IS THE sha256 OF THE DUMP (.gsa) THAT YtjoffpobjjmniaaDoorProg.lean LOADS. Nothing in Lean hashes anything: it is a label: what it is worth is what the hold of that sum in a sandbox is worth. -/
noncomputable def Tryd.pinned : Pinned := { name := "ytjoffpobjjmniaadoor", sum := "12ed74d4663d600474fc66c9eef74657a5621b77fabe93b600a3764110ee91de", checked := Tryd.checked }
namespace Rows
def none {H : Type} : Left H := { results := [], args := [] }

/- WHAT THE LISTED PACKAGE-LEVEL VARIABLES READ AS WHEN THE CALL BEGINS. Each datum BY PROGRAM (the guide's laid-datum.mjs) off the statement by which the dump's own 'gosem.cut.vars' lays the variable. In a bare row this is a premise. The card (YtjoffpobjjmniaaDoorCards.lean) ties it to the program's text. -/
def laid_errors_errorType {H : Type} : DataW H := .iface "internal/reflectlite.rtype" (.agg [.ptr (.lit (.string [101, 114, 114, 111, 114]))])
def laid_warrant_warrant_ErrWord {H : Type} : DataW H := .iface "*errors.errorString" (.ptr (.agg [.lit (.string [97, 32, 119, 111, 114, 100, 32, 116, 104, 97, 116, 32, 109, 97, 121, 32, 110, 111, 116, 32, 98, 101])]))
def laid_warrant_warrant_ErrForm {H : Type} : DataW H := .iface "*errors.errorString" (.ptr (.agg [.lit (.string [115, 111, 109, 101, 116, 104, 105, 110, 103, 32, 101, 108, 115, 101, 32, 105, 115, 32, 119, 97, 110, 116, 101, 100, 32, 104, 101, 114, 101])]))
def laid_warrant_warrant_ErrDeep {H : Type} : DataW H := .iface "*errors.errorString" (.ptr (.agg [.lit (.string [108, 105, 115, 116, 115, 32, 116, 104, 97, 116, 32, 97, 114, 101, 32, 116, 111, 111, 32, 100, 101, 101, 112])]))
def laid_warrant_warrant_ErrLimit {H : Type} : DataW H := .iface "*errors.errorString" (.ptr (.agg [.lit (.string [116, 111, 111, 32, 109, 97, 110, 121, 44, 32, 111, 114, 32, 116, 111, 111, 32, 108, 111, 110, 103])]))
def laid_warrant_warrant_ErrFree {H : Type} : DataW H := .iface "*errors.errorString" (.ptr (.agg [.lit (.string [97, 32, 118, 97, 114, 105, 97, 98, 108, 101, 32, 116, 104, 97, 116, 32, 110, 111, 116, 104, 105, 110, 103, 32, 98, 105, 110, 100, 115])]))
def laid_warrant_warrant_ErrShort {H : Type} : DataW H := .iface "*errors.errorString" (.ptr (.agg [.lit (.string [98, 121, 116, 101, 115, 32, 116, 104, 97, 116, 32, 101, 110, 100, 32, 116, 111, 111, 32, 101, 97, 114, 108, 121])]))
def laid_warrant_warrant_ErrBytes {H : Type} : DataW H := .iface "*errors.errorString" (.ptr (.agg [.lit (.string [98, 121, 116, 101, 115, 32, 116, 104, 97, 116, 32, 109, 97, 121, 32, 110, 111, 116, 32, 98, 101])]))
def laid_warrant_warrant_ErrKey {H : Type} : DataW H := .iface "*errors.errorString" (.ptr (.agg [.lit (.string [97, 32, 107, 101, 121, 32, 116, 104, 97, 116, 32, 109, 97, 121, 32, 110, 111, 116, 32, 98, 101])]))
def laid_warrant_warrant_ErrSealed {H : Type} : DataW H := .iface "*errors.errorString" (.ptr (.agg [.lit (.string [97, 32, 116, 111, 107, 101, 110, 32, 116, 104, 97, 116, 32, 105, 115, 32, 115, 101, 97, 108, 101, 100])]))
def laid_warrant_warrant_ErrTag {H : Type} : DataW H := .iface "*errors.errorString" (.ptr (.agg [.lit (.string [97, 32, 116, 97, 103, 32, 116, 104, 97, 116, 32, 105, 115, 32, 110, 111, 116, 32, 114, 105, 103, 104, 116])]))

/-- 'warrantlaw.Names': WHATEVER THE INPUT: true; the input reads as it did. -/
def namesSpec : ChangeSpec := { name := "names", fn := fun _ => fun
  | [] => { results := [.lit (.bool true)], args := [] }
  | _ => none }
def namesRow : OpenClaim := { program := "ytjoffpobjjmniaadoor", sum := "12ed74d4663d600474fc66c9eef74657a5621b77fabe93b600a3764110ee91de", func := "warrant/warrantlaw.Names", spec := "names", inPlace := ["internal/reflectlite.TypeOf", "internal/reflectlite.ValueOf", "(internal/reflectlite.Value).Type", "(internal/reflectlite.Value).IsNil", "(internal/reflectlite.Value).Elem", "(internal/reflectlite.Value).Set"], unfollowed := true, recurses := true, named := ["warrant/warrant.ErrWord", "warrant/warrant.ErrForm", "warrant/warrant.ErrDeep", "warrant/warrant.ErrLimit", "warrant/warrant.ErrFree", "warrant/warrant.ErrShort", "warrant/warrant.ErrBytes", "warrant/warrant.ErrKey", "warrant/warrant.ErrSealed", "warrant/warrant.ErrTag", "errors.errorType"], apart := false, laid := [("errors.errorType", laid_errors_errorType), ("warrant/warrant.ErrWord", laid_warrant_warrant_ErrWord), ("warrant/warrant.ErrForm", laid_warrant_warrant_ErrForm), ("warrant/warrant.ErrDeep", laid_warrant_warrant_ErrDeep), ("warrant/warrant.ErrLimit", laid_warrant_warrant_ErrLimit), ("warrant/warrant.ErrFree", laid_warrant_warrant_ErrFree), ("warrant/warrant.ErrShort", laid_warrant_warrant_ErrShort), ("warrant/warrant.ErrBytes", laid_warrant_warrant_ErrBytes), ("warrant/warrant.ErrKey", laid_warrant_warrant_ErrKey), ("warrant/warrant.ErrSealed", laid_warrant_warrant_ErrSealed), ("warrant/warrant.ErrTag", laid_warrant_warrant_ErrTag)] }
def NamesSaid : Prop := namesRow.holds Tryd.pinned (OpenSpec.ofChange namesSpec)

/-- ITS FALSE NEIGHBOUR: 'it returns false'. Refute it at one input. -/
def namesWrong : ChangeSpec := { name := "names", fn := fun _ => fun
  | [] => { results := [.lit (.bool false)], args := [] }
  | _ => none }
def NamesWrongFalsely : Prop := namesRow.holds Tryd.pinned (OpenSpec.ofChange namesWrong)

/- THE SECOND FORM. 'bulk': how many values and letters a reading holds, each counted each time it is reached (what is shared counts as often as it is met; a slice's spare places count too). A statement '..UptoSaid' is the law's where the arguments, and the package variables that the reading takes, are together of bulk at most 1048576: NARROWER than '..Said'. Prove '..Said' where nothing that the law and all that it calls make is longer than what came in: it says more and counts as full. Else prove '..UptoSaid'. A law counts once. -/
mutual
def uptoBulk {H : Type} : DataW H → Nat
  | .lit (.string bytes) => bytes.length + 1
  | .lit _ => 1
  | .nil => 1
  | .ptr d => uptoBulk d + 1
  | .slice elems spare => uptoBulkAll elems + uptoBulkAll spare + 1
  | .agg parts => uptoBulkAll parts + 1
  | .iface _ d => uptoBulk d + 1
  | .map entries => uptoBulkEntries entries + 1
  | .held _ => 1
def uptoBulkAll {H : Type} : List (DataW H) → Nat
  | [] => 0
  | d :: r => uptoBulk d + uptoBulkAll r
def uptoBulkEntries {H : Type} : List (Lit × DataW H) → Nat
  | [] => 0
  | x :: r => uptoBulkEntry x + uptoBulkEntries r
def uptoBulkEntry {H : Type} : Lit × DataW H → Nat
  | (.string bytes, d) => bytes.length + uptoBulk d + 1
  | (_, d) => uptoBulk d + 1
 end
def uptoSmall : (H : Type) → List (DataW H) → Bool := fun _ ds => decide (uptoBulkAll ds ≤ 1048576)
def OpenSpec.upto (s : _root_.Go.ChangeSpec) : _root_.Go.OpenSpec := { _root_.Go.OpenSpec.ofChange s with cond := some uptoSmall }

/-- 'warrantlaw.Names', WHERE WHAT IT READS IS OF BULK AT MOST 1048576: true; the input reads as it did. -/
def namesUptoRow : OpenClaim := { program := "ytjoffpobjjmniaadoor", sum := "12ed74d4663d600474fc66c9eef74657a5621b77fabe93b600a3764110ee91de", func := "warrant/warrantlaw.Names", spec := "names", inPlace := ["internal/reflectlite.TypeOf", "internal/reflectlite.ValueOf", "(internal/reflectlite.Value).Type", "(internal/reflectlite.Value).IsNil", "(internal/reflectlite.Value).Elem", "(internal/reflectlite.Value).Set"], unfollowed := true, recurses := true, named := ["warrant/warrant.ErrWord", "warrant/warrant.ErrForm", "warrant/warrant.ErrDeep", "warrant/warrant.ErrLimit", "warrant/warrant.ErrFree", "warrant/warrant.ErrShort", "warrant/warrant.ErrBytes", "warrant/warrant.ErrKey", "warrant/warrant.ErrSealed", "warrant/warrant.ErrTag", "errors.errorType"], apart := false, laid := [("errors.errorType", laid_errors_errorType), ("warrant/warrant.ErrWord", laid_warrant_warrant_ErrWord), ("warrant/warrant.ErrForm", laid_warrant_warrant_ErrForm), ("warrant/warrant.ErrDeep", laid_warrant_warrant_ErrDeep), ("warrant/warrant.ErrLimit", laid_warrant_warrant_ErrLimit), ("warrant/warrant.ErrFree", laid_warrant_warrant_ErrFree), ("warrant/warrant.ErrShort", laid_warrant_warrant_ErrShort), ("warrant/warrant.ErrBytes", laid_warrant_warrant_ErrBytes), ("warrant/warrant.ErrKey", laid_warrant_warrant_ErrKey), ("warrant/warrant.ErrSealed", laid_warrant_warrant_ErrSealed), ("warrant/warrant.ErrTag", laid_warrant_warrant_ErrTag)], narrowed := true }
def NamesUptoSaid : Prop := namesUptoRow.holds Tryd.pinned (OpenSpec.upto namesSpec)

end Rows
end Go.Proofs.YtjoffpobjjmniaaDoor
