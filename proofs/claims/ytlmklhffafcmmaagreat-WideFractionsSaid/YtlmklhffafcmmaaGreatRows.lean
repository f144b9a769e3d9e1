/-
  No cell of these rows narrows 'for every input' (looked for: loops, veiled, ifaces, maps, wideKeys, modest, calm, conditions, laid).
  DERIVED. THE GIVEN ROWS OF THIS SEAT. 4 by the template 'for every input the law returns true; each argument reads behind the call as it read before'; 0 by the template 'total and deterministic' (their statements: YtlmklhffafcmmaaGreatTotals.lean).
  GIVEN WITH THE SEED: the statements are not yours to turn. If you find one false, say at which input.
  Laid BY PROGRAM, IN A SANDBOX (cutbox-rows.mjs): the forced cells as the released guide's own fill.sh prints them over the translation afa0e289daca7f2d… (all of the seat's roots in one cut). By AI agents, Wed Nov 11 2026. No macro, syntax, notation, axiom, sorry.
-/
import Derived.Test.YtlmklhffafcmmaaGreatChecked
import GoSem.Claim
import GoSem.ClaimJoined
import GoSem.ClaimMapViews
import Derived.JoinedTies
import Derived.KernelRfl
namespace Go.Proofs.YtlmklhffafcmmaaGreat
/- THE CELL 'sum', in the pinned program and in every row, IS THE sha256 OF THE DUMP (.gsa) THAT YtlmklhffafcmmaaGreatProg.lean LOADS. Nothing in Lean hashes anything: it is a label: what it is worth is what the hold of that sum in a sandbox is worth. -/
noncomputable def Tryz.pinned : Pinned := { name := "ytlmklhffafcmmaagreat", sum := "afa0e289daca7f2ded2b385081edcf1ef984d0ba5d7e0f1dcf408d12a941621f", checked := Tryz.checked }
namespace Rows
def none {H : Type} : Left H := { results := [], args := [] }

/-- 'skylanternlaw01.WideRatios': WHATEVER THE INPUT: true; the input reads as it did. -/
def wideRatiosSpec : ChangeSpec := { name := "wideRatios", fn := fun _ => fun
  | [d1, d2, d3, d4] => { results := [.lit (.bool true)], args := [d1, d2, d3, d4] }
  | _ => none }
def wideRatiosRow : OpenClaim := { program := "ytlmklhffafcmmaagreat", sum := "afa0e289daca7f2ded2b385081edcf1ef984d0ba5d7e0f1dcf408d12a941621f", func := "skylantern/skylanternlaw01.WideRatios", spec := "wideRatios", inPlace := ["math/bits.Add64", "math/bits.Sub64"], unfollowed := true, recurses := true, named := ["math/bits.divideError", "math/bits.overflowError"], apart := false }
def WideRatiosSaid : Prop := wideRatiosRow.holds Tryz.pinned (OpenSpec.ofChange wideRatiosSpec)

/-- ITS FALSE NEIGHBOUR: 'it returns false'. Refute it at one input. -/
def wideRatiosWrong : ChangeSpec := { name := "wideRatios", fn := fun _ => fun
  | [d1, d2, d3, d4] => { results := [.lit (.bool false)], args := [d1, d2, d3, d4] }
  | _ => none }
def WideRatiosWrongFalsely : Prop := wideRatiosRow.holds Tryz.pinned (OpenSpec.ofChange wideRatiosWrong)

/-- 'skylanternlaw01.WideFractions': WHATEVER THE INPUT: true; the input reads as it did. -/
def wideFractionsSpec : ChangeSpec := { name := "wideFractions", fn := fun _ => fun
  | [d1, d2] => { results := [.lit (.bool true)], args := [d1, d2] }
  | _ => none }
def wideFractionsRow : OpenClaim := { program := "ytlmklhffafcmmaagreat", sum := "afa0e289daca7f2ded2b385081edcf1ef984d0ba5d7e0f1dcf408d12a941621f", func := "skylantern/skylanternlaw01.WideFractions", spec := "wideFractions", inPlace := ["math/bits.Add64", "math/bits.Sub64"], unfollowed := true, recurses := true, named := ["math/bits.divideError", "math/bits.overflowError"], apart := false }
def WideFractionsSaid : Prop := wideFractionsRow.holds Tryz.pinned (OpenSpec.ofChange wideFractionsSpec)

/-- ITS FALSE NEIGHBOUR: 'it returns false'. Refute it at one input. -/
def wideFractionsWrong : ChangeSpec := { name := "wideFractions", fn := fun _ => fun
  | [d1, d2] => { results := [.lit (.bool false)], args := [d1, d2] }
  | _ => none }
def WideFractionsWrongFalsely : Prop := wideFractionsRow.holds Tryz.pinned (OpenSpec.ofChange wideFractionsWrong)

/-- 'skylanternlaw02.PolyValid': WHATEVER THE INPUT: true; the input reads as it did. -/
def polyValidSpec : ChangeSpec := { name := "polyValid", fn := fun _ => fun
  | [d1, d2, d3] => { results := [.lit (.bool true)], args := [d1, d2, d3] }
  | _ => none }
def polyValidRow : OpenClaim := { program := "ytlmklhffafcmmaagreat", sum := "afa0e289daca7f2ded2b385081edcf1ef984d0ba5d7e0f1dcf408d12a941621f", func := "skylantern/skylanternlaw02.PolyValid", spec := "polyValid", inPlace := ["math/bits.Add64", "math/bits.Sub64"], unfollowed := true, recurses := true, named := ["math/bits.divideError", "math/bits.overflowError"], apart := false }
def PolyValidSaid : Prop := polyValidRow.holds Tryz.pinned (OpenSpec.ofChange polyValidSpec)

/-- ITS FALSE NEIGHBOUR: 'it returns false'. Refute it at one input. -/
def polyValidWrong : ChangeSpec := { name := "polyValid", fn := fun _ => fun
  | [d1, d2, d3] => { results := [.lit (.bool false)], args := [d1, d2, d3] }
  | _ => none }
def PolyValidWrongFalsely : Prop := polyValidRow.holds Tryz.pinned (OpenSpec.ofChange polyValidWrong)

/-- 'skylanternlaw02.PolySums': WHATEVER THE INPUT: true; the input reads as it did. -/
def polySumsSpec : ChangeSpec := { name := "polySums", fn := fun _ => fun
  | [d1, d2] => { results := [.lit (.bool true)], args := [d1, d2] }
  | _ => none }
def polySumsRow : OpenClaim := { program := "ytlmklhffafcmmaagreat", sum := "afa0e289daca7f2ded2b385081edcf1ef984d0ba5d7e0f1dcf408d12a941621f", func := "skylantern/skylanternlaw02.PolySums", spec := "polySums", inPlace := ["math/bits.Add64", "math/bits.Sub64"], unfollowed := true, recurses := true, named := ["math/bits.divideError", "math/bits.overflowError"], apart := false }
def PolySumsSaid : Prop := polySumsRow.holds Tryz.pinned (OpenSpec.ofChange polySumsSpec)

/-- ITS FALSE NEIGHBOUR: 'it returns false'. Refute it at one input. -/
def polySumsWrong : ChangeSpec := { name := "polySums", fn := fun _ => fun
  | [d1, d2] => { results := [.lit (.bool false)], args := [d1, d2] }
  | _ => none }
def PolySumsWrongFalsely : Prop := polySumsRow.holds Tryz.pinned (OpenSpec.ofChange polySumsWrong)

/- THE SECOND FORM. 'bulk': how many values and letters a reading holds, each counted each time it is reached (what is shared counts as often as it is met; a slice's spare places count too). A statement '..UptoSaid' is the law's where the arguments, and the package variables that the reading takes, are together of bulk at most 1048576: NARROWER than '..Said'. Prove '..Said' where nothing that the law and all that it calls make is longer than what came in: it says more and counts as full. Else prove '..UptoSaid'. A law counts once. -/
mutual
def uptoBulk {H : Type} : DataW H → Nat
  | .lit (.string bytes) => bytes.length + 1
  | .lit _ => 1
  | .nil => 1
  | .ptr d => uptoBulk d + 1
  | .slice elems spare => uptoBulkAll elems + uptoBulkAll spare + 1
  | .agg parts => uptoBulkAll parts + 1
  | .iface _ d => uptoBulk d + 1
  | .map entries => uptoBulkEntries entries + 1
  | .held _ => 1
def uptoBulkAll {H : Type} : List (DataW H) → Nat
  | [] => 0
  | d :: r => uptoBulk d + uptoBulkAll r
def uptoBulkEntries {H : Type} : List (Lit × DataW H) → Nat
  | [] => 0
  | x :: r => uptoBulkEntry x + uptoBulkEntries r
def uptoBulkEntry {H : Type} : Lit × DataW H → Nat
  | (.string bytes, d) => bytes.length + uptoBulk d + 1
  | (_, d) => uptoBulk d + 1
 end
def uptoSmall : (H : Type) → List (DataW H) → Bool := fun _ ds => decide (uptoBulkAll ds ≤ 1048576)
def OpenSpec.upto (s : _root_.Go.ChangeSpec) : _root_.Go.OpenSpec := { _root_.Go.OpenSpec.ofChange s with cond := some uptoSmall }

/-- 'skylanternlaw01.WideRatios', WHERE WHAT IT READS IS OF BULK AT MOST 1048576: true; the input reads as it did. -/
def wideRatiosUptoRow : OpenClaim := { program := "ytlmklhffafcmmaagreat", sum := "afa0e289daca7f2ded2b385081edcf1ef984d0ba5d7e0f1dcf408d12a941621f", func := "skylantern/skylanternlaw01.WideRatios", spec := "wideRatios", inPlace := ["math/bits.Add64", "math/bits.Sub64"], unfollowed := true, recurses := true, named := ["math/bits.divideError", "math/bits.overflowError"], apart := false, narrowed := true }
def WideRatiosUptoSaid : Prop := wideRatiosUptoRow.holds Tryz.pinned (OpenSpec.upto wideRatiosSpec)

/-- 'skylanternlaw01.WideFractions', WHERE WHAT IT READS IS OF BULK AT MOST 1048576: true; the input reads as it did. -/
def wideFractionsUptoRow : OpenClaim := { program := "ytlmklhffafcmmaagreat", sum := "afa0e289daca7f2ded2b385081edcf1ef984d0ba5d7e0f1dcf408d12a941621f", func := "skylantern/skylanternlaw01.WideFractions", spec := "wideFractions", inPlace := ["math/bits.Add64", "math/bits.Sub64"], unfollowed := true, recurses := true, named := ["math/bits.divideError", "math/bits.overflowError"], apart := false, narrowed := true }
def WideFractionsUptoSaid : Prop := wideFractionsUptoRow.holds Tryz.pinned (OpenSpec.upto wideFractionsSpec)

/-- 'skylanternlaw02.PolyValid', WHERE WHAT IT READS IS OF BULK AT MOST 1048576: true; the input reads as it did. -/
def polyValidUptoRow : OpenClaim := { program := "ytlmklhffafcmmaagreat", sum := "afa0e289daca7f2ded2b385081edcf1ef984d0ba5d7e0f1dcf408d12a941621f", func := "skylantern/skylanternlaw02.PolyValid", spec := "polyValid", inPlace := ["math/bits.Add64", "math/bits.Sub64"], unfollowed := true, recurses := true, named := ["math/bits.divideError", "math/bits.overflowError"], apart := false, narrowed := true }
def PolyValidUptoSaid : Prop := polyValidUptoRow.holds Tryz.pinned (OpenSpec.upto polyValidSpec)

/-- 'skylanternlaw02.PolySums', WHERE WHAT IT READS IS OF BULK AT MOST 1048576: true; the input reads as it did. -/
def polySumsUptoRow : OpenClaim := { program := "ytlmklhffafcmmaagreat", sum := "afa0e289daca7f2ded2b385081edcf1ef984d0ba5d7e0f1dcf408d12a941621f", func := "skylantern/skylanternlaw02.PolySums", spec := "polySums", inPlace := ["math/bits.Add64", "math/bits.Sub64"], unfollowed := true, recurses := true, named := ["math/bits.divideError", "math/bits.overflowError"], apart := false, narrowed := true }
def PolySumsUptoSaid : Prop := polySumsUptoRow.holds Tryz.pinned (OpenSpec.upto polySumsSpec)

end Rows
end Go.Proofs.YtlmklhffafcmmaaGreat
