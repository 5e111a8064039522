/-
  No cell of these rows narrows 'for every input' (looked for: loops, veiled, ifaces, maps, wideKeys, modest, calm, conditions, laid).
  DERIVED. THE GIVEN ROWS OF THIS SEAT. 12 by the template 'for every input the law returns true; each argument reads behind the call as it read before'; 0 by the template 'total and deterministic' (their statements: YtldkpahaocjdpaaGreatTotals.lean).
  GIVEN WITH THE SEED: the statements are not yours to turn. If you find one false, say at which input.
  Laid BY PROGRAM, IN A SANDBOX (cutbox-rows.mjs): the forced cells as the released guide's own fill.sh prints them over the translation ea5fa7a13aff5e11… (all of the seat's roots in one cut). By AI agents, Wed Nov 11 2026. No macro, syntax, notation, axiom, sorry.
-/
import Derived.Test.YtldkpahaocjdpaaGreatChecked
import GoSem.Claim
import GoSem.ClaimJoined
import GoSem.ClaimMapViews
import Derived.JoinedTies
import Derived.KernelRfl
namespace Go.Proofs.YtldkpahaocjdpaaGreat
/- THE CELL 'sum', in the pinned program and in every row, IS THE sha256 OF THE DUMP (.gsa) THAT YtldkpahaocjdpaaGreatProg.lean LOADS. Nothing in Lean hashes anything: it is a label: what it is worth is what the hold of that sum in a sandbox is worth. -/
noncomputable def Tryz.pinned : Pinned := { name := "ytldkpahaocjdpaagreat", sum := "ea5fa7a13aff5e11978638951745e98ab6c56a4c0f78df4ceaf2568e85ebd1b0", checked := Tryz.checked }
namespace Rows
def none {H : Type} : Left H := { results := [], args := [] }

/-- 'affidavitlaw.Loads': WHATEVER THE INPUT: true; the input reads as it did. -/
def loadsSpec : ChangeSpec := { name := "loads", fn := fun _ => fun
  | [d] => { results := [.lit (.bool true)], args := [d] }
  | _ => none }
def loadsRow : OpenClaim := { program := "ytldkpahaocjdpaagreat", sum := "ea5fa7a13aff5e11978638951745e98ab6c56a4c0f78df4ceaf2568e85ebd1b0", func := "affidavit/affidavitlaw.Loads", spec := "loads", inPlace := ["internal/abi.NoEscape"], unfollowed := true, recurses := true, plainKeys := false, apart := false }
def LoadsSaid : Prop := loadsRow.holds Tryz.pinned (OpenSpec.ofChange loadsSpec)

/-- ITS FALSE NEIGHBOUR: 'it returns false'. Refute it at one input. -/
def loadsWrong : ChangeSpec := { name := "loads", fn := fun _ => fun
  | [d] => { results := [.lit (.bool false)], args := [d] }
  | _ => none }
def LoadsWrongFalsely : Prop := loadsRow.holds Tryz.pinned (OpenSpec.ofChange loadsWrong)

/-- 'affidavitlaw.Prints': WHATEVER THE INPUT: true; the input reads as it did. -/
def printsSpec : ChangeSpec := { name := "prints", fn := fun _ => fun
  | [d] => { results := [.lit (.bool true)], args := [d] }
  | _ => none }
def printsRow : OpenClaim := { program := "ytldkpahaocjdpaagreat", sum := "ea5fa7a13aff5e11978638951745e98ab6c56a4c0f78df4ceaf2568e85ebd1b0", func := "affidavit/affidavitlaw.Prints", spec := "prints", inPlace := ["internal/abi.NoEscape"], unfollowed := true, recurses := true, plainKeys := false, apart := false }
def PrintsSaid : Prop := printsRow.holds Tryz.pinned (OpenSpec.ofChange printsSpec)

/-- ITS FALSE NEIGHBOUR: 'it returns false'. Refute it at one input. -/
def printsWrong : ChangeSpec := { name := "prints", fn := fun _ => fun
  | [d] => { results := [.lit (.bool false)], args := [d] }
  | _ => none }
def PrintsWrongFalsely : Prop := printsRow.holds Tryz.pinned (OpenSpec.ofChange printsWrong)

/-- 'affidavitlaw.Queries': WHATEVER THE INPUT: true; the input reads as it did. -/
def queriesSpec : ChangeSpec := { name := "queries", fn := fun _ => fun
  | [d] => { results := [.lit (.bool true)], args := [d] }
  | _ => none }
def queriesRow : OpenClaim := { program := "ytldkpahaocjdpaagreat", sum := "ea5fa7a13aff5e11978638951745e98ab6c56a4c0f78df4ceaf2568e85ebd1b0", func := "affidavit/affidavitlaw.Queries", spec := "queries", inPlace := ["internal/abi.NoEscape"], unfollowed := true, recurses := true, plainKeys := false, apart := false }
def QueriesSaid : Prop := queriesRow.holds Tryz.pinned (OpenSpec.ofChange queriesSpec)

/-- ITS FALSE NEIGHBOUR: 'it returns false'. Refute it at one input. -/
def queriesWrong : ChangeSpec := { name := "queries", fn := fun _ => fun
  | [d] => { results := [.lit (.bool false)], args := [d] }
  | _ => none }
def QueriesWrongFalsely : Prop := queriesRow.holds Tryz.pinned (OpenSpec.ofChange queriesWrong)

/-- 'affidavitlaw.Explains': WHATEVER THE INPUT: true; the input reads as it did. -/
def explainsSpec : ChangeSpec := { name := "explains", fn := fun _ => fun
  | [d] => { results := [.lit (.bool true)], args := [d] }
  | _ => none }
def explainsRow : OpenClaim := { program := "ytldkpahaocjdpaagreat", sum := "ea5fa7a13aff5e11978638951745e98ab6c56a4c0f78df4ceaf2568e85ebd1b0", func := "affidavit/affidavitlaw.Explains", spec := "explains", inPlace := ["internal/abi.NoEscape"], unfollowed := true, recurses := true, plainKeys := false, apart := false }
def ExplainsSaid : Prop := explainsRow.holds Tryz.pinned (OpenSpec.ofChange explainsSpec)

/-- ITS FALSE NEIGHBOUR: 'it returns false'. Refute it at one input. -/
def explainsWrong : ChangeSpec := { name := "explains", fn := fun _ => fun
  | [d] => { results := [.lit (.bool false)], args := [d] }
  | _ => none }
def ExplainsWrongFalsely : Prop := explainsRow.holds Tryz.pinned (OpenSpec.ofChange explainsWrong)

/-- 'affidavitlaw.Checks': WHATEVER THE INPUT: true; the input reads as it did. -/
def checksSpec : ChangeSpec := { name := "checks", fn := fun _ => fun
  | [d] => { results := [.lit (.bool true)], args := [d] }
  | _ => none }
def checksRow : OpenClaim := { program := "ytldkpahaocjdpaagreat", sum := "ea5fa7a13aff5e11978638951745e98ab6c56a4c0f78df4ceaf2568e85ebd1b0", func := "affidavit/affidavitlaw.Checks", spec := "checks", inPlace := ["internal/abi.NoEscape"], unfollowed := true, recurses := true, plainKeys := false, apart := false }
def ChecksSaid : Prop := checksRow.holds Tryz.pinned (OpenSpec.ofChange checksSpec)

/-- ITS FALSE NEIGHBOUR: 'it returns false'. Refute it at one input. -/
def checksWrong : ChangeSpec := { name := "checks", fn := fun _ => fun
  | [d] => { results := [.lit (.bool false)], args := [d] }
  | _ => none }
def ChecksWrongFalsely : Prop := checksRow.holds Tryz.pinned (OpenSpec.ofChange checksWrong)

/-- 'affidavitlaw.All': WHATEVER THE INPUT: true; the input reads as it did. -/
def allSpec : ChangeSpec := { name := "all", fn := fun _ => fun
  | [d] => { results := [.lit (.bool true)], args := [d] }
  | _ => none }
def allRow : OpenClaim := { program := "ytldkpahaocjdpaagreat", sum := "ea5fa7a13aff5e11978638951745e98ab6c56a4c0f78df4ceaf2568e85ebd1b0", func := "affidavit/affidavitlaw.All", spec := "all", inPlace := ["internal/abi.NoEscape"], unfollowed := true, recurses := true, plainKeys := false, apart := false }
def AllSaid : Prop := allRow.holds Tryz.pinned (OpenSpec.ofChange allSpec)

/-- ITS FALSE NEIGHBOUR: 'it returns false'. Refute it at one input. -/
def allWrong : ChangeSpec := { name := "all", fn := fun _ => fun
  | [d] => { results := [.lit (.bool false)], args := [d] }
  | _ => none }
def AllWrongFalsely : Prop := allRow.holds Tryz.pinned (OpenSpec.ofChange allWrong)

/-- 'affidavitkeep.Closed': WHATEVER THE INPUT: true; the input reads as it did. -/
def closedSpec : ChangeSpec := { name := "closed", fn := fun _ => fun
  | [d] => { results := [.lit (.bool true)], args := [d] }
  | _ => none }
def closedRow : OpenClaim := { program := "ytldkpahaocjdpaagreat", sum := "ea5fa7a13aff5e11978638951745e98ab6c56a4c0f78df4ceaf2568e85ebd1b0", func := "affidavit/affidavitkeep.Closed", spec := "closed", inPlace := ["internal/abi.NoEscape"], unfollowed := true, recurses := true, plainKeys := false, apart := false }
def ClosedSaid : Prop := closedRow.holds Tryz.pinned (OpenSpec.ofChange closedSpec)

/-- ITS FALSE NEIGHBOUR: 'it returns false'. Refute it at one input. -/
def closedWrong : ChangeSpec := { name := "closed", fn := fun _ => fun
  | [d] => { results := [.lit (.bool false)], args := [d] }
  | _ => none }
def ClosedWrongFalsely : Prop := closedRow.holds Tryz.pinned (OpenSpec.ofChange closedWrong)

/-- 'affidavitkeep.Ordered': WHATEVER THE INPUT: true; the input reads as it did. -/
def orderedSpec : ChangeSpec := { name := "ordered", fn := fun _ => fun
  | [d1, d2] => { results := [.lit (.bool true)], args := [d1, d2] }
  | _ => none }
def orderedRow : OpenClaim := { program := "ytldkpahaocjdpaagreat", sum := "ea5fa7a13aff5e11978638951745e98ab6c56a4c0f78df4ceaf2568e85ebd1b0", func := "affidavit/affidavitkeep.Ordered", spec := "ordered", inPlace := ["internal/abi.NoEscape"], unfollowed := true, recurses := true, plainKeys := false, apart := false }
def OrderedSaid : Prop := orderedRow.holds Tryz.pinned (OpenSpec.ofChange orderedSpec)

/-- ITS FALSE NEIGHBOUR: 'it returns false'. Refute it at one input. -/
def orderedWrong : ChangeSpec := { name := "ordered", fn := fun _ => fun
  | [d1, d2] => { results := [.lit (.bool false)], args := [d1, d2] }
  | _ => none }
def OrderedWrongFalsely : Prop := orderedRow.holds Tryz.pinned (OpenSpec.ofChange orderedWrong)

/-- 'affidavitkeep.Matched': WHATEVER THE INPUT: true; the input reads as it did. -/
def matchedSpec : ChangeSpec := { name := "matched", fn := fun _ => fun
  | [d1, d2, d3] => { results := [.lit (.bool true)], args := [d1, d2, d3] }
  | _ => none }
def matchedRow : OpenClaim := { program := "ytldkpahaocjdpaagreat", sum := "ea5fa7a13aff5e11978638951745e98ab6c56a4c0f78df4ceaf2568e85ebd1b0", func := "affidavit/affidavitkeep.Matched", spec := "matched", inPlace := ["internal/abi.NoEscape"], unfollowed := true, recurses := true, plainKeys := false, apart := false }
def MatchedSaid : Prop := matchedRow.holds Tryz.pinned (OpenSpec.ofChange matchedSpec)

/-- ITS FALSE NEIGHBOUR: 'it returns false'. Refute it at one input. -/
def matchedWrong : ChangeSpec := { name := "matched", fn := fun _ => fun
  | [d1, d2, d3] => { results := [.lit (.bool false)], args := [d1, d2, d3] }
  | _ => none }
def MatchedWrongFalsely : Prop := matchedRow.holds Tryz.pinned (OpenSpec.ofChange matchedWrong)

/-- 'affidavitkeep.Printed': WHATEVER THE INPUT: true; the input reads as it did. -/
def printedSpec : ChangeSpec := { name := "printed", fn := fun _ => fun
  | [d1, d2, d3] => { results := [.lit (.bool true)], args := [d1, d2, d3] }
  | _ => none }
def printedRow : OpenClaim := { program := "ytldkpahaocjdpaagreat", sum := "ea5fa7a13aff5e11978638951745e98ab6c56a4c0f78df4ceaf2568e85ebd1b0", func := "affidavit/affidavitkeep.Printed", spec := "printed", inPlace := ["internal/abi.NoEscape"], unfollowed := true, recurses := true, plainKeys := false, apart := false }
def PrintedSaid : Prop := printedRow.holds Tryz.pinned (OpenSpec.ofChange printedSpec)

/-- ITS FALSE NEIGHBOUR: 'it returns false'. Refute it at one input. -/
def printedWrong : ChangeSpec := { name := "printed", fn := fun _ => fun
  | [d1, d2, d3] => { results := [.lit (.bool false)], args := [d1, d2, d3] }
  | _ => none }
def PrintedWrongFalsely : Prop := printedRow.holds Tryz.pinned (OpenSpec.ofChange printedWrong)

/-- 'affidavitkeep.Proved': WHATEVER THE INPUT: true; the input reads as it did. -/
def provedSpec : ChangeSpec := { name := "proved", fn := fun _ => fun
  | [d1, d2] => { results := [.lit (.bool true)], args := [d1, d2] }
  | _ => none }
def provedRow : OpenClaim := { program := "ytldkpahaocjdpaagreat", sum := "ea5fa7a13aff5e11978638951745e98ab6c56a4c0f78df4ceaf2568e85ebd1b0", func := "affidavit/affidavitkeep.Proved", spec := "proved", inPlace := ["internal/abi.NoEscape"], unfollowed := true, recurses := true, plainKeys := false, apart := false }
def ProvedSaid : Prop := provedRow.holds Tryz.pinned (OpenSpec.ofChange provedSpec)

/-- ITS FALSE NEIGHBOUR: 'it returns false'. Refute it at one input. -/
def provedWrong : ChangeSpec := { name := "proved", fn := fun _ => fun
  | [d1, d2] => { results := [.lit (.bool false)], args := [d1, d2] }
  | _ => none }
def ProvedWrongFalsely : Prop := provedRow.holds Tryz.pinned (OpenSpec.ofChange provedWrong)

/-- 'affidavitkeep.Sound': WHATEVER THE INPUT: true; the input reads as it did. -/
def soundSpec : ChangeSpec := { name := "sound", fn := fun _ => fun
  | [d1, d2, d3, d4, d5] => { results := [.lit (.bool true)], args := [d1, d2, d3, d4, d5] }
  | _ => none }
def soundRow : OpenClaim := { program := "ytldkpahaocjdpaagreat", sum := "ea5fa7a13aff5e11978638951745e98ab6c56a4c0f78df4ceaf2568e85ebd1b0", func := "affidavit/affidavitkeep.Sound", spec := "sound", inPlace := ["internal/abi.NoEscape"], unfollowed := true, recurses := true, plainKeys := false, apart := false }
def SoundSaid : Prop := soundRow.holds Tryz.pinned (OpenSpec.ofChange soundSpec)

/-- ITS FALSE NEIGHBOUR: 'it returns false'. Refute it at one input. -/
def soundWrong : ChangeSpec := { name := "sound", fn := fun _ => fun
  | [d1, d2, d3, d4, d5] => { results := [.lit (.bool false)], args := [d1, d2, d3, d4, d5] }
  | _ => none }
def SoundWrongFalsely : Prop := soundRow.holds Tryz.pinned (OpenSpec.ofChange soundWrong)

/- THE SECOND FORM. 'bulk': how many values and letters a reading holds, each counted each time it is reached (what is shared counts as often as it is met; a slice's spare places count too). A statement '..UptoSaid' is the law's where the arguments, and the package variables that the reading takes, are together of bulk at most 1048576: NARROWER than '..Said'. Prove '..Said' where nothing that the law and all that it calls make is longer than what came in: it says more and counts as full. Else prove '..UptoSaid'. A law counts once. -/
mutual
def uptoBulk {H : Type} : DataW H → Nat
  | .lit (.string bytes) => bytes.length + 1
  | .lit _ => 1
  | .nil => 1
  | .ptr d => uptoBulk d + 1
  | .slice elems spare => uptoBulkAll elems + uptoBulkAll spare + 1
  | .agg parts => uptoBulkAll parts + 1
  | .iface _ d => uptoBulk d + 1
  | .map entries => uptoBulkEntries entries + 1
  | .held _ => 1
def uptoBulkAll {H : Type} : List (DataW H) → Nat
  | [] => 0
  | d :: r => uptoBulk d + uptoBulkAll r
def uptoBulkEntries {H : Type} : List (Lit × DataW H) → Nat
  | [] => 0
  | x :: r => uptoBulkEntry x + uptoBulkEntries r
def uptoBulkEntry {H : Type} : Lit × DataW H → Nat
  | (.string bytes, d) => bytes.length + uptoBulk d + 1
  | (_, d) => uptoBulk d + 1
 end
def uptoSmall : (H : Type) → List (DataW H) → Bool := fun _ ds => decide (uptoBulkAll ds ≤ 1048576)
def OpenSpec.upto (s : _root_.Go.ChangeSpec) : _root_.Go.OpenSpec := { _root_.Go.OpenSpec.ofChange s with cond := some uptoSmall }

/-- 'affidavitlaw.Loads', WHERE WHAT IT READS IS OF BULK AT MOST 1048576: true; the input reads as it did. -/
def loadsUptoRow : OpenClaim := { program := "ytldkpahaocjdpaagreat", sum := "ea5fa7a13aff5e11978638951745e98ab6c56a4c0f78df4ceaf2568e85ebd1b0", func := "affidavit/affidavitlaw.Loads", spec := "loads", inPlace := ["internal/abi.NoEscape"], unfollowed := true, recurses := true, plainKeys := false, apart := false, narrowed := true }
def LoadsUptoSaid : Prop := loadsUptoRow.holds Tryz.pinned (OpenSpec.upto loadsSpec)

/-- 'affidavitlaw.Prints', WHERE WHAT IT READS IS OF BULK AT MOST 1048576: true; the input reads as it did. -/
def printsUptoRow : OpenClaim := { program := "ytldkpahaocjdpaagreat", sum := "ea5fa7a13aff5e11978638951745e98ab6c56a4c0f78df4ceaf2568e85ebd1b0", func := "affidavit/affidavitlaw.Prints", spec := "prints", inPlace := ["internal/abi.NoEscape"], unfollowed := true, recurses := true, plainKeys := false, apart := false, narrowed := true }
def PrintsUptoSaid : Prop := printsUptoRow.holds Tryz.pinned (OpenSpec.upto printsSpec)

/-- 'affidavitlaw.Queries', WHERE WHAT IT READS IS OF BULK AT MOST 1048576: true; the input reads as it did. -/
def queriesUptoRow : OpenClaim := { program := "ytldkpahaocjdpaagreat", sum := "ea5fa7a13aff5e11978638951745e98ab6c56a4c0f78df4ceaf2568e85ebd1b0", func := "affidavit/affidavitlaw.Queries", spec := "queries", inPlace := ["internal/abi.NoEscape"], unfollowed := true, recurses := true, plainKeys := false, apart := false, narrowed := true }
def QueriesUptoSaid : Prop := queriesUptoRow.holds Tryz.pinned (OpenSpec.upto queriesSpec)

/-- 'affidavitlaw.Explains', WHERE WHAT IT READS IS OF BULK AT MOST 1048576: true; the input reads as it did. -/
def explainsUptoRow : OpenClaim := { program := "ytldkpahaocjdpaagreat", sum := "ea5fa7a13aff5e11978638951745e98ab6c56a4c0f78df4ceaf2568e85ebd1b0", func := "affidavit/affidavitlaw.Explains", spec := "explains", inPlace := ["internal/abi.NoEscape"], unfollowed := true, recurses := true, plainKeys := false, apart := false, narrowed := true }
def ExplainsUptoSaid : Prop := explainsUptoRow.holds Tryz.pinned (OpenSpec.upto explainsSpec)

/-- 'affidavitlaw.Checks', WHERE WHAT IT READS IS OF BULK AT MOST 1048576: true; the input reads as it did. -/
def checksUptoRow : OpenClaim := { program := "ytldkpahaocjdpaagreat", sum := "ea5fa7a13aff5e11978638951745e98ab6c56a4c0f78df4ceaf2568e85ebd1b0", func := "affidavit/affidavitlaw.Checks", spec := "checks", inPlace := ["internal/abi.NoEscape"], unfollowed := true, recurses := true, plainKeys := false, apart := false, narrowed := true }
def ChecksUptoSaid : Prop := checksUptoRow.holds Tryz.pinned (OpenSpec.upto checksSpec)

/-- 'affidavitlaw.All', WHERE WHAT IT READS IS OF BULK AT MOST 1048576: true; the input reads as it did. -/
def allUptoRow : OpenClaim := { program := "ytldkpahaocjdpaagreat", sum := "ea5fa7a13aff5e11978638951745e98ab6c56a4c0f78df4ceaf2568e85ebd1b0", func := "affidavit/affidavitlaw.All", spec := "all", inPlace := ["internal/abi.NoEscape"], unfollowed := true, recurses := true, plainKeys := false, apart := false, narrowed := true }
def AllUptoSaid : Prop := allUptoRow.holds Tryz.pinned (OpenSpec.upto allSpec)

/-- 'affidavitkeep.Closed', WHERE WHAT IT READS IS OF BULK AT MOST 1048576: true; the input reads as it did. -/
def closedUptoRow : OpenClaim := { program := "ytldkpahaocjdpaagreat", sum := "ea5fa7a13aff5e11978638951745e98ab6c56a4c0f78df4ceaf2568e85ebd1b0", func := "affidavit/affidavitkeep.Closed", spec := "closed", inPlace := ["internal/abi.NoEscape"], unfollowed := true, recurses := true, plainKeys := false, apart := false, narrowed := true }
def ClosedUptoSaid : Prop := closedUptoRow.holds Tryz.pinned (OpenSpec.upto closedSpec)

/-- 'affidavitkeep.Ordered', WHERE WHAT IT READS IS OF BULK AT MOST 1048576: true; the input reads as it did. -/
def orderedUptoRow : OpenClaim := { program := "ytldkpahaocjdpaagreat", sum := "ea5fa7a13aff5e11978638951745e98ab6c56a4c0f78df4ceaf2568e85ebd1b0", func := "affidavit/affidavitkeep.Ordered", spec := "ordered", inPlace := ["internal/abi.NoEscape"], unfollowed := true, recurses := true, plainKeys := false, apart := false, narrowed := true }
def OrderedUptoSaid : Prop := orderedUptoRow.holds Tryz.pinned (OpenSpec.upto orderedSpec)

/-- 'affidavitkeep.Matched', WHERE WHAT IT READS IS OF BULK AT MOST 1048576: true; the input reads as it did. -/
def matchedUptoRow : OpenClaim := { program := "ytldkpahaocjdpaagreat", sum := "ea5fa7a13aff5e11978638951745e98ab6c56a4c0f78df4ceaf2568e85ebd1b0", func := "affidavit/affidavitkeep.Matched", spec := "matched", inPlace := ["internal/abi.NoEscape"], unfollowed := true, recurses := true, plainKeys := false, apart := false, narrowed := true }
def MatchedUptoSaid : Prop := matchedUptoRow.holds Tryz.pinned (OpenSpec.upto matchedSpec)

/-- 'affidavitkeep.Printed', WHERE WHAT IT READS IS OF BULK AT MOST 1048576: true; the input reads as it did. -/
def printedUptoRow : OpenClaim := { program := "ytldkpahaocjdpaagreat", sum := "ea5fa7a13aff5e11978638951745e98ab6c56a4c0f78df4ceaf2568e85ebd1b0", func := "affidavit/affidavitkeep.Printed", spec := "printed", inPlace := ["internal/abi.NoEscape"], unfollowed := true, recurses := true, plainKeys := false, apart := false, narrowed := true }
def PrintedUptoSaid : Prop := printedUptoRow.holds Tryz.pinned (OpenSpec.upto printedSpec)

/-- 'affidavitkeep.Proved', WHERE WHAT IT READS IS OF BULK AT MOST 1048576: true; the input reads as it did. -/
def provedUptoRow : OpenClaim := { program := "ytldkpahaocjdpaagreat", sum := "ea5fa7a13aff5e11978638951745e98ab6c56a4c0f78df4ceaf2568e85ebd1b0", func := "affidavit/affidavitkeep.Proved", spec := "proved", inPlace := ["internal/abi.NoEscape"], unfollowed := true, recurses := true, plainKeys := false, apart := false, narrowed := true }
def ProvedUptoSaid : Prop := provedUptoRow.holds Tryz.pinned (OpenSpec.upto provedSpec)

/-- 'affidavitkeep.Sound', WHERE WHAT IT READS IS OF BULK AT MOST 1048576: true; the input reads as it did. -/
def soundUptoRow : OpenClaim := { program := "ytldkpahaocjdpaagreat", sum := "ea5fa7a13aff5e11978638951745e98ab6c56a4c0f78df4ceaf2568e85ebd1b0", func := "affidavit/affidavitkeep.Sound", spec := "sound", inPlace := ["internal/abi.NoEscape"], unfollowed := true, recurses := true, plainKeys := false, apart := false, narrowed := true }
def SoundUptoSaid : Prop := soundUptoRow.holds Tryz.pinned (OpenSpec.upto soundSpec)

end Rows
end Go.Proofs.YtldkpahaocjdpaaGreat
