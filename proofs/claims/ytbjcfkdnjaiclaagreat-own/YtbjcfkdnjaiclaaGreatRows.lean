/-
  No cell of these rows narrows 'for every input' (looked for: loops, veiled, ifaces, maps, wideKeys, modest, calm, conditions, laid).
  DERIVED. THE GIVEN ROWS OF THIS SEAT. 10 by the template 'for every input the law returns true; each argument reads behind the call as it read before'; 0 by the template 'total and deterministic' (their statements: YtbjcfkdnjaiclaaGreatTotals.lean).
  GIVEN WITH THE SEED: the statements are not yours to turn. If you find one false, say at which input.
  Laid BY PROGRAM, IN A SANDBOX (cutbox-rows.mjs): the forced cells as the released guide's own fill.sh prints them over the translation 2b3ccc73b72ece6c… (all of the seat's roots in one cut). By AI agents, Wed Nov 11 2026. No macro, syntax, notation, axiom, sorry.
-/
import Derived.Test.YtbjcfkdnjaiclaaGreatChecked
import GoSem.Claim
import GoSem.ClaimJoined
import GoSem.ClaimMapViews
import Derived.JoinedTies
import Derived.KernelRfl
namespace Go.Proofs.YtbjcfkdnjaiclaaGreat
/- THE CELL 'sum', in the pinned program and in every row, IS THE sha256 OF THE DUMP (.gsa) THAT YtbjcfkdnjaiclaaGreatProg.lean LOADS. Nothing in Lean hashes anything: it is a label: what it is worth is what the hold of that sum in a sandbox is worth. -/
noncomputable def Tryz.pinned : Pinned := { name := "ytbjcfkdnjaiclaagreat", sum := "2b3ccc73b72ece6c29f15ca7ea2a45d35923807e9ba69a1b8640a36a2105af54", checked := Tryz.checked }
namespace Rows
def none {H : Type} : Left H := { results := [], args := [] }

/-- 'lexerkeep.Known': WHATEVER THE INPUT: true; the input reads as it did. -/
def knownSpec : ChangeSpec := { name := "known", fn := fun _ => fun
  | [d] => { results := [.lit (.bool true)], args := [d] }
  | _ => none }
def knownRow : OpenClaim := { program := "ytbjcfkdnjaiclaagreat", sum := "2b3ccc73b72ece6c29f15ca7ea2a45d35923807e9ba69a1b8640a36a2105af54", func := "lexer/lexerkeep.Known", spec := "known", recurses := true, apart := false }
def KnownSaid : Prop := knownRow.holds Tryz.pinned (OpenSpec.ofChange knownSpec)

/-- ITS FALSE NEIGHBOUR: 'it returns false'. Refute it at one input. -/
def knownWrong : ChangeSpec := { name := "known", fn := fun _ => fun
  | [d] => { results := [.lit (.bool false)], args := [d] }
  | _ => none }
def KnownWrongFalsely : Prop := knownRow.holds Tryz.pinned (OpenSpec.ofChange knownWrong)

/-- 'lexerkeep.Split': WHATEVER THE INPUT: true; the input reads as it did. -/
def splitSpec : ChangeSpec := { name := "split", fn := fun _ => fun
  | [d1, d2, d3, d4] => { results := [.lit (.bool true)], args := [d1, d2, d3, d4] }
  | _ => none }
def splitRow : OpenClaim := { program := "ytbjcfkdnjaiclaagreat", sum := "2b3ccc73b72ece6c29f15ca7ea2a45d35923807e9ba69a1b8640a36a2105af54", func := "lexer/lexerkeep.Split", spec := "split", recurses := true, apart := false }
def SplitSaid : Prop := splitRow.holds Tryz.pinned (OpenSpec.ofChange splitSpec)

/-- ITS FALSE NEIGHBOUR: 'it returns false'. Refute it at one input. -/
def splitWrong : ChangeSpec := { name := "split", fn := fun _ => fun
  | [d1, d2, d3, d4] => { results := [.lit (.bool false)], args := [d1, d2, d3, d4] }
  | _ => none }
def SplitWrongFalsely : Prop := splitRow.holds Tryz.pinned (OpenSpec.ofChange splitWrong)

/-- 'lexerkeep.Engines': WHATEVER THE INPUT: true; the input reads as it did. -/
def enginesSpec : ChangeSpec := { name := "engines", fn := fun _ => fun
  | [d1, d2] => { results := [.lit (.bool true)], args := [d1, d2] }
  | _ => none }
def enginesRow : OpenClaim := { program := "ytbjcfkdnjaiclaagreat", sum := "2b3ccc73b72ece6c29f15ca7ea2a45d35923807e9ba69a1b8640a36a2105af54", func := "lexer/lexerkeep.Engines", spec := "engines", recurses := true, apart := false }
def EnginesSaid : Prop := enginesRow.holds Tryz.pinned (OpenSpec.ofChange enginesSpec)

/-- ITS FALSE NEIGHBOUR: 'it returns false'. Refute it at one input. -/
def enginesWrong : ChangeSpec := { name := "engines", fn := fun _ => fun
  | [d1, d2] => { results := [.lit (.bool false)], args := [d1, d2] }
  | _ => none }
def EnginesWrongFalsely : Prop := enginesRow.holds Tryz.pinned (OpenSpec.ofChange enginesWrong)

/-- 'lexerkeep.Cover': WHATEVER THE INPUT: true; the input reads as it did. -/
def coverSpec : ChangeSpec := { name := "cover", fn := fun _ => fun
  | [d1, d2] => { results := [.lit (.bool true)], args := [d1, d2] }
  | _ => none }
def coverRow : OpenClaim := { program := "ytbjcfkdnjaiclaagreat", sum := "2b3ccc73b72ece6c29f15ca7ea2a45d35923807e9ba69a1b8640a36a2105af54", func := "lexer/lexerkeep.Cover", spec := "cover", recurses := true, apart := false }
def CoverSaid : Prop := coverRow.holds Tryz.pinned (OpenSpec.ofChange coverSpec)

/-- ITS FALSE NEIGHBOUR: 'it returns false'. Refute it at one input. -/
def coverWrong : ChangeSpec := { name := "cover", fn := fun _ => fun
  | [d1, d2] => { results := [.lit (.bool false)], args := [d1, d2] }
  | _ => none }
def CoverWrongFalsely : Prop := coverRow.holds Tryz.pinned (OpenSpec.ofChange coverWrong)

/-- 'lexerkeep.Early': WHATEVER THE INPUT: true; the input reads as it did. -/
def earlySpec : ChangeSpec := { name := "early", fn := fun _ => fun
  | [d1, d2] => { results := [.lit (.bool true)], args := [d1, d2] }
  | _ => none }
def earlyRow : OpenClaim := { program := "ytbjcfkdnjaiclaagreat", sum := "2b3ccc73b72ece6c29f15ca7ea2a45d35923807e9ba69a1b8640a36a2105af54", func := "lexer/lexerkeep.Early", spec := "early", recurses := true, apart := false }
def EarlySaid : Prop := earlyRow.holds Tryz.pinned (OpenSpec.ofChange earlySpec)

/-- ITS FALSE NEIGHBOUR: 'it returns false'. Refute it at one input. -/
def earlyWrong : ChangeSpec := { name := "early", fn := fun _ => fun
  | [d1, d2] => { results := [.lit (.bool false)], args := [d1, d2] }
  | _ => none }
def EarlyWrongFalsely : Prop := earlyRow.holds Tryz.pinned (OpenSpec.ofChange earlyWrong)

/-- 'lexerkeep.Stable': WHATEVER THE INPUT: true; the input reads as it did. -/
def stableSpec : ChangeSpec := { name := "stable", fn := fun _ => fun
  | [d1, d2, d3, d4, d5, d6] => { results := [.lit (.bool true)], args := [d1, d2, d3, d4, d5, d6] }
  | _ => none }
def stableRow : OpenClaim := { program := "ytbjcfkdnjaiclaagreat", sum := "2b3ccc73b72ece6c29f15ca7ea2a45d35923807e9ba69a1b8640a36a2105af54", func := "lexer/lexerkeep.Stable", spec := "stable", recurses := true, apart := false }
def StableSaid : Prop := stableRow.holds Tryz.pinned (OpenSpec.ofChange stableSpec)

/-- ITS FALSE NEIGHBOUR: 'it returns false'. Refute it at one input. -/
def stableWrong : ChangeSpec := { name := "stable", fn := fun _ => fun
  | [d1, d2, d3, d4, d5, d6] => { results := [.lit (.bool false)], args := [d1, d2, d3, d4, d5, d6] }
  | _ => none }
def StableWrongFalsely : Prop := stableRow.holds Tryz.pinned (OpenSpec.ofChange stableWrong)

/-- 'lexerkeep.Saved': WHATEVER THE INPUT: true; the input reads as it did. -/
def savedSpec : ChangeSpec := { name := "saved", fn := fun _ => fun
  | [d1, d2, d3, d4] => { results := [.lit (.bool true)], args := [d1, d2, d3, d4] }
  | _ => none }
def savedRow : OpenClaim := { program := "ytbjcfkdnjaiclaagreat", sum := "2b3ccc73b72ece6c29f15ca7ea2a45d35923807e9ba69a1b8640a36a2105af54", func := "lexer/lexerkeep.Saved", spec := "saved", recurses := true, apart := false }
def SavedSaid : Prop := savedRow.holds Tryz.pinned (OpenSpec.ofChange savedSpec)

/-- ITS FALSE NEIGHBOUR: 'it returns false'. Refute it at one input. -/
def savedWrong : ChangeSpec := { name := "saved", fn := fun _ => fun
  | [d1, d2, d3, d4] => { results := [.lit (.bool false)], args := [d1, d2, d3, d4] }
  | _ => none }
def SavedWrongFalsely : Prop := savedRow.holds Tryz.pinned (OpenSpec.ofChange savedWrong)

/-- 'lexerkeep.Turned': WHATEVER THE INPUT: true; the input reads as it did. -/
def turnedSpec : ChangeSpec := { name := "turned", fn := fun _ => fun
  | [d1, d2, d3, d4, d5] => { results := [.lit (.bool true)], args := [d1, d2, d3, d4, d5] }
  | _ => none }
def turnedRow : OpenClaim := { program := "ytbjcfkdnjaiclaagreat", sum := "2b3ccc73b72ece6c29f15ca7ea2a45d35923807e9ba69a1b8640a36a2105af54", func := "lexer/lexerkeep.Turned", spec := "turned", recurses := true, apart := false }
def TurnedSaid : Prop := turnedRow.holds Tryz.pinned (OpenSpec.ofChange turnedSpec)

/-- ITS FALSE NEIGHBOUR: 'it returns false'. Refute it at one input. -/
def turnedWrong : ChangeSpec := { name := "turned", fn := fun _ => fun
  | [d1, d2, d3, d4, d5] => { results := [.lit (.bool false)], args := [d1, d2, d3, d4, d5] }
  | _ => none }
def TurnedWrongFalsely : Prop := turnedRow.holds Tryz.pinned (OpenSpec.ofChange turnedWrong)

/-- 'lexerkeep.Alone': WHATEVER THE INPUT: true; the input reads as it did. -/
def aloneSpec : ChangeSpec := { name := "alone", fn := fun _ => fun
  | [d1, d2] => { results := [.lit (.bool true)], args := [d1, d2] }
  | _ => none }
def aloneRow : OpenClaim := { program := "ytbjcfkdnjaiclaagreat", sum := "2b3ccc73b72ece6c29f15ca7ea2a45d35923807e9ba69a1b8640a36a2105af54", func := "lexer/lexerkeep.Alone", spec := "alone", recurses := true, apart := false }
def AloneSaid : Prop := aloneRow.holds Tryz.pinned (OpenSpec.ofChange aloneSpec)

/-- ITS FALSE NEIGHBOUR: 'it returns false'. Refute it at one input. -/
def aloneWrong : ChangeSpec := { name := "alone", fn := fun _ => fun
  | [d1, d2] => { results := [.lit (.bool false)], args := [d1, d2] }
  | _ => none }
def AloneWrongFalsely : Prop := aloneRow.holds Tryz.pinned (OpenSpec.ofChange aloneWrong)

/-- 'lexerkeep.Own': WHATEVER THE INPUT: true; the input reads as it did. -/
def ownSpec : ChangeSpec := { name := "own", fn := fun _ => fun
  | [d1, d2] => { results := [.lit (.bool true)], args := [d1, d2] }
  | _ => none }
def ownRow : OpenClaim := { program := "ytbjcfkdnjaiclaagreat", sum := "2b3ccc73b72ece6c29f15ca7ea2a45d35923807e9ba69a1b8640a36a2105af54", func := "lexer/lexerkeep.Own", spec := "own", recurses := true, apart := false }
def OwnSaid : Prop := ownRow.holds Tryz.pinned (OpenSpec.ofChange ownSpec)

/-- ITS FALSE NEIGHBOUR: 'it returns false'. Refute it at one input. -/
def ownWrong : ChangeSpec := { name := "own", fn := fun _ => fun
  | [d1, d2] => { results := [.lit (.bool false)], args := [d1, d2] }
  | _ => none }
def OwnWrongFalsely : Prop := ownRow.holds Tryz.pinned (OpenSpec.ofChange ownWrong)

/- THE SECOND FORM. 'bulk': how many values and letters a reading holds, each counted each time it is reached (what is shared counts as often as it is met; a slice's spare places count too). A statement '..UptoSaid' is the law's where the arguments, and the package variables that the reading takes, are together of bulk at most 1048576: NARROWER than '..Said'. Prove '..Said' where nothing that the law and all that it calls make is longer than what came in: it says more and counts as full. Else prove '..UptoSaid'. A law counts once. -/
mutual
def uptoBulk {H : Type} : DataW H → Nat
  | .lit (.string bytes) => bytes.length + 1
  | .lit _ => 1
  | .nil => 1
  | .ptr d => uptoBulk d + 1
  | .slice elems spare => uptoBulkAll elems + uptoBulkAll spare + 1
  | .agg parts => uptoBulkAll parts + 1
  | .iface _ d => uptoBulk d + 1
  | .map entries => uptoBulkEntries entries + 1
  | .held _ => 1
def uptoBulkAll {H : Type} : List (DataW H) → Nat
  | [] => 0
  | d :: r => uptoBulk d + uptoBulkAll r
def uptoBulkEntries {H : Type} : List (Lit × DataW H) → Nat
  | [] => 0
  | x :: r => uptoBulkEntry x + uptoBulkEntries r
def uptoBulkEntry {H : Type} : Lit × DataW H → Nat
  | (.string bytes, d) => bytes.length + uptoBulk d + 1
  | (_, d) => uptoBulk d + 1
 end
def uptoSmall : (H : Type) → List (DataW H) → Bool := fun _ ds => decide (uptoBulkAll ds ≤ 1048576)
def OpenSpec.upto (s : _root_.Go.ChangeSpec) : _root_.Go.OpenSpec := { _root_.Go.OpenSpec.ofChange s with cond := some uptoSmall }

/-- 'lexerkeep.Known', WHERE WHAT IT READS IS OF BULK AT MOST 1048576: true; the input reads as it did. -/
def knownUptoRow : OpenClaim := { program := "ytbjcfkdnjaiclaagreat", sum := "2b3ccc73b72ece6c29f15ca7ea2a45d35923807e9ba69a1b8640a36a2105af54", func := "lexer/lexerkeep.Known", spec := "known", recurses := true, apart := false, narrowed := true }
def KnownUptoSaid : Prop := knownUptoRow.holds Tryz.pinned (OpenSpec.upto knownSpec)

/-- 'lexerkeep.Split', WHERE WHAT IT READS IS OF BULK AT MOST 1048576: true; the input reads as it did. -/
def splitUptoRow : OpenClaim := { program := "ytbjcfkdnjaiclaagreat", sum := "2b3ccc73b72ece6c29f15ca7ea2a45d35923807e9ba69a1b8640a36a2105af54", func := "lexer/lexerkeep.Split", spec := "split", recurses := true, apart := false, narrowed := true }
def SplitUptoSaid : Prop := splitUptoRow.holds Tryz.pinned (OpenSpec.upto splitSpec)

/-- 'lexerkeep.Engines', WHERE WHAT IT READS IS OF BULK AT MOST 1048576: true; the input reads as it did. -/
def enginesUptoRow : OpenClaim := { program := "ytbjcfkdnjaiclaagreat", sum := "2b3ccc73b72ece6c29f15ca7ea2a45d35923807e9ba69a1b8640a36a2105af54", func := "lexer/lexerkeep.Engines", spec := "engines", recurses := true, apart := false, narrowed := true }
def EnginesUptoSaid : Prop := enginesUptoRow.holds Tryz.pinned (OpenSpec.upto enginesSpec)

/-- 'lexerkeep.Cover', WHERE WHAT IT READS IS OF BULK AT MOST 1048576: true; the input reads as it did. -/
def coverUptoRow : OpenClaim := { program := "ytbjcfkdnjaiclaagreat", sum := "2b3ccc73b72ece6c29f15ca7ea2a45d35923807e9ba69a1b8640a36a2105af54", func := "lexer/lexerkeep.Cover", spec := "cover", recurses := true, apart := false, narrowed := true }
def CoverUptoSaid : Prop := coverUptoRow.holds Tryz.pinned (OpenSpec.upto coverSpec)

/-- 'lexerkeep.Early', WHERE WHAT IT READS IS OF BULK AT MOST 1048576: true; the input reads as it did. -/
def earlyUptoRow : OpenClaim := { program := "ytbjcfkdnjaiclaagreat", sum := "2b3ccc73b72ece6c29f15ca7ea2a45d35923807e9ba69a1b8640a36a2105af54", func := "lexer/lexerkeep.Early", spec := "early", recurses := true, apart := false, narrowed := true }
def EarlyUptoSaid : Prop := earlyUptoRow.holds Tryz.pinned (OpenSpec.upto earlySpec)

/-- 'lexerkeep.Stable', WHERE WHAT IT READS IS OF BULK AT MOST 1048576: true; the input reads as it did. -/
def stableUptoRow : OpenClaim := { program := "ytbjcfkdnjaiclaagreat", sum := "2b3ccc73b72ece6c29f15ca7ea2a45d35923807e9ba69a1b8640a36a2105af54", func := "lexer/lexerkeep.Stable", spec := "stable", recurses := true, apart := false, narrowed := true }
def StableUptoSaid : Prop := stableUptoRow.holds Tryz.pinned (OpenSpec.upto stableSpec)

/-- 'lexerkeep.Saved', WHERE WHAT IT READS IS OF BULK AT MOST 1048576: true; the input reads as it did. -/
def savedUptoRow : OpenClaim := { program := "ytbjcfkdnjaiclaagreat", sum := "2b3ccc73b72ece6c29f15ca7ea2a45d35923807e9ba69a1b8640a36a2105af54", func := "lexer/lexerkeep.Saved", spec := "saved", recurses := true, apart := false, narrowed := true }
def SavedUptoSaid : Prop := savedUptoRow.holds Tryz.pinned (OpenSpec.upto savedSpec)

/-- 'lexerkeep.Turned', WHERE WHAT IT READS IS OF BULK AT MOST 1048576: true; the input reads as it did. -/
def turnedUptoRow : OpenClaim := { program := "ytbjcfkdnjaiclaagreat", sum := "2b3ccc73b72ece6c29f15ca7ea2a45d35923807e9ba69a1b8640a36a2105af54", func := "lexer/lexerkeep.Turned", spec := "turned", recurses := true, apart := false, narrowed := true }
def TurnedUptoSaid : Prop := turnedUptoRow.holds Tryz.pinned (OpenSpec.upto turnedSpec)

/-- 'lexerkeep.Alone', WHERE WHAT IT READS IS OF BULK AT MOST 1048576: true; the input reads as it did. -/
def aloneUptoRow : OpenClaim := { program := "ytbjcfkdnjaiclaagreat", sum := "2b3ccc73b72ece6c29f15ca7ea2a45d35923807e9ba69a1b8640a36a2105af54", func := "lexer/lexerkeep.Alone", spec := "alone", recurses := true, apart := false, narrowed := true }
def AloneUptoSaid : Prop := aloneUptoRow.holds Tryz.pinned (OpenSpec.upto aloneSpec)

/-- 'lexerkeep.Own', WHERE WHAT IT READS IS OF BULK AT MOST 1048576: true; the input reads as it did. -/
def ownUptoRow : OpenClaim := { program := "ytbjcfkdnjaiclaagreat", sum := "2b3ccc73b72ece6c29f15ca7ea2a45d35923807e9ba69a1b8640a36a2105af54", func := "lexer/lexerkeep.Own", spec := "own", recurses := true, apart := false, narrowed := true }
def OwnUptoSaid : Prop := ownUptoRow.holds Tryz.pinned (OpenSpec.upto ownSpec)

end Rows
end Go.Proofs.YtbjcfkdnjaiclaaGreat
