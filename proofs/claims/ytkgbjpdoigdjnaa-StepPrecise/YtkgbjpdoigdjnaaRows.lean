/-
  No cell of these rows narrows 'for every input' (looked for: loops, veiled, ifaces, maps, wideKeys, modest, calm, conditions, laid).
  DERIVED. THE GIVEN ROWS OF THIS SEAT. 12 by the template 'for every input the law returns true; each argument reads behind the call as it read before'; 0 by the template 'total and deterministic' (their statements: YtkgbjpdoigdjnaaTotals.lean).
  GIVEN WITH THE SEED: the statements are not yours to turn. If you find one false, say at which input.
  Laid BY PROGRAM, IN A SANDBOX (cutbox-rows.mjs): the forced cells as the released guide's own fill.sh prints them over the translation fb83c25ede170ba8… (all of the seat's roots in one cut). By AI agents, Wed Nov 11 2026. No macro, syntax, notation, axiom, sorry.
-/
import Derived.Test.YtkgbjpdoigdjnaaChecked
import GoSem.Claim
import GoSem.ClaimJoined
import GoSem.ClaimMapViews
import Derived.JoinedTies
import Derived.KernelRfl
namespace Go.Proofs.Ytkgbjpdoigdjnaa
/- THE CELL 'sum', in the pinned program and in every row, IS THE sha256 OF THE DUMP (.gsa) THAT YtkgbjpdoigdjnaaProg.lean LOADS. Nothing in Lean hashes anything: it is a label: what it is worth is what the hold of that sum in a sandbox is worth. -/
noncomputable def Try.pinned : Pinned := { name := "ytkgbjpdoigdjnaa", sum := "fb83c25ede170ba86f8723a3594218566c8add484e44ceaa67f4b0b179193eef", checked := Try.checked }
namespace Rows
def none {H : Type} : Left H := { results := [], args := [] }

/-- 'crossgrainlaw1.GuestReads': WHATEVER THE INPUT: true; the input reads as it did. -/
def guestReadsSpec : ChangeSpec := { name := "guestReads", fn := fun _ => fun
  | [d1, d2, d3] => { results := [.lit (.bool true)], args := [d1, d2, d3] }
  | _ => none }
def guestReadsRow : OpenClaim := { program := "ytkgbjpdoigdjnaa", sum := "fb83c25ede170ba86f8723a3594218566c8add484e44ceaa67f4b0b179193eef", func := "crossgrain/crossgrainlaw1.GuestReads", spec := "guestReads", unfollowed := true, recurses := true, apart := false }
def GuestReadsSaid : Prop := guestReadsRow.holds Try.pinned (OpenSpec.ofChange guestReadsSpec)

/-- ITS FALSE NEIGHBOUR: 'it returns false'. Refute it at one input. -/
def guestReadsWrong : ChangeSpec := { name := "guestReads", fn := fun _ => fun
  | [d1, d2, d3] => { results := [.lit (.bool false)], args := [d1, d2, d3] }
  | _ => none }
def GuestReadsWrongFalsely : Prop := guestReadsRow.holds Try.pinned (OpenSpec.ofChange guestReadsWrong)

/-- 'crossgrainlaw1.GuestWrites': WHATEVER THE INPUT: true; the input reads as it did. -/
def guestWritesSpec : ChangeSpec := { name := "guestWrites", fn := fun _ => fun
  | [d] => { results := [.lit (.bool true)], args := [d] }
  | _ => none }
def guestWritesRow : OpenClaim := { program := "ytkgbjpdoigdjnaa", sum := "fb83c25ede170ba86f8723a3594218566c8add484e44ceaa67f4b0b179193eef", func := "crossgrain/crossgrainlaw1.GuestWrites", spec := "guestWrites", unfollowed := true, recurses := true, apart := false }
def GuestWritesSaid : Prop := guestWritesRow.holds Try.pinned (OpenSpec.ofChange guestWritesSpec)

/-- ITS FALSE NEIGHBOUR: 'it returns false'. Refute it at one input. -/
def guestWritesWrong : ChangeSpec := { name := "guestWrites", fn := fun _ => fun
  | [d] => { results := [.lit (.bool false)], args := [d] }
  | _ => none }
def GuestWritesWrongFalsely : Prop := guestWritesRow.holds Try.pinned (OpenSpec.ofChange guestWritesWrong)

/-- 'crossgrainlaw1.GuestRounds': WHATEVER THE INPUT: true; the input reads as it did. -/
def guestRoundsSpec : ChangeSpec := { name := "guestRounds", fn := fun _ => fun
  | [d1, d2] => { results := [.lit (.bool true)], args := [d1, d2] }
  | _ => none }
def guestRoundsRow : OpenClaim := { program := "ytkgbjpdoigdjnaa", sum := "fb83c25ede170ba86f8723a3594218566c8add484e44ceaa67f4b0b179193eef", func := "crossgrain/crossgrainlaw1.GuestRounds", spec := "guestRounds", unfollowed := true, recurses := true, apart := false }
def GuestRoundsSaid : Prop := guestRoundsRow.holds Try.pinned (OpenSpec.ofChange guestRoundsSpec)

/-- ITS FALSE NEIGHBOUR: 'it returns false'. Refute it at one input. -/
def guestRoundsWrong : ChangeSpec := { name := "guestRounds", fn := fun _ => fun
  | [d1, d2] => { results := [.lit (.bool false)], args := [d1, d2] }
  | _ => none }
def GuestRoundsWrongFalsely : Prop := guestRoundsRow.holds Try.pinned (OpenSpec.ofChange guestRoundsWrong)

/-- 'crossgrainlaw1.MemPlays': WHATEVER THE INPUT: true; the input reads as it did. -/
def memPlaysSpec : ChangeSpec := { name := "memPlays", fn := fun _ => fun
  | [d1, d2] => { results := [.lit (.bool true)], args := [d1, d2] }
  | _ => none }
def memPlaysRow : OpenClaim := { program := "ytkgbjpdoigdjnaa", sum := "fb83c25ede170ba86f8723a3594218566c8add484e44ceaa67f4b0b179193eef", func := "crossgrain/crossgrainlaw1.MemPlays", spec := "memPlays", apart := false }
def MemPlaysSaid : Prop := memPlaysRow.holds Try.pinned (OpenSpec.ofChange memPlaysSpec)

/-- ITS FALSE NEIGHBOUR: 'it returns false'. Refute it at one input. -/
def memPlaysWrong : ChangeSpec := { name := "memPlays", fn := fun _ => fun
  | [d1, d2] => { results := [.lit (.bool false)], args := [d1, d2] }
  | _ => none }
def MemPlaysWrongFalsely : Prop := memPlaysRow.holds Try.pinned (OpenSpec.ofChange memPlaysWrong)

/-- 'crossgrainlaw1.FlagsMade': WHATEVER THE INPUT: true; the input reads as it did. -/
def flagsMadeSpec : ChangeSpec := { name := "flagsMade", fn := fun _ => fun
  | [d1, d2, d3, d4, d5] => { results := [.lit (.bool true)], args := [d1, d2, d3, d4, d5] }
  | _ => none }
def flagsMadeRow : OpenClaim := { program := "ytkgbjpdoigdjnaa", sum := "fb83c25ede170ba86f8723a3594218566c8add484e44ceaa67f4b0b179193eef", func := "crossgrain/crossgrainlaw1.FlagsMade", spec := "flagsMade", apart := false }
def FlagsMadeSaid : Prop := flagsMadeRow.holds Try.pinned (OpenSpec.ofChange flagsMadeSpec)

/-- ITS FALSE NEIGHBOUR: 'it returns false'. Refute it at one input. -/
def flagsMadeWrong : ChangeSpec := { name := "flagsMade", fn := fun _ => fun
  | [d1, d2, d3, d4, d5] => { results := [.lit (.bool false)], args := [d1, d2, d3, d4, d5] }
  | _ => none }
def FlagsMadeWrongFalsely : Prop := flagsMadeRow.holds Try.pinned (OpenSpec.ofChange flagsMadeWrong)

/-- 'crossgrainlaw1.FlagsOrder': WHATEVER THE INPUT: true; the input reads as it did. -/
def flagsOrderSpec : ChangeSpec := { name := "flagsOrder", fn := fun _ => fun
  | [d1, d2, d3, d4] => { results := [.lit (.bool true)], args := [d1, d2, d3, d4] }
  | _ => none }
def flagsOrderRow : OpenClaim := { program := "ytkgbjpdoigdjnaa", sum := "fb83c25ede170ba86f8723a3594218566c8add484e44ceaa67f4b0b179193eef", func := "crossgrain/crossgrainlaw1.FlagsOrder", spec := "flagsOrder", apart := false }
def FlagsOrderSaid : Prop := flagsOrderRow.holds Try.pinned (OpenSpec.ofChange flagsOrderSpec)

/-- ITS FALSE NEIGHBOUR: 'it returns false'. Refute it at one input. -/
def flagsOrderWrong : ChangeSpec := { name := "flagsOrder", fn := fun _ => fun
  | [d1, d2, d3, d4] => { results := [.lit (.bool false)], args := [d1, d2, d3, d4] }
  | _ => none }
def FlagsOrderWrongFalsely : Prop := flagsOrderRow.holds Try.pinned (OpenSpec.ofChange flagsOrderWrong)

/-- 'crossgrainlaw1.StepMeans': WHATEVER THE INPUT: true; the input reads as it did. -/
def stepMeansSpec : ChangeSpec := { name := "stepMeans", fn := fun _ => fun
  | [d1, d2, d3] => { results := [.lit (.bool true)], args := [d1, d2, d3] }
  | _ => none }
def stepMeansRow : OpenClaim := { program := "ytkgbjpdoigdjnaa", sum := "fb83c25ede170ba86f8723a3594218566c8add484e44ceaa67f4b0b179193eef", func := "crossgrain/crossgrainlaw1.StepMeans", spec := "stepMeans", unfollowed := true, recurses := true, apart := false }
def StepMeansSaid : Prop := stepMeansRow.holds Try.pinned (OpenSpec.ofChange stepMeansSpec)

/-- ITS FALSE NEIGHBOUR: 'it returns false'. Refute it at one input. -/
def stepMeansWrong : ChangeSpec := { name := "stepMeans", fn := fun _ => fun
  | [d1, d2, d3] => { results := [.lit (.bool false)], args := [d1, d2, d3] }
  | _ => none }
def StepMeansWrongFalsely : Prop := stepMeansRow.holds Try.pinned (OpenSpec.ofChange stepMeansWrong)

/-- 'crossgrainlaw1.StepPrecise': WHATEVER THE INPUT: true; the input reads as it did. -/
def stepPreciseSpec : ChangeSpec := { name := "stepPrecise", fn := fun _ => fun
  | [d1, d2] => { results := [.lit (.bool true)], args := [d1, d2] }
  | _ => none }
def stepPreciseRow : OpenClaim := { program := "ytkgbjpdoigdjnaa", sum := "fb83c25ede170ba86f8723a3594218566c8add484e44ceaa67f4b0b179193eef", func := "crossgrain/crossgrainlaw1.StepPrecise", spec := "stepPrecise", unfollowed := true, recurses := true, apart := false }
def StepPreciseSaid : Prop := stepPreciseRow.holds Try.pinned (OpenSpec.ofChange stepPreciseSpec)

/-- ITS FALSE NEIGHBOUR: 'it returns false'. Refute it at one input. -/
def stepPreciseWrong : ChangeSpec := { name := "stepPrecise", fn := fun _ => fun
  | [d1, d2] => { results := [.lit (.bool false)], args := [d1, d2] }
  | _ => none }
def StepPreciseWrongFalsely : Prop := stepPreciseRow.holds Try.pinned (OpenSpec.ofChange stepPreciseWrong)

/-- 'crossgrainlaw2.IRChecks': WHATEVER THE INPUT: true; the input reads as it did. -/
def iRChecksSpec : ChangeSpec := { name := "iRChecks", fn := fun _ => fun
  | [d1, d2] => { results := [.lit (.bool true)], args := [d1, d2] }
  | _ => none }
def iRChecksRow : OpenClaim := { program := "ytkgbjpdoigdjnaa", sum := "fb83c25ede170ba86f8723a3594218566c8add484e44ceaa67f4b0b179193eef", func := "crossgrain/crossgrainlaw2.IRChecks", spec := "iRChecks", apart := false }
def IRChecksSaid : Prop := iRChecksRow.holds Try.pinned (OpenSpec.ofChange iRChecksSpec)

/-- ITS FALSE NEIGHBOUR: 'it returns false'. Refute it at one input. -/
def iRChecksWrong : ChangeSpec := { name := "iRChecks", fn := fun _ => fun
  | [d1, d2] => { results := [.lit (.bool false)], args := [d1, d2] }
  | _ => none }
def IRChecksWrongFalsely : Prop := iRChecksRow.holds Try.pinned (OpenSpec.ofChange iRChecksWrong)

/-- 'crossgrainlaw2.IREvals': WHATEVER THE INPUT: true; the input reads as it did. -/
def iREvalsSpec : ChangeSpec := { name := "iREvals", fn := fun _ => fun
  | [d1, d2, d3, d4] => { results := [.lit (.bool true)], args := [d1, d2, d3, d4] }
  | _ => none }
def iREvalsRow : OpenClaim := { program := "ytkgbjpdoigdjnaa", sum := "fb83c25ede170ba86f8723a3594218566c8add484e44ceaa67f4b0b179193eef", func := "crossgrain/crossgrainlaw2.IREvals", spec := "iREvals", apart := false }
def IREvalsSaid : Prop := iREvalsRow.holds Try.pinned (OpenSpec.ofChange iREvalsSpec)

/-- ITS FALSE NEIGHBOUR: 'it returns false'. Refute it at one input. -/
def iREvalsWrong : ChangeSpec := { name := "iREvals", fn := fun _ => fun
  | [d1, d2, d3, d4] => { results := [.lit (.bool false)], args := [d1, d2, d3, d4] }
  | _ => none }
def IREvalsWrongFalsely : Prop := iREvalsRow.holds Try.pinned (OpenSpec.ofChange iREvalsWrong)

/-- 'crossgrainlaw2.IRStates': WHATEVER THE INPUT: true; the input reads as it did. -/
def iRStatesSpec : ChangeSpec := { name := "iRStates", fn := fun _ => fun
  | [d1, d2, d3] => { results := [.lit (.bool true)], args := [d1, d2, d3] }
  | _ => none }
def iRStatesRow : OpenClaim := { program := "ytkgbjpdoigdjnaa", sum := "fb83c25ede170ba86f8723a3594218566c8add484e44ceaa67f4b0b179193eef", func := "crossgrain/crossgrainlaw2.IRStates", spec := "iRStates", apart := false }
def IRStatesSaid : Prop := iRStatesRow.holds Try.pinned (OpenSpec.ofChange iRStatesSpec)

/-- ITS FALSE NEIGHBOUR: 'it returns false'. Refute it at one input. -/
def iRStatesWrong : ChangeSpec := { name := "iRStates", fn := fun _ => fun
  | [d1, d2, d3] => { results := [.lit (.bool false)], args := [d1, d2, d3] }
  | _ => none }
def IRStatesWrongFalsely : Prop := iRStatesRow.holds Try.pinned (OpenSpec.ofChange iRStatesWrong)

/-- 'crossgrainlaw2.LiftShapes': WHATEVER THE INPUT: true; the input reads as it did. -/
def liftShapesSpec : ChangeSpec := { name := "liftShapes", fn := fun _ => fun
  | [d1, d2, d3] => { results := [.lit (.bool true)], args := [d1, d2, d3] }
  | _ => none }
def liftShapesRow : OpenClaim := { program := "ytkgbjpdoigdjnaa", sum := "fb83c25ede170ba86f8723a3594218566c8add484e44ceaa67f4b0b179193eef", func := "crossgrain/crossgrainlaw2.LiftShapes", spec := "liftShapes", unfollowed := true, recurses := true, apart := false }
def LiftShapesSaid : Prop := liftShapesRow.holds Try.pinned (OpenSpec.ofChange liftShapesSpec)

/-- ITS FALSE NEIGHBOUR: 'it returns false'. Refute it at one input. -/
def liftShapesWrong : ChangeSpec := { name := "liftShapes", fn := fun _ => fun
  | [d1, d2, d3] => { results := [.lit (.bool false)], args := [d1, d2, d3] }
  | _ => none }
def LiftShapesWrongFalsely : Prop := liftShapesRow.holds Try.pinned (OpenSpec.ofChange liftShapesWrong)

/- THE SECOND FORM. 'bulk': how many values and letters a reading holds, each counted each time it is reached (what is shared counts as often as it is met; a slice's spare places count too). A statement '..UptoSaid' is the law's where the arguments, and the package variables that the reading takes, are together of bulk at most 1048576: NARROWER than '..Said'. Prove '..Said' where nothing that the law and all that it calls make is longer than what came in: it says more and counts as full. Else prove '..UptoSaid'. A law counts once. -/
mutual
def uptoBulk {H : Type} : DataW H → Nat
  | .lit (.string bytes) => bytes.length + 1
  | .lit _ => 1
  | .nil => 1
  | .ptr d => uptoBulk d + 1
  | .slice elems spare => uptoBulkAll elems + uptoBulkAll spare + 1
  | .agg parts => uptoBulkAll parts + 1
  | .iface _ d => uptoBulk d + 1
  | .map entries => uptoBulkEntries entries + 1
  | .held _ => 1
def uptoBulkAll {H : Type} : List (DataW H) → Nat
  | [] => 0
  | d :: r => uptoBulk d + uptoBulkAll r
def uptoBulkEntries {H : Type} : List (Lit × DataW H) → Nat
  | [] => 0
  | x :: r => uptoBulkEntry x + uptoBulkEntries r
def uptoBulkEntry {H : Type} : Lit × DataW H → Nat
  | (.string bytes, d) => bytes.length + uptoBulk d + 1
  | (_, d) => uptoBulk d + 1
 end
def uptoSmall : (H : Type) → List (DataW H) → Bool := fun _ ds => decide (uptoBulkAll ds ≤ 1048576)
def OpenSpec.upto (s : _root_.Go.ChangeSpec) : _root_.Go.OpenSpec := { _root_.Go.OpenSpec.ofChange s with cond := some uptoSmall }

/-- 'crossgrainlaw1.GuestReads', WHERE WHAT IT READS IS OF BULK AT MOST 1048576: true; the input reads as it did. -/
def guestReadsUptoRow : OpenClaim := { program := "ytkgbjpdoigdjnaa", sum := "fb83c25ede170ba86f8723a3594218566c8add484e44ceaa67f4b0b179193eef", func := "crossgrain/crossgrainlaw1.GuestReads", spec := "guestReads", unfollowed := true, recurses := true, apart := false, narrowed := true }
def GuestReadsUptoSaid : Prop := guestReadsUptoRow.holds Try.pinned (OpenSpec.upto guestReadsSpec)

/-- 'crossgrainlaw1.GuestWrites', WHERE WHAT IT READS IS OF BULK AT MOST 1048576: true; the input reads as it did. -/
def guestWritesUptoRow : OpenClaim := { program := "ytkgbjpdoigdjnaa", sum := "fb83c25ede170ba86f8723a3594218566c8add484e44ceaa67f4b0b179193eef", func := "crossgrain/crossgrainlaw1.GuestWrites", spec := "guestWrites", unfollowed := true, recurses := true, apart := false, narrowed := true }
def GuestWritesUptoSaid : Prop := guestWritesUptoRow.holds Try.pinned (OpenSpec.upto guestWritesSpec)

/-- 'crossgrainlaw1.GuestRounds', WHERE WHAT IT READS IS OF BULK AT MOST 1048576: true; the input reads as it did. -/
def guestRoundsUptoRow : OpenClaim := { program := "ytkgbjpdoigdjnaa", sum := "fb83c25ede170ba86f8723a3594218566c8add484e44ceaa67f4b0b179193eef", func := "crossgrain/crossgrainlaw1.GuestRounds", spec := "guestRounds", unfollowed := true, recurses := true, apart := false, narrowed := true }
def GuestRoundsUptoSaid : Prop := guestRoundsUptoRow.holds Try.pinned (OpenSpec.upto guestRoundsSpec)

/-- 'crossgrainlaw1.MemPlays', WHERE WHAT IT READS IS OF BULK AT MOST 1048576: true; the input reads as it did. -/
def memPlaysUptoRow : OpenClaim := { program := "ytkgbjpdoigdjnaa", sum := "fb83c25ede170ba86f8723a3594218566c8add484e44ceaa67f4b0b179193eef", func := "crossgrain/crossgrainlaw1.MemPlays", spec := "memPlays", apart := false, narrowed := true }
def MemPlaysUptoSaid : Prop := memPlaysUptoRow.holds Try.pinned (OpenSpec.upto memPlaysSpec)

/-- 'crossgrainlaw1.FlagsMade', WHERE WHAT IT READS IS OF BULK AT MOST 1048576: true; the input reads as it did. -/
def flagsMadeUptoRow : OpenClaim := { program := "ytkgbjpdoigdjnaa", sum := "fb83c25ede170ba86f8723a3594218566c8add484e44ceaa67f4b0b179193eef", func := "crossgrain/crossgrainlaw1.FlagsMade", spec := "flagsMade", apart := false, narrowed := true }
def FlagsMadeUptoSaid : Prop := flagsMadeUptoRow.holds Try.pinned (OpenSpec.upto flagsMadeSpec)

/-- 'crossgrainlaw1.FlagsOrder', WHERE WHAT IT READS IS OF BULK AT MOST 1048576: true; the input reads as it did. -/
def flagsOrderUptoRow : OpenClaim := { program := "ytkgbjpdoigdjnaa", sum := "fb83c25ede170ba86f8723a3594218566c8add484e44ceaa67f4b0b179193eef", func := "crossgrain/crossgrainlaw1.FlagsOrder", spec := "flagsOrder", apart := false, narrowed := true }
def FlagsOrderUptoSaid : Prop := flagsOrderUptoRow.holds Try.pinned (OpenSpec.upto flagsOrderSpec)

/-- 'crossgrainlaw1.StepMeans', WHERE WHAT IT READS IS OF BULK AT MOST 1048576: true; the input reads as it did. -/
def stepMeansUptoRow : OpenClaim := { program := "ytkgbjpdoigdjnaa", sum := "fb83c25ede170ba86f8723a3594218566c8add484e44ceaa67f4b0b179193eef", func := "crossgrain/crossgrainlaw1.StepMeans", spec := "stepMeans", unfollowed := true, recurses := true, apart := false, narrowed := true }
def StepMeansUptoSaid : Prop := stepMeansUptoRow.holds Try.pinned (OpenSpec.upto stepMeansSpec)

/-- 'crossgrainlaw1.StepPrecise', WHERE WHAT IT READS IS OF BULK AT MOST 1048576: true; the input reads as it did. -/
def stepPreciseUptoRow : OpenClaim := { program := "ytkgbjpdoigdjnaa", sum := "fb83c25ede170ba86f8723a3594218566c8add484e44ceaa67f4b0b179193eef", func := "crossgrain/crossgrainlaw1.StepPrecise", spec := "stepPrecise", unfollowed := true, recurses := true, apart := false, narrowed := true }
def StepPreciseUptoSaid : Prop := stepPreciseUptoRow.holds Try.pinned (OpenSpec.upto stepPreciseSpec)

/-- 'crossgrainlaw2.IRChecks', WHERE WHAT IT READS IS OF BULK AT MOST 1048576: true; the input reads as it did. -/
def iRChecksUptoRow : OpenClaim := { program := "ytkgbjpdoigdjnaa", sum := "fb83c25ede170ba86f8723a3594218566c8add484e44ceaa67f4b0b179193eef", func := "crossgrain/crossgrainlaw2.IRChecks", spec := "iRChecks", apart := false, narrowed := true }
def IRChecksUptoSaid : Prop := iRChecksUptoRow.holds Try.pinned (OpenSpec.upto iRChecksSpec)

/-- 'crossgrainlaw2.IREvals', WHERE WHAT IT READS IS OF BULK AT MOST 1048576: true; the input reads as it did. -/
def iREvalsUptoRow : OpenClaim := { program := "ytkgbjpdoigdjnaa", sum := "fb83c25ede170ba86f8723a3594218566c8add484e44ceaa67f4b0b179193eef", func := "crossgrain/crossgrainlaw2.IREvals", spec := "iREvals", apart := false, narrowed := true }
def IREvalsUptoSaid : Prop := iREvalsUptoRow.holds Try.pinned (OpenSpec.upto iREvalsSpec)

/-- 'crossgrainlaw2.IRStates', WHERE WHAT IT READS IS OF BULK AT MOST 1048576: true; the input reads as it did. -/
def iRStatesUptoRow : OpenClaim := { program := "ytkgbjpdoigdjnaa", sum := "fb83c25ede170ba86f8723a3594218566c8add484e44ceaa67f4b0b179193eef", func := "crossgrain/crossgrainlaw2.IRStates", spec := "iRStates", apart := false, narrowed := true }
def IRStatesUptoSaid : Prop := iRStatesUptoRow.holds Try.pinned (OpenSpec.upto iRStatesSpec)

/-- 'crossgrainlaw2.LiftShapes', WHERE WHAT IT READS IS OF BULK AT MOST 1048576: true; the input reads as it did. -/
def liftShapesUptoRow : OpenClaim := { program := "ytkgbjpdoigdjnaa", sum := "fb83c25ede170ba86f8723a3594218566c8add484e44ceaa67f4b0b179193eef", func := "crossgrain/crossgrainlaw2.LiftShapes", spec := "liftShapes", unfollowed := true, recurses := true, apart := false, narrowed := true }
def LiftShapesUptoSaid : Prop := liftShapesUptoRow.holds Try.pinned (OpenSpec.upto liftShapesSpec)

end Rows
end Go.Proofs.Ytkgbjpdoigdjnaa
