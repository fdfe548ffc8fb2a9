/-
  No cell of these rows narrows 'for every input' (looked for: loops, veiled, ifaces, maps, wideKeys, modest, calm, conditions, laid).
  DERIVED. THE GIVEN ROWS OF THIS SEAT. 8 by the template 'for every input the law returns true; each argument reads behind the call as it read before'; 0 by the template 'total and deterministic' (their statements: YtkgbjpdoigdjnabTotals.lean).
  GIVEN WITH THE SEED: the statements are not yours to turn. If you find one false, say at which input.
  Laid BY PROGRAM, IN A SANDBOX (cutbox-rows.mjs): the forced cells as the released guide's own fill.sh prints them over the translation 6b95cb949b0bc58e… (all of the seat's roots in one cut). By AI agents, Wed Nov 11 2026. No macro, syntax, notation, axiom, sorry.
-/
import Derived.Test.YtkgbjpdoigdjnabChecked
import GoSem.Claim
import GoSem.ClaimJoined
import GoSem.ClaimMapViews
import Derived.JoinedTies
import Derived.KernelRfl
namespace Go.Proofs.Ytkgbjpdoigdjnab
/- THE CELL 'sum', in the pinned program and in every row, IS THE sha256 OF THE DUMP (.gsa) THAT YtkgbjpdoigdjnabProg.lean LOADS. Nothing in Lean hashes anything: it is a label: what it is worth is what the hold of that sum in a sandbox is worth. -/
noncomputable def Try.pinned : Pinned := { name := "ytkgbjpdoigdjnab", sum := "6b95cb949b0bc58eb9a647421bbb05bf32d0be70c9d3c25215460b8ad81485ec", checked := Try.checked }
namespace Rows
def none {H : Type} : Left H := { results := [], args := [] }

/-- 'crossgrainlaw2.OptMeans': WHATEVER THE INPUT: true; the input reads as it did. -/
def optMeansSpec : ChangeSpec := { name := "optMeans", fn := fun _ => fun
  | [d1, d2, d3, d4] => { results := [.lit (.bool true)], args := [d1, d2, d3, d4] }
  | _ => none }
def optMeansRow : OpenClaim := { program := "ytkgbjpdoigdjnab", sum := "6b95cb949b0bc58eb9a647421bbb05bf32d0be70c9d3c25215460b8ad81485ec", func := "crossgrain/crossgrainlaw2.OptMeans", spec := "optMeans", plainKeys := false, apart := false }
def OptMeansSaid : Prop := optMeansRow.holds Try.pinned (OpenSpec.ofChange optMeansSpec)

/-- ITS FALSE NEIGHBOUR: 'it returns false'. Refute it at one input. -/
def optMeansWrong : ChangeSpec := { name := "optMeans", fn := fun _ => fun
  | [d1, d2, d3, d4] => { results := [.lit (.bool false)], args := [d1, d2, d3, d4] }
  | _ => none }
def OptMeansWrongFalsely : Prop := optMeansRow.holds Try.pinned (OpenSpec.ofChange optMeansWrong)

/-- 'crossgrainlaw2.OptClean': WHATEVER THE INPUT: true; the input reads as it did. -/
def optCleanSpec : ChangeSpec := { name := "optClean", fn := fun _ => fun
  | [d] => { results := [.lit (.bool true)], args := [d] }
  | _ => none }
def optCleanRow : OpenClaim := { program := "ytkgbjpdoigdjnab", sum := "6b95cb949b0bc58eb9a647421bbb05bf32d0be70c9d3c25215460b8ad81485ec", func := "crossgrain/crossgrainlaw2.OptClean", spec := "optClean", plainKeys := false, apart := false }
def OptCleanSaid : Prop := optCleanRow.holds Try.pinned (OpenSpec.ofChange optCleanSpec)

/-- ITS FALSE NEIGHBOUR: 'it returns false'. Refute it at one input. -/
def optCleanWrong : ChangeSpec := { name := "optClean", fn := fun _ => fun
  | [d] => { results := [.lit (.bool false)], args := [d] }
  | _ => none }
def OptCleanWrongFalsely : Prop := optCleanRow.holds Try.pinned (OpenSpec.ofChange optCleanWrong)

/-- 'crossgrainlaw3.HostReads': WHATEVER THE INPUT: true; the input reads as it did. -/
def hostReadsSpec : ChangeSpec := { name := "hostReads", fn := fun _ => fun
  | [d1, d2] => { results := [.lit (.bool true)], args := [d1, d2] }
  | _ => none }
def hostReadsRow : OpenClaim := { program := "ytkgbjpdoigdjnab", sum := "6b95cb949b0bc58eb9a647421bbb05bf32d0be70c9d3c25215460b8ad81485ec", func := "crossgrain/crossgrainlaw3.HostReads", spec := "hostReads", unfollowed := true, recurses := true, plainKeys := false, apart := false }
def HostReadsSaid : Prop := hostReadsRow.holds Try.pinned (OpenSpec.ofChange hostReadsSpec)

/-- ITS FALSE NEIGHBOUR: 'it returns false'. Refute it at one input. -/
def hostReadsWrong : ChangeSpec := { name := "hostReads", fn := fun _ => fun
  | [d1, d2] => { results := [.lit (.bool false)], args := [d1, d2] }
  | _ => none }
def HostReadsWrongFalsely : Prop := hostReadsRow.holds Try.pinned (OpenSpec.ofChange hostReadsWrong)

/-- 'crossgrainlaw3.HostWrites': WHATEVER THE INPUT: true; the input reads as it did. -/
def hostWritesSpec : ChangeSpec := { name := "hostWrites", fn := fun _ => fun
  | [d] => { results := [.lit (.bool true)], args := [d] }
  | _ => none }
def hostWritesRow : OpenClaim := { program := "ytkgbjpdoigdjnab", sum := "6b95cb949b0bc58eb9a647421bbb05bf32d0be70c9d3c25215460b8ad81485ec", func := "crossgrain/crossgrainlaw3.HostWrites", spec := "hostWrites", unfollowed := true, recurses := true, plainKeys := false, apart := false }
def HostWritesSaid : Prop := hostWritesRow.holds Try.pinned (OpenSpec.ofChange hostWritesSpec)

/-- ITS FALSE NEIGHBOUR: 'it returns false'. Refute it at one input. -/
def hostWritesWrong : ChangeSpec := { name := "hostWrites", fn := fun _ => fun
  | [d] => { results := [.lit (.bool false)], args := [d] }
  | _ => none }
def HostWritesWrongFalsely : Prop := hostWritesRow.holds Try.pinned (OpenSpec.ofChange hostWritesWrong)

/-- 'crossgrainlaw3.GenShapes': WHATEVER THE INPUT: true; the input reads as it did. -/
def genShapesSpec : ChangeSpec := { name := "genShapes", fn := fun _ => fun
  | [d1, d2] => { results := [.lit (.bool true)], args := [d1, d2] }
  | _ => none }
def genShapesRow : OpenClaim := { program := "ytkgbjpdoigdjnab", sum := "6b95cb949b0bc58eb9a647421bbb05bf32d0be70c9d3c25215460b8ad81485ec", func := "crossgrain/crossgrainlaw3.GenShapes", spec := "genShapes", unfollowed := true, recurses := true, plainKeys := false, apart := false }
def GenShapesSaid : Prop := genShapesRow.holds Try.pinned (OpenSpec.ofChange genShapesSpec)

/-- ITS FALSE NEIGHBOUR: 'it returns false'. Refute it at one input. -/
def genShapesWrong : ChangeSpec := { name := "genShapes", fn := fun _ => fun
  | [d1, d2] => { results := [.lit (.bool false)], args := [d1, d2] }
  | _ => none }
def GenShapesWrongFalsely : Prop := genShapesRow.holds Try.pinned (OpenSpec.ofChange genShapesWrong)

/-- 'crossgrainlaw3.GenMeans': WHATEVER THE INPUT: true; the input reads as it did. -/
def genMeansSpec : ChangeSpec := { name := "genMeans", fn := fun _ => fun
  | [d1, d2, d3, d4, d5] => { results := [.lit (.bool true)], args := [d1, d2, d3, d4, d5] }
  | _ => none }
def genMeansRow : OpenClaim := { program := "ytkgbjpdoigdjnab", sum := "6b95cb949b0bc58eb9a647421bbb05bf32d0be70c9d3c25215460b8ad81485ec", func := "crossgrain/crossgrainlaw3.GenMeans", spec := "genMeans", unfollowed := true, recurses := true, plainKeys := false, apart := false }
def GenMeansSaid : Prop := genMeansRow.holds Try.pinned (OpenSpec.ofChange genMeansSpec)

/-- ITS FALSE NEIGHBOUR: 'it returns false'. Refute it at one input. -/
def genMeansWrong : ChangeSpec := { name := "genMeans", fn := fun _ => fun
  | [d1, d2, d3, d4, d5] => { results := [.lit (.bool false)], args := [d1, d2, d3, d4, d5] }
  | _ => none }
def GenMeansWrongFalsely : Prop := genMeansRow.holds Try.pinned (OpenSpec.ofChange genMeansWrong)

/-- 'crossgrainlaw3.CachePlays': WHATEVER THE INPUT: true; the input reads as it did. -/
def cachePlaysSpec : ChangeSpec := { name := "cachePlays", fn := fun _ => fun
  | [d1, d2, d3] => { results := [.lit (.bool true)], args := [d1, d2, d3] }
  | _ => none }
def cachePlaysRow : OpenClaim := { program := "ytkgbjpdoigdjnab", sum := "6b95cb949b0bc58eb9a647421bbb05bf32d0be70c9d3c25215460b8ad81485ec", func := "crossgrain/crossgrainlaw3.CachePlays", spec := "cachePlays", unfollowed := true, recurses := true, plainKeys := false, apart := false }
def CachePlaysSaid : Prop := cachePlaysRow.holds Try.pinned (OpenSpec.ofChange cachePlaysSpec)

/-- ITS FALSE NEIGHBOUR: 'it returns false'. Refute it at one input. -/
def cachePlaysWrong : ChangeSpec := { name := "cachePlays", fn := fun _ => fun
  | [d1, d2, d3] => { results := [.lit (.bool false)], args := [d1, d2, d3] }
  | _ => none }
def CachePlaysWrongFalsely : Prop := cachePlaysRow.holds Try.pinned (OpenSpec.ofChange cachePlaysWrong)

/-- 'crossgrainlaw3.CacheLeads': WHATEVER THE INPUT: true; the input reads as it did. -/
def cacheLeadsSpec : ChangeSpec := { name := "cacheLeads", fn := fun _ => fun
  | [d1, d2] => { results := [.lit (.bool true)], args := [d1, d2] }
  | _ => none }
def cacheLeadsRow : OpenClaim := { program := "ytkgbjpdoigdjnab", sum := "6b95cb949b0bc58eb9a647421bbb05bf32d0be70c9d3c25215460b8ad81485ec", func := "crossgrain/crossgrainlaw3.CacheLeads", spec := "cacheLeads", unfollowed := true, recurses := true, plainKeys := false, apart := false }
def CacheLeadsSaid : Prop := cacheLeadsRow.holds Try.pinned (OpenSpec.ofChange cacheLeadsSpec)

/-- ITS FALSE NEIGHBOUR: 'it returns false'. Refute it at one input. -/
def cacheLeadsWrong : ChangeSpec := { name := "cacheLeads", fn := fun _ => fun
  | [d1, d2] => { results := [.lit (.bool false)], args := [d1, d2] }
  | _ => none }
def CacheLeadsWrongFalsely : Prop := cacheLeadsRow.holds Try.pinned (OpenSpec.ofChange cacheLeadsWrong)

/- THE SECOND FORM. 'bulk': how many values and letters a reading holds, each counted each time it is reached (what is shared counts as often as it is met; a slice's spare places count too). A statement '..UptoSaid' is the law's where the arguments, and the package variables that the reading takes, are together of bulk at most 1048576: NARROWER than '..Said'. Prove '..Said' where nothing that the law and all that it calls make is longer than what came in: it says more and counts as full. Else prove '..UptoSaid'. A law counts once. -/
mutual
def uptoBulk {H : Type} : DataW H → Nat
  | .lit (.string bytes) => bytes.length + 1
  | .lit _ => 1
  | .nil => 1
  | .ptr d => uptoBulk d + 1
  | .slice elems spare => uptoBulkAll elems + uptoBulkAll spare + 1
  | .agg parts => uptoBulkAll parts + 1
  | .iface _ d => uptoBulk d + 1
  | .map entries => uptoBulkEntries entries + 1
  | .held _ => 1
def uptoBulkAll {H : Type} : List (DataW H) → Nat
  | [] => 0
  | d :: r => uptoBulk d + uptoBulkAll r
def uptoBulkEntries {H : Type} : List (Lit × DataW H) → Nat
  | [] => 0
  | x :: r => uptoBulkEntry x + uptoBulkEntries r
def uptoBulkEntry {H : Type} : Lit × DataW H → Nat
  | (.string bytes, d) => bytes.length + uptoBulk d + 1
  | (_, d) => uptoBulk d + 1
 end
def uptoSmall : (H : Type) → List (DataW H) → Bool := fun _ ds => decide (uptoBulkAll ds ≤ 1048576)
def OpenSpec.upto (s : _root_.Go.ChangeSpec) : _root_.Go.OpenSpec := { _root_.Go.OpenSpec.ofChange s with cond := some uptoSmall }

/-- 'crossgrainlaw2.OptMeans', WHERE WHAT IT READS IS OF BULK AT MOST 1048576: true; the input reads as it did. -/
def optMeansUptoRow : OpenClaim := { program := "ytkgbjpdoigdjnab", sum := "6b95cb949b0bc58eb9a647421bbb05bf32d0be70c9d3c25215460b8ad81485ec", func := "crossgrain/crossgrainlaw2.OptMeans", spec := "optMeans", plainKeys := false, apart := false, narrowed := true }
def OptMeansUptoSaid : Prop := optMeansUptoRow.holds Try.pinned (OpenSpec.upto optMeansSpec)

/-- 'crossgrainlaw2.OptClean', WHERE WHAT IT READS IS OF BULK AT MOST 1048576: true; the input reads as it did. -/
def optCleanUptoRow : OpenClaim := { program := "ytkgbjpdoigdjnab", sum := "6b95cb949b0bc58eb9a647421bbb05bf32d0be70c9d3c25215460b8ad81485ec", func := "crossgrain/crossgrainlaw2.OptClean", spec := "optClean", plainKeys := false, apart := false, narrowed := true }
def OptCleanUptoSaid : Prop := optCleanUptoRow.holds Try.pinned (OpenSpec.upto optCleanSpec)

/-- 'crossgrainlaw3.HostReads', WHERE WHAT IT READS IS OF BULK AT MOST 1048576: true; the input reads as it did. -/
def hostReadsUptoRow : OpenClaim := { program := "ytkgbjpdoigdjnab", sum := "6b95cb949b0bc58eb9a647421bbb05bf32d0be70c9d3c25215460b8ad81485ec", func := "crossgrain/crossgrainlaw3.HostReads", spec := "hostReads", unfollowed := true, recurses := true, plainKeys := false, apart := false, narrowed := true }
def HostReadsUptoSaid : Prop := hostReadsUptoRow.holds Try.pinned (OpenSpec.upto hostReadsSpec)

/-- 'crossgrainlaw3.HostWrites', WHERE WHAT IT READS IS OF BULK AT MOST 1048576: true; the input reads as it did. -/
def hostWritesUptoRow : OpenClaim := { program := "ytkgbjpdoigdjnab", sum := "6b95cb949b0bc58eb9a647421bbb05bf32d0be70c9d3c25215460b8ad81485ec", func := "crossgrain/crossgrainlaw3.HostWrites", spec := "hostWrites", unfollowed := true, recurses := true, plainKeys := false, apart := false, narrowed := true }
def HostWritesUptoSaid : Prop := hostWritesUptoRow.holds Try.pinned (OpenSpec.upto hostWritesSpec)

/-- 'crossgrainlaw3.GenShapes', WHERE WHAT IT READS IS OF BULK AT MOST 1048576: true; the input reads as it did. -/
def genShapesUptoRow : OpenClaim := { program := "ytkgbjpdoigdjnab", sum := "6b95cb949b0bc58eb9a647421bbb05bf32d0be70c9d3c25215460b8ad81485ec", func := "crossgrain/crossgrainlaw3.GenShapes", spec := "genShapes", unfollowed := true, recurses := true, plainKeys := false, apart := false, narrowed := true }
def GenShapesUptoSaid : Prop := genShapesUptoRow.holds Try.pinned (OpenSpec.upto genShapesSpec)

/-- 'crossgrainlaw3.GenMeans', WHERE WHAT IT READS IS OF BULK AT MOST 1048576: true; the input reads as it did. -/
def genMeansUptoRow : OpenClaim := { program := "ytkgbjpdoigdjnab", sum := "6b95cb949b0bc58eb9a647421bbb05bf32d0be70c9d3c25215460b8ad81485ec", func := "crossgrain/crossgrainlaw3.GenMeans", spec := "genMeans", unfollowed := true, recurses := true, plainKeys := false, apart := false, narrowed := true }
def GenMeansUptoSaid : Prop := genMeansUptoRow.holds Try.pinned (OpenSpec.upto genMeansSpec)

/-- 'crossgrainlaw3.CachePlays', WHERE WHAT IT READS IS OF BULK AT MOST 1048576: true; the input reads as it did. -/
def cachePlaysUptoRow : OpenClaim := { program := "ytkgbjpdoigdjnab", sum := "6b95cb949b0bc58eb9a647421bbb05bf32d0be70c9d3c25215460b8ad81485ec", func := "crossgrain/crossgrainlaw3.CachePlays", spec := "cachePlays", unfollowed := true, recurses := true, plainKeys := false, apart := false, narrowed := true }
def CachePlaysUptoSaid : Prop := cachePlaysUptoRow.holds Try.pinned (OpenSpec.upto cachePlaysSpec)

/-- 'crossgrainlaw3.CacheLeads', WHERE WHAT IT READS IS OF BULK AT MOST 1048576: true; the input reads as it did. -/
def cacheLeadsUptoRow : OpenClaim := { program := "ytkgbjpdoigdjnab", sum := "6b95cb949b0bc58eb9a647421bbb05bf32d0be70c9d3c25215460b8ad81485ec", func := "crossgrain/crossgrainlaw3.CacheLeads", spec := "cacheLeads", unfollowed := true, recurses := true, plainKeys := false, apart := false, narrowed := true }
def CacheLeadsUptoSaid : Prop := cacheLeadsUptoRow.holds Try.pinned (OpenSpec.upto cacheLeadsSpec)

end Rows
end Go.Proofs.Ytkgbjpdoigdjnab
