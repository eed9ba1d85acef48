/-
  No cell of these rows narrows 'for every input' (looked for: loops, veiled, ifaces, maps, wideKeys, modest, calm, conditions, laid).
  DERIVED. THE GIVEN ROWS OF THIS SEAT. 3 by the template 'for every input the law returns true; each argument reads behind the call as it read before'; 0 by the template 'total and deterministic' (their statements: YtmclbfkcbadnpaaGreatTotals.lean).
  GIVEN WITH THE SEED: the statements are not yours to turn. If you find one false, say at which input.
  Laid BY PROGRAM, IN A SANDBOX (cutbox-rows.mjs): the forced cells as the released guide's own fill.sh prints them over the translation a19f8b695565705e… (all of the seat's roots in one cut). By AI agents, Wed Nov 11 2026. No macro, syntax, notation, axiom, sorry.
-/
import Derived.Test.YtmclbfkcbadnpaaGreatChecked
import GoSem.Claim
import GoSem.ClaimJoined
import GoSem.ClaimMapViews
import Derived.JoinedTies
import Derived.KernelRfl
namespace Go.Proofs.YtmclbfkcbadnpaaGreat
/- THE CELL 'sum', in the pinned program and in every row, IS THE sha256 OF THE DUMP (.gsa) THAT YtmclbfkcbadnpaaGreatProg.lean LOADS. Nothing in Lean hashes anything: it is a label: what it is worth is what the hold of that sum in a sandbox is worth. -/
noncomputable def Tryz.pinned : Pinned := { name := "ytmclbfkcbadnpaagreat", sum := "a19f8b695565705e3425e490671eedcb16f48f75fce5fcdc7fd65f99d781997c", checked := Tryz.checked }
namespace Rows
def none {H : Type} : Left H := { results := [], args := [] }

/-- 'laws.FnExactPilotFits': WHATEVER THE INPUT: true; the input reads as it did. -/
def fnExactPilotFitsSpec : ChangeSpec := { name := "fnExactPilotFits", fn := fun _ => fun
  | [d1, d2, d3] => { results := [.lit (.bool true)], args := [d1, d2, d3] }
  | _ => none }
def fnExactPilotFitsRow : OpenClaim := { program := "ytmclbfkcbadnpaagreat", sum := "a19f8b695565705e3425e490671eedcb16f48f75fce5fcdc7fd65f99d781997c", func := "loop.example/wharffleet/laws.FnExactPilotFits", spec := "fnExactPilotFits", inPlace := ["internal/bytealg.IndexByteString", "internal/bytealg.IndexString", "slices.overlaps[loop.example/wharffleet/impl.pilotReason]"], unfollowed := true, recurses := true, named := ["internal/bytealg.MaxLen"], plainKeys := false, apart := false }
def FnExactPilotFitsSaid : Prop := fnExactPilotFitsRow.holds Tryz.pinned (OpenSpec.ofChange fnExactPilotFitsSpec)

/-- ITS FALSE NEIGHBOUR: 'it returns false'. Refute it at one input. -/
def fnExactPilotFitsWrong : ChangeSpec := { name := "fnExactPilotFits", fn := fun _ => fun
  | [d1, d2, d3] => { results := [.lit (.bool false)], args := [d1, d2, d3] }
  | _ => none }
def FnExactPilotFitsWrongFalsely : Prop := fnExactPilotFitsRow.holds Tryz.pinned (OpenSpec.ofChange fnExactPilotFitsWrong)

/-- 'laws.FnExactPilotRight': WHATEVER THE INPUT: true; the input reads as it did. -/
def fnExactPilotRightSpec : ChangeSpec := { name := "fnExactPilotRight", fn := fun _ => fun
  | [d] => { results := [.lit (.bool true)], args := [d] }
  | _ => none }
def fnExactPilotRightRow : OpenClaim := { program := "ytmclbfkcbadnpaagreat", sum := "a19f8b695565705e3425e490671eedcb16f48f75fce5fcdc7fd65f99d781997c", func := "loop.example/wharffleet/laws.FnExactPilotRight", spec := "fnExactPilotRight", inPlace := ["internal/bytealg.IndexByteString", "internal/bytealg.IndexString"], unfollowed := true, recurses := true, named := ["internal/bytealg.MaxLen"], plainKeys := false, apart := false }
def FnExactPilotRightSaid : Prop := fnExactPilotRightRow.holds Tryz.pinned (OpenSpec.ofChange fnExactPilotRightSpec)

/-- ITS FALSE NEIGHBOUR: 'it returns false'. Refute it at one input. -/
def fnExactPilotRightWrong : ChangeSpec := { name := "fnExactPilotRight", fn := fun _ => fun
  | [d] => { results := [.lit (.bool false)], args := [d] }
  | _ => none }
def FnExactPilotRightWrongFalsely : Prop := fnExactPilotRightRow.holds Tryz.pinned (OpenSpec.ofChange fnExactPilotRightWrong)

/-- 'laws.FnExactPilotChoose': WHATEVER THE INPUT: true; the input reads as it did. -/
def fnExactPilotChooseSpec : ChangeSpec := { name := "fnExactPilotChoose", fn := fun _ => fun
  | [d1, d2] => { results := [.lit (.bool true)], args := [d1, d2] }
  | _ => none }
def fnExactPilotChooseRow : OpenClaim := { program := "ytmclbfkcbadnpaagreat", sum := "a19f8b695565705e3425e490671eedcb16f48f75fce5fcdc7fd65f99d781997c", func := "loop.example/wharffleet/laws.FnExactPilotChoose", spec := "fnExactPilotChoose", inPlace := ["internal/bytealg.IndexByteString", "internal/bytealg.IndexString", "slices.overlaps[loop.example/wharffleet/impl.pilotReason]"], unfollowed := true, recurses := true, named := ["internal/bytealg.MaxLen"], plainKeys := false, apart := false }
def FnExactPilotChooseSaid : Prop := fnExactPilotChooseRow.holds Tryz.pinned (OpenSpec.ofChange fnExactPilotChooseSpec)

/-- ITS FALSE NEIGHBOUR: 'it returns false'. Refute it at one input. -/
def fnExactPilotChooseWrong : ChangeSpec := { name := "fnExactPilotChoose", fn := fun _ => fun
  | [d1, d2] => { results := [.lit (.bool false)], args := [d1, d2] }
  | _ => none }
def FnExactPilotChooseWrongFalsely : Prop := fnExactPilotChooseRow.holds Tryz.pinned (OpenSpec.ofChange fnExactPilotChooseWrong)

/- THE SECOND FORM. 'bulk': how many values and letters a reading holds, each counted each time it is reached (what is shared counts as often as it is met; a slice's spare places count too). A statement '..UptoSaid' is the law's where the arguments, and the package variables that the reading takes, are together of bulk at most 1048576: NARROWER than '..Said'. Prove '..Said' where nothing that the law and all that it calls make is longer than what came in: it says more and counts as full. Else prove '..UptoSaid'. A law counts once. -/
mutual
def uptoBulk {H : Type} : DataW H → Nat
  | .lit (.string bytes) => bytes.length + 1
  | .lit _ => 1
  | .nil => 1
  | .ptr d => uptoBulk d + 1
  | .slice elems spare => uptoBulkAll elems + uptoBulkAll spare + 1
  | .agg parts => uptoBulkAll parts + 1
  | .iface _ d => uptoBulk d + 1
  | .map entries => uptoBulkEntries entries + 1
  | .held _ => 1
def uptoBulkAll {H : Type} : List (DataW H) → Nat
  | [] => 0
  | d :: r => uptoBulk d + uptoBulkAll r
def uptoBulkEntries {H : Type} : List (Lit × DataW H) → Nat
  | [] => 0
  | x :: r => uptoBulkEntry x + uptoBulkEntries r
def uptoBulkEntry {H : Type} : Lit × DataW H → Nat
  | (.string bytes, d) => bytes.length + uptoBulk d + 1
  | (_, d) => uptoBulk d + 1
 end
def uptoSmall : (H : Type) → List (DataW H) → Bool := fun _ ds => decide (uptoBulkAll ds ≤ 1048576)
def OpenSpec.upto (s : _root_.Go.ChangeSpec) : _root_.Go.OpenSpec := { _root_.Go.OpenSpec.ofChange s with cond := some uptoSmall }

/-- 'laws.FnExactPilotFits', WHERE WHAT IT READS IS OF BULK AT MOST 1048576: true; the input reads as it did. -/
def fnExactPilotFitsUptoRow : OpenClaim := { program := "ytmclbfkcbadnpaagreat", sum := "a19f8b695565705e3425e490671eedcb16f48f75fce5fcdc7fd65f99d781997c", func := "loop.example/wharffleet/laws.FnExactPilotFits", spec := "fnExactPilotFits", inPlace := ["internal/bytealg.IndexByteString", "internal/bytealg.IndexString", "slices.overlaps[loop.example/wharffleet/impl.pilotReason]"], unfollowed := true, recurses := true, named := ["internal/bytealg.MaxLen"], plainKeys := false, apart := false, narrowed := true }
def FnExactPilotFitsUptoSaid : Prop := fnExactPilotFitsUptoRow.holds Tryz.pinned (OpenSpec.upto fnExactPilotFitsSpec)

/-- 'laws.FnExactPilotRight', WHERE WHAT IT READS IS OF BULK AT MOST 1048576: true; the input reads as it did. -/
def fnExactPilotRightUptoRow : OpenClaim := { program := "ytmclbfkcbadnpaagreat", sum := "a19f8b695565705e3425e490671eedcb16f48f75fce5fcdc7fd65f99d781997c", func := "loop.example/wharffleet/laws.FnExactPilotRight", spec := "fnExactPilotRight", inPlace := ["internal/bytealg.IndexByteString", "internal/bytealg.IndexString"], unfollowed := true, recurses := true, named := ["internal/bytealg.MaxLen"], plainKeys := false, apart := false, narrowed := true }
def FnExactPilotRightUptoSaid : Prop := fnExactPilotRightUptoRow.holds Tryz.pinned (OpenSpec.upto fnExactPilotRightSpec)

/-- 'laws.FnExactPilotChoose', WHERE WHAT IT READS IS OF BULK AT MOST 1048576: true; the input reads as it did. -/
def fnExactPilotChooseUptoRow : OpenClaim := { program := "ytmclbfkcbadnpaagreat", sum := "a19f8b695565705e3425e490671eedcb16f48f75fce5fcdc7fd65f99d781997c", func := "loop.example/wharffleet/laws.FnExactPilotChoose", spec := "fnExactPilotChoose", inPlace := ["internal/bytealg.IndexByteString", "internal/bytealg.IndexString", "slices.overlaps[loop.example/wharffleet/impl.pilotReason]"], unfollowed := true, recurses := true, named := ["internal/bytealg.MaxLen"], plainKeys := false, apart := false, narrowed := true }
def FnExactPilotChooseUptoSaid : Prop := fnExactPilotChooseUptoRow.holds Tryz.pinned (OpenSpec.upto fnExactPilotChooseSpec)

end Rows
end Go.Proofs.YtmclbfkcbadnpaaGreat
