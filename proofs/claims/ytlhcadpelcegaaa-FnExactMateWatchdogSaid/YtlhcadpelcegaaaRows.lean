/-
  No cell of these rows narrows 'for every input' (looked for: loops, veiled, ifaces, maps, wideKeys, modest, calm, conditions, laid).
  DERIVED. THE GIVEN ROWS OF THIS SEAT. 5 by the template 'for every input the law returns true; each argument reads behind the call as it read before'; 0 by the template 'total and deterministic' (their statements: YtlhcadpelcegaaaTotals.lean).
  GIVEN WITH THE SEED: the statements are not yours to turn. If you find one false, say at which input.
  Laid BY PROGRAM, IN A SANDBOX (cutbox-rows.mjs): the forced cells as the released guide's own fill.sh prints them over the translation 6fd10f68dcc3aca0… (all of the seat's roots in one cut). By AI agents, Wed Nov 11 2026. No macro, syntax, notation, axiom, sorry.
-/
import Derived.Test.YtlhcadpelcegaaaChecked
import GoSem.Claim
import GoSem.ClaimJoined
import GoSem.ClaimMapViews
import Derived.JoinedTies
import Derived.KernelRfl
namespace Go.Proofs.Ytlhcadpelcegaaa
/- THE CELL 'sum', in the pinned program and in every row, IS THE sha256 OF THE DUMP (.gsa) THAT YtlhcadpelcegaaaProg.lean LOADS. Nothing in Lean hashes anything: it is a label: what it is worth is what the hold of that sum in a sandbox is worth. -/
noncomputable def Try.pinned : Pinned := { name := "ytlhcadpelcegaaa", sum := "6fd10f68dcc3aca096477a2cba259d0f70a1f6d472e7586e1d84ea369fc42042", checked := Try.checked }
namespace Rows
def none {H : Type} : Left H := { results := [], args := [] }

/-- 'laws.FnExactMateWantsOk': WHATEVER THE INPUT: true; the input reads as it did. -/
def fnExactMateWantsOkSpec : ChangeSpec := { name := "fnExactMateWantsOk", fn := fun _ => fun
  | [d] => { results := [.lit (.bool true)], args := [d] }
  | _ => none }
def fnExactMateWantsOkRow : OpenClaim := { program := "ytlhcadpelcegaaa", sum := "6fd10f68dcc3aca096477a2cba259d0f70a1f6d472e7586e1d84ea369fc42042", func := "loop.example/wharffleet/laws.FnExactMateWantsOk", spec := "fnExactMateWantsOk", unfollowed := true, recurses := true, apart := false }
def FnExactMateWantsOkSaid : Prop := fnExactMateWantsOkRow.holds Try.pinned (OpenSpec.ofChange fnExactMateWantsOkSpec)

/-- ITS FALSE NEIGHBOUR: 'it returns false'. Refute it at one input. -/
def fnExactMateWantsOkWrong : ChangeSpec := { name := "fnExactMateWantsOk", fn := fun _ => fun
  | [d] => { results := [.lit (.bool false)], args := [d] }
  | _ => none }
def FnExactMateWantsOkWrongFalsely : Prop := fnExactMateWantsOkRow.holds Try.pinned (OpenSpec.ofChange fnExactMateWantsOkWrong)

/-- 'laws.FnExactMateAlive': WHATEVER THE INPUT: true; the input reads as it did. -/
def fnExactMateAliveSpec : ChangeSpec := { name := "fnExactMateAlive", fn := fun _ => fun
  | [d] => { results := [.lit (.bool true)], args := [d] }
  | _ => none }
def fnExactMateAliveRow : OpenClaim := { program := "ytlhcadpelcegaaa", sum := "6fd10f68dcc3aca096477a2cba259d0f70a1f6d472e7586e1d84ea369fc42042", func := "loop.example/wharffleet/laws.FnExactMateAlive", spec := "fnExactMateAlive", apart := false }
def FnExactMateAliveSaid : Prop := fnExactMateAliveRow.holds Try.pinned (OpenSpec.ofChange fnExactMateAliveSpec)

/-- ITS FALSE NEIGHBOUR: 'it returns false'. Refute it at one input. -/
def fnExactMateAliveWrong : ChangeSpec := { name := "fnExactMateAlive", fn := fun _ => fun
  | [d] => { results := [.lit (.bool false)], args := [d] }
  | _ => none }
def FnExactMateAliveWrongFalsely : Prop := fnExactMateAliveRow.holds Try.pinned (OpenSpec.ofChange fnExactMateAliveWrong)

/-- 'laws.FnExactMateRunsOk': WHATEVER THE INPUT: true; the input reads as it did. -/
def fnExactMateRunsOkSpec : ChangeSpec := { name := "fnExactMateRunsOk", fn := fun _ => fun
  | [d1, d2] => { results := [.lit (.bool true)], args := [d1, d2] }
  | _ => none }
def fnExactMateRunsOkRow : OpenClaim := { program := "ytlhcadpelcegaaa", sum := "6fd10f68dcc3aca096477a2cba259d0f70a1f6d472e7586e1d84ea369fc42042", func := "loop.example/wharffleet/laws.FnExactMateRunsOk", spec := "fnExactMateRunsOk", unfollowed := true, recurses := true, apart := false }
def FnExactMateRunsOkSaid : Prop := fnExactMateRunsOkRow.holds Try.pinned (OpenSpec.ofChange fnExactMateRunsOkSpec)

/-- ITS FALSE NEIGHBOUR: 'it returns false'. Refute it at one input. -/
def fnExactMateRunsOkWrong : ChangeSpec := { name := "fnExactMateRunsOk", fn := fun _ => fun
  | [d1, d2] => { results := [.lit (.bool false)], args := [d1, d2] }
  | _ => none }
def FnExactMateRunsOkWrongFalsely : Prop := fnExactMateRunsOkRow.holds Try.pinned (OpenSpec.ofChange fnExactMateRunsOkWrong)

/-- 'laws.FnExactMateWatchdog': WHATEVER THE INPUT: true; the input reads as it did. -/
def fnExactMateWatchdogSpec : ChangeSpec := { name := "fnExactMateWatchdog", fn := fun _ => fun
  | [d1, d2] => { results := [.lit (.bool true)], args := [d1, d2] }
  | _ => none }
def fnExactMateWatchdogRow : OpenClaim := { program := "ytlhcadpelcegaaa", sum := "6fd10f68dcc3aca096477a2cba259d0f70a1f6d472e7586e1d84ea369fc42042", func := "loop.example/wharffleet/laws.FnExactMateWatchdog", spec := "fnExactMateWatchdog", unfollowed := true, recurses := true, apart := false }
def FnExactMateWatchdogSaid : Prop := fnExactMateWatchdogRow.holds Try.pinned (OpenSpec.ofChange fnExactMateWatchdogSpec)

/-- ITS FALSE NEIGHBOUR: 'it returns false'. Refute it at one input. -/
def fnExactMateWatchdogWrong : ChangeSpec := { name := "fnExactMateWatchdog", fn := fun _ => fun
  | [d1, d2] => { results := [.lit (.bool false)], args := [d1, d2] }
  | _ => none }
def FnExactMateWatchdogWrongFalsely : Prop := fnExactMateWatchdogRow.holds Try.pinned (OpenSpec.ofChange fnExactMateWatchdogWrong)

/-- 'laws.FnExactMateLive': WHATEVER THE INPUT: true; the input reads as it did. -/
def fnExactMateLiveSpec : ChangeSpec := { name := "fnExactMateLive", fn := fun _ => fun
  | [d1, d2, d3, d4] => { results := [.lit (.bool true)], args := [d1, d2, d3, d4] }
  | _ => none }
def fnExactMateLiveRow : OpenClaim := { program := "ytlhcadpelcegaaa", sum := "6fd10f68dcc3aca096477a2cba259d0f70a1f6d472e7586e1d84ea369fc42042", func := "loop.example/wharffleet/laws.FnExactMateLive", spec := "fnExactMateLive", unfollowed := true, recurses := true, apart := false }
def FnExactMateLiveSaid : Prop := fnExactMateLiveRow.holds Try.pinned (OpenSpec.ofChange fnExactMateLiveSpec)

/-- ITS FALSE NEIGHBOUR: 'it returns false'. Refute it at one input. -/
def fnExactMateLiveWrong : ChangeSpec := { name := "fnExactMateLive", fn := fun _ => fun
  | [d1, d2, d3, d4] => { results := [.lit (.bool false)], args := [d1, d2, d3, d4] }
  | _ => none }
def FnExactMateLiveWrongFalsely : Prop := fnExactMateLiveRow.holds Try.pinned (OpenSpec.ofChange fnExactMateLiveWrong)

/- THE SECOND FORM. 'bulk': how many values and letters a reading holds, each counted each time it is reached (what is shared counts as often as it is met; a slice's spare places count too). A statement '..UptoSaid' is the law's where the arguments, and the package variables that the reading takes, are together of bulk at most 1048576: NARROWER than '..Said'. Prove '..Said' where nothing that the law and all that it calls make is longer than what came in: it says more and counts as full. Else prove '..UptoSaid'. A law counts once. -/
mutual
def uptoBulk {H : Type} : DataW H → Nat
  | .lit (.string bytes) => bytes.length + 1
  | .lit _ => 1
  | .nil => 1
  | .ptr d => uptoBulk d + 1
  | .slice elems spare => uptoBulkAll elems + uptoBulkAll spare + 1
  | .agg parts => uptoBulkAll parts + 1
  | .iface _ d => uptoBulk d + 1
  | .map entries => uptoBulkEntries entries + 1
  | .held _ => 1
def uptoBulkAll {H : Type} : List (DataW H) → Nat
  | [] => 0
  | d :: r => uptoBulk d + uptoBulkAll r
def uptoBulkEntries {H : Type} : List (Lit × DataW H) → Nat
  | [] => 0
  | x :: r => uptoBulkEntry x + uptoBulkEntries r
def uptoBulkEntry {H : Type} : Lit × DataW H → Nat
  | (.string bytes, d) => bytes.length + uptoBulk d + 1
  | (_, d) => uptoBulk d + 1
 end
def uptoSmall : (H : Type) → List (DataW H) → Bool := fun _ ds => decide (uptoBulkAll ds ≤ 1048576)
def OpenSpec.upto (s : _root_.Go.ChangeSpec) : _root_.Go.OpenSpec := { _root_.Go.OpenSpec.ofChange s with cond := some uptoSmall }

/-- 'laws.FnExactMateWantsOk', WHERE WHAT IT READS IS OF BULK AT MOST 1048576: true; the input reads as it did. -/
def fnExactMateWantsOkUptoRow : OpenClaim := { program := "ytlhcadpelcegaaa", sum := "6fd10f68dcc3aca096477a2cba259d0f70a1f6d472e7586e1d84ea369fc42042", func := "loop.example/wharffleet/laws.FnExactMateWantsOk", spec := "fnExactMateWantsOk", unfollowed := true, recurses := true, apart := false, narrowed := true }
def FnExactMateWantsOkUptoSaid : Prop := fnExactMateWantsOkUptoRow.holds Try.pinned (OpenSpec.upto fnExactMateWantsOkSpec)

/-- 'laws.FnExactMateAlive', WHERE WHAT IT READS IS OF BULK AT MOST 1048576: true; the input reads as it did. -/
def fnExactMateAliveUptoRow : OpenClaim := { program := "ytlhcadpelcegaaa", sum := "6fd10f68dcc3aca096477a2cba259d0f70a1f6d472e7586e1d84ea369fc42042", func := "loop.example/wharffleet/laws.FnExactMateAlive", spec := "fnExactMateAlive", apart := false, narrowed := true }
def FnExactMateAliveUptoSaid : Prop := fnExactMateAliveUptoRow.holds Try.pinned (OpenSpec.upto fnExactMateAliveSpec)

/-- 'laws.FnExactMateRunsOk', WHERE WHAT IT READS IS OF BULK AT MOST 1048576: true; the input reads as it did. -/
def fnExactMateRunsOkUptoRow : OpenClaim := { program := "ytlhcadpelcegaaa", sum := "6fd10f68dcc3aca096477a2cba259d0f70a1f6d472e7586e1d84ea369fc42042", func := "loop.example/wharffleet/laws.FnExactMateRunsOk", spec := "fnExactMateRunsOk", unfollowed := true, recurses := true, apart := false, narrowed := true }
def FnExactMateRunsOkUptoSaid : Prop := fnExactMateRunsOkUptoRow.holds Try.pinned (OpenSpec.upto fnExactMateRunsOkSpec)

/-- 'laws.FnExactMateWatchdog', WHERE WHAT IT READS IS OF BULK AT MOST 1048576: true; the input reads as it did. -/
def fnExactMateWatchdogUptoRow : OpenClaim := { program := "ytlhcadpelcegaaa", sum := "6fd10f68dcc3aca096477a2cba259d0f70a1f6d472e7586e1d84ea369fc42042", func := "loop.example/wharffleet/laws.FnExactMateWatchdog", spec := "fnExactMateWatchdog", unfollowed := true, recurses := true, apart := false, narrowed := true }
def FnExactMateWatchdogUptoSaid : Prop := fnExactMateWatchdogUptoRow.holds Try.pinned (OpenSpec.upto fnExactMateWatchdogSpec)

/-- 'laws.FnExactMateLive', WHERE WHAT IT READS IS OF BULK AT MOST 1048576: true; the input reads as it did. -/
def fnExactMateLiveUptoRow : OpenClaim := { program := "ytlhcadpelcegaaa", sum := "6fd10f68dcc3aca096477a2cba259d0f70a1f6d472e7586e1d84ea369fc42042", func := "loop.example/wharffleet/laws.FnExactMateLive", spec := "fnExactMateLive", unfollowed := true, recurses := true, apart := false, narrowed := true }
def FnExactMateLiveUptoSaid : Prop := fnExactMateLiveUptoRow.holds Try.pinned (OpenSpec.upto fnExactMateLiveSpec)

end Rows
end Go.Proofs.Ytlhcadpelcegaaa
