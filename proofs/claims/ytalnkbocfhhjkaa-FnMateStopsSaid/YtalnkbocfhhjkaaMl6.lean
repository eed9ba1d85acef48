/-
  MateLive of the specification, state by state. Made by mkml6.py.
-/
import Derived.Test.YtalnkbocfhhjkaaMl5
namespace Go.Proofs.Ytalnkbocfhhjkaa
open Go.RowKit

/-- a tick of a run: u: it is unwanted -/
def livS (x : Rn) (u : Bool) (c : Int) : Rn × Bool :=
  if u = true ∧ ¬ x.state = 6 then (if alB x.state = true then ({ x with state := 6, left := x.want.grace }, true) else (noRn, false))
  else if ¬ x.state = 2 ∧ 1 < x.left then ({ x with left := wrap64 (x.left - 1) }, true)
  else if x.state = 3 then ({ x with state := 4, left := x.want.dies }, true)
  else if x.state = 4 then (if x.left = 1 then dyR x else x, true)
  else if x.state = 6 then (noRn, false)
  else if x.state = 1 ∨ x.state = 2 ∨ x.state = 5 then (bgR x c, true)
  else (x, true)

end Go.Proofs.Ytalnkbocfhhjkaa
