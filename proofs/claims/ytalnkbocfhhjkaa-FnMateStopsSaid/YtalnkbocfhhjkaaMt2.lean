/-
  A want looked at alone, both sides' parts. Made by mkmt2.py.
-/
import Derived.Test.YtalnkbocfhhjkaaMt1
namespace Go.Proofs.Ytalnkbocfhhjkaa
open Go.RowKit

/-- the ticks of a want -/
def tkB (x : Wnt) : Bool := inR x.pull 0 100 && inR x.start 0 100 && inR x.dies 0 100 && inR x.grace 0 100

theorem wnB_parts (x : Wnt) : wnB x = (nmB x.copy && (inR x.version 1 1000000 && ((x.hold.toList == [] || hdB x.hold) && tkB x))) := by
  unfold wnB tkB
  simp only [Bool.and_assoc]

end Go.Proofs.Ytalnkbocfhhjkaa
