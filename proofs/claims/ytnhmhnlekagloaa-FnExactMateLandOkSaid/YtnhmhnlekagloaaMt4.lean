/-
  A run looked at alone, both sides. Made by mkmt4.py.
-/
import Derived.Test.YtnhmhnlekagloaaMt3
namespace Go.Proofs.Ytnhmhnlekagloaa
open Go.RowKit

/-- it has its hold for long enough, or needs none -/
def lsB (x : Rn) (c : Int) : Bool := (x.want.hold.toList == []) || decide (wrap64 (c + 4) ≤ x.until_)

/-- so many ticks may be left -/
def tkS (s l : Int) : Bool := inR l 0 100 && (!decide (s = 2) || decide (l = 0))

/-- its lease can be -/
def utB (x : Rn) : Bool := inR x.until_ 0 1000016 && (!(x.want.hold.toList == []) || decide (x.until_ = 0))

/-- a run that is ok -/
def roB (x : Rn) (c : Int) : Bool := wnB x.want && (inR x.state 1 6 && (tkS x.state x.left && (inR x.falls 0 1000 && (utB x && (!alB x.state || lsB x c)))))

end Go.Proofs.Ytnhmhnlekagloaa
