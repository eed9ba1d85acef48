/-
  The first to end, by the specification. Made by mksk3.py.
-/
import Derived.Test.YtfbmljdlkgiliaaGreatSk2
namespace Go.Proofs.YtfbmljdlkgiliaaGreat
open Go.RowKit

/-- the first to end of some copies, as far as they were looked at -/
def bestF (x : Sbk) (im : Int) : List Nat → Scp
  | [] => ⟨⟨#[]⟩, 0, 0, 0, 0, false, ⟨#[]⟩⟩
  | i :: r => r.foldl (fun b j => if soonB x (cAt x j) b im = true then cAt x j else b) (cAt x i)

theorem bestF_snoc (x : Sbk) (im : Int) (l : List Nat) (hl : l ≠ []) (j : Nat) : bestF x im (l ++ [j]) = if soonB x (cAt x j) (bestF x im l) im = true then cAt x j else bestF x im l := by
  cases l with
  | nil => exact absurd rfl hl
  | cons i r =>
    show (r ++ [j]).foldl _ _ = _
    rw [List.foldl_append]
    rfl

def firstL (x : Sbk) (im : Int) (l : List Nat) : List Sen := match l with
  | [] => []
  | _ :: _ => [enC (bestF x im l)]

end Go.Proofs.YtfbmljdlkgiliaaGreat
