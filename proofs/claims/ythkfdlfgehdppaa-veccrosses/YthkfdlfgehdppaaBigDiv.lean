/- Contracts of the reference's whole numbers of any size: the division of words, for all sizes. -/
import Derived.Test.YthkfdlfgehdppaaBigDiv3
namespace Go.Proofs.Ythkfdlfgehdppaa
open Go.RowKit

theorem div_all (X Y : Int) (h0 : 0 ≤ X) (hY : 0 < Y) : DivOK X Y := by
  rcases Int.lt_or_le X Y with h | h
  · exact div_less X Y h0 h
  · rcases Int.lt_or_le X 18446744073709551616 with h1 | h1
    · exact div_small X Y h0 hY h1
    · rcases Int.lt_or_le Y 4294967296 with h2 | h2
      · exact div_one X Y hY h1 h2
      · exact div_long X Y h2 h h1
theorem div_sizes (x y : Int) (hy : y ≠ 0) : DivOK (absZ x) (absZ y) := div_all _ _ (by unfold absZ; split <;> omega) (by unfold absZ; split <;> omega)

end Go.Proofs.Ythkfdlfgehdppaa
