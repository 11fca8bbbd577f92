/- The specification's chapter 4: the normal form of one net: a contact. -/
import Derived.Test.YtpaljcoojkbhnaaGreatDoorY6a
import Derived.Test.YtpaljcoojkbhnaaGreatDoorGk
namespace Go.Proofs.YtpaljcoojkbhnaaGreatDoor
open Go.RowKit Go.Sort Go.BigFrame
theorem aside_nils (av x : Value) (hx : x ∈ Value.slice none 0 0 :: mVals []) : Aside av x := by
  rcases List.mem_cons.1 hx with rfl | hx
  · exact (aside_nil _).symm
  · cases hx
end Go.Proofs.YtpaljcoojkbhnaaGreatDoor
