/- The specification's chapter 4: the normal form of one net: a NetNot. -/
import Derived.Test.YtenoanhonjdpjaaGreatDoorY6a
import Derived.Test.YtenoanhonjdpjaaGreatDoorGk
namespace Go.Proofs.YtenoanhonjdpjaaGreatDoor
open Go.RowKit Go.Sort Go.BigFrame
theorem MOwn.set4 {w : World} {base b o1 o2 o3 o4 : Nat} {m : MNet} {u1 u2 u3 u4 : Value} (h : MOwn w base m) (hb : b < base) : MOwn ((((w.setCell ⟨b, o1, none⟩ u1).setCell ⟨b, o2, none⟩ u2).setCell ⟨b, o3, none⟩ u3).setCell ⟨b, o4, none⟩ u4) base m := ⟨h.1.set4 hb, h.2⟩
end Go.Proofs.YtenoanhonjdpjaaGreatDoor
