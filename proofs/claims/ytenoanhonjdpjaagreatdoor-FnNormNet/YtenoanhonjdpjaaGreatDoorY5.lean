/- The laws' copies of nets, in memory of their own. -/
import Derived.Test.YtenoanhonjdpjaaGreatDoorGl
import Derived.Test.YtenoanhonjdpjaaGreatDoorGL
import Derived.OneCell
namespace Go.Proofs.YtenoanhonjdpjaaGreatDoor
open Go.RowKit Go.Sort Go.BigFrame
/-- A net is answered that owns its memory. -/
def NetRet (w : World) (base : Nat) (n : Stil.Net) (e : Ending) : Prop := ∃ (k op : Int) (ds : List Stil.Dev) (a1 : Option Addr) (c1 : Nat) (a2 : Option Addr) (c2 : Nat) (ms : List MNet), e = .returned (.agg #[.int .i64 k, .int .i64 op, .slice a1 ds.length c1, .slice a2 ms.length c2]) ∧
  MOwn w base ⟨k, op, ds, .slice a1 ds.length c1, .slice a2 ms.length c2, ms⟩ ∧ (MNet.mk k op ds (.slice a1 ds.length c1) (.slice a2 ms.length c2) ms).net = n
end Go.Proofs.YtenoanhonjdpjaaGreatDoor
