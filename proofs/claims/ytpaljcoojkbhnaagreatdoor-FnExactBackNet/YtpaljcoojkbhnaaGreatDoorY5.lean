/- The laws' copies of nets, in memory of their own. -/
import Derived.Test.YtpaljcoojkbhnaaGreatDoorGl
import Derived.Test.YtpaljcoojkbhnaaGreatDoorGL
import Derived.OneCell
namespace Go.Proofs.YtpaljcoojkbhnaaGreatDoor
open Go.RowKit Go.Sort Go.BigFrame
/-- A net is answered that owns its memory. -/
def NetRet (w : World) (base : Nat) (n : Stil.Net) (e : Ending) : Prop := ∃ (k op : Int) (ds : List Stil.Dev) (a1 : Option Addr) (c1 : Nat) (a2 : Option Addr) (c2 : Nat) (ms : List MNet), e = .returned (.agg #[.int .i64 k, .int .i64 op, .slice a1 ds.length c1, .slice a2 ms.length c2]) ∧
  MOwn w base ⟨k, op, ds, .slice a1 ds.length c1, .slice a2 ms.length c2, ms⟩ ∧ (MNet.mk k op ds (.slice a1 ds.length c1) (.slice a2 ms.length c2) ms).net = n
theorem MOk.set {w : World} {base : Nat} {m : MNet} (h : MOk w base m) {a : Addr} (ha : a.block < base) (u : Value) : MOk (w.setCell a u) base m := MOk.map m h (fun _ _ _ _ _ _ ho => ownsRow_setCell_below ho ha u)
theorem MOk.set4 {w : World} {base b o1 o2 o3 o4 : Nat} {m : MNet} {u1 u2 u3 u4 : Value} (h : MOk w base m) (hb : b < base) : MOk ((((w.setCell ⟨b, o1, none⟩ u1).setCell ⟨b, o2, none⟩ u2).setCell ⟨b, o3, none⟩ u3).setCell ⟨b, o4, none⟩ u4) base m :=
  MOk.set (MOk.set (MOk.set (MOk.set h (a := ⟨b, o1, none⟩) hb u1) (a := ⟨b, o2, none⟩) hb u2) (a := ⟨b, o3, none⟩) hb u3) (a := ⟨b, o4, none⟩) hb u4
end Go.Proofs.YtpaljcoojkbhnaaGreatDoor
