/- A net that was answered: what is known of it, kept behind marks elsewhere. -/
import Derived.Test.YtbllmkmdaenglaaGreatDoorGl
import Derived.Test.YtbllmkmdaenglaaGreatDoorY5
import Derived.Test.YtbllmkmdaenglaaGreatDoorGk
namespace Stil
end Stil
namespace Go.Proofs.YtbllmkmdaenglaaGreatDoor
open Go.RowKit Go.Sort Go.BigFrame
/-- An answered net: how it lies, its places, what it holds. -/
def NetPk (base : Nat) (w : World) (T : Stil.Net) (a1 : Option Addr) (c1 : Nat) (a2 : Option Addr) (c2 : Nat) (m : MNet) : Prop :=
  (∃ ms : List MNet, ms.length = T.kids.length ∧ m = ⟨T.kind, T.one.op, T.one.args, .slice a1 T.one.args.length c1, .slice a2 T.kids.length c2, ms⟩) ∧ MSh (heads m.rows) w m ∧ NumsAt w m.inner ∧ m.inner.Nodup ∧ (∀ p ∈ m.inner, base ≤ p.1) ∧ (∀ p ∈ m.inner, ¬ heads m.rows p) ∧
  (∀ p, heads m.rows p → base ≤ p.1) ∧ DevsFrom base w (.slice a1 T.one.args.length c1) T.one.args ∧ NetsFrom base w (.slice a2 T.kids.length c2) T.kids ∧ (Stil.netFits T → m.inner.length + 2 ≤ Stil.netSize T * 3145730)
theorem NetPk.below {base : Nat} {w w' : World} {T : Stil.Net} {a1 : Option Addr} {c1 : Nat} {a2 : Option Addr} {c2 : Nat} {m : MNet} (h : NetPk base w T a1 c1 a2 c2 m) (hb : Below w.heap.size w w') : NetPk base w' T a1 c1 a2 c2 m := by
  obtain ⟨h0, h1, h2, h3, h4, h5, h6, h7, h8, h9⟩ := h
  exact ⟨h0, h1.below hb, h2.below hb, h3, h4, h5, h6, h7.keep (KeepsUp.of_below hb), h8.keep (KeepsUp.of_below hb), h9⟩
theorem NetPk.mono {base lo : Nat} {w : World} {T : Stil.Net} {a1 : Option Addr} {c1 : Nat} {a2 : Option Addr} {c2 : Nat} {m : MNet} (h : NetPk base w T a1 c1 a2 c2 m) (hl : lo ≤ base) : NetPk lo w T a1 c1 a2 c2 m := by
  obtain ⟨h0, h1, h2, h3, h4, h5, h6, h7, h8, h9⟩ := h
  exact ⟨h0, h1, h2, h3, fun p hp => Nat.le_trans hl (h4 p hp), h5, fun p hp => Nat.le_trans hl (h6 p hp), h7.mono hl, h8.mono hl, h9⟩
theorem NetPk.marked {base : Nat} {w w' : World} {T : Stil.Net} {a1 : Option Addr} {c1 : Nat} {a2 : Option Addr} {c2 : Nat} {m : MNet} {ps : List Pl} {k : Int} (h : NetPk base w T a1 c1 a2 c2 m) (hm : Marked w w' ps k) (hp : ∀ p ∈ ps, p.1 < base) : NetPk base w' T a1 c1 a2 c2 m := by
  obtain ⟨h0, h1, h2, h3, h4, h5, h6, h7, h8, h9⟩ := h
  have hk : KeepsUp base w w' := ⟨hm.1, fun b o hb hz => hm.2.1 (b, o) hz (fun h => by have := hp _ h; simp only at this; omega)⟩
  exact ⟨h0, h1.marked hm (fun p hp1 hq => by have := hp p hp1; have := h6 p hq; omega), h2.marked hm (fun p hp1 hp2 => by have := hp p hp2; have := h4 p hp1; omega), h3, h4, h5, h6, h7.keep hk, h8.keep hk, h9⟩
theorem NetPk.lt {base : Nat} {w : World} {T : Stil.Net} {a1 : Option Addr} {c1 : Nat} {a2 : Option Addr} {c2 : Nat} {m : MNet} (h : NetPk base w T a1 c1 a2 c2 m) : ∀ p ∈ m.inner, p.1 < w.heap.size := fun p hp => (h.2.2.1 p hp).1
end Go.Proofs.YtbllmkmdaenglaaGreatDoor
