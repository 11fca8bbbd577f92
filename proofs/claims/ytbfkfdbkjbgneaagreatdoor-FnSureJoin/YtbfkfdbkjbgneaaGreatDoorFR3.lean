/- From what a row says of memory to what the walks ask: ladders. -/
import Derived.Test.YtbfkfdbkjbgneaaGreatDoorFR0
import Derived.Test.YtbfkfdbkjbgneaaGreatDoorGT
import Derived.Test.YtbfkfdbkjbgneaaGreatDoorGM
namespace Go.Proofs.YtbfkfdbkjbgneaaGreatDoor
open Go.ChangeShapes Go.WideShapes Go.ChangeAt Go.RowKit
theorem open_fuel {H : Type} {enc : TypeId × Value → H} {P : Program} {W : World} {base : Nat} {spare : Nat → Bool} {held : Bool} {t e : TypeId} {fuel : Nat} {cs : List Value} {x : DataW H × List MemPlace} (ht : P.underlying t = some (.slice e)) (h : DataW.trod enc P W base spare held fuel t cs = some x) :
    cs = [.slice none 0 0] ∨ ∃ (a : Addr) (len cap n : Nat), n < fuel ∧ cs = [.slice (some a) len cap] ∧ len ≤ maxLen ∧
      ∀ i, i < len → ∃ cs' y, W.cells? base (a.add (i * P.cellsOf e)) (P.cellsOf e) = some cs' ∧ DataW.trod enc P W base spare held n e cs' = some y := by
  rcases DataW.trod_slice ht h with h0 | ⟨a, len, cap, elems, rest, n, hn, hcs, _, _, hl, hm, hlen, hel, _, _⟩
  · exact Or.inl h0.1
  · refine Or.inr ⟨a, len, cap, n, by omega, hcs, by omega, fun i hi => ?_⟩
    have h1 := hel i hi
    rw [List.getElem?_eq_getElem (by omega)] at h1
    obtain ⟨cs', h2, h3⟩ := Option.bind_eq_some_iff.1 h1
    exact ⟨cs', _, h2, h3⟩
theorem row_of_trod {α : Type} [Inhabited α] {H : Type} {enc : TypeId × Value → H} {W : World} {fuel : Nat} {t e : TypeId} {v : Value} {x : DataW H × List MemPlace} (c : Nat) (Q : α → Nat → Nat → Prop) (ht : Tryz.prog.underlying t = some (.slice e)) (hc : Tryz.prog.cellsOf e = c) (hc0 : 0 < c)
    (each : ∀ n, n < fuel → ∀ cs y, cs.length = c → DataW.trod enc Tryz.prog W 0 (fun _ => true) true n e cs = some y → ∃ z : α, ∀ b o, (∀ j u, cs[j]? = some u → W.cell? ⟨b, o + j, none⟩ = some u) → Q z b o)
    (h : DataW.trod enc Tryz.prog W 0 (fun _ => true) true fuel t [v] = some x) :
    ∃ l : List α, (∃ a cap, v = .slice a l.length cap ∧ ∀ i (h : i < l.length), ∃ b o, a = some ⟨b, o, none⟩ ∧ b < W.heap.size ∧ Q l[i] b (o + i * c)) ∧ l.length ≤ maxLen := by
  rcases open_fuel ht h with hv | ⟨a, len, cap, n, hn, hv, hm, hx⟩
  · obtain rfl : v = .slice none 0 0 := by simpa using hv
    exact ⟨[], ⟨none, 0, rfl, fun i h => absurd h (by simp)⟩, by simp⟩
  · obtain rfl : v = .slice (some a) len cap := by simpa using hv
    have hspot : 0 < len → a.spot = none := by
      intro h0
      obtain ⟨cs', y, h1, h2⟩ := hx 0 h0
      rw [hc] at h1
      obtain ⟨_, hlen, hcell⟩ := World.cells?_some h1
      have h3 := hcell 0 hc0
      rw [List.getElem?_eq_getElem (by omega)] at h3
      have := World.cell?_spot h3
      simpa [Addr.add] using this
    have ea : ∀ i, i < len → ∃ z : α, a.block < W.heap.size ∧ Q z a.block (a.off + i * c) := by
      intro i hi
      obtain ⟨cs', y, h1, h2⟩ := hx i hi
      rw [hc] at h1
      obtain ⟨_, hlen, hcell⟩ := World.cells?_some h1
      obtain ⟨z, hz⟩ := each n hn cs' y hlen h2
      have h0 := hcell 0 hc0
      rw [List.getElem?_eq_getElem (by omega)] at h0
      have hsp := hspot (by omega)
      obtain ⟨b, o, sp⟩ := a
      simp only at hsp
      subst hsp
      rw [Addr.add_lit, Addr.add_lit] at h0
      refine ⟨z, lt_of_cell h0, hz _ _ (fun j u hu => ?_)⟩
      have hj : j < c := by
        have := (List.getElem?_eq_some_iff.1 hu).1
        omega
      have := hcell j hj
      rw [Addr.add_lit, Addr.add_lit] at this
      rw [this]; exact hu
    obtain ⟨f, hf⟩ := Deep.choose_lt ea
    refine ⟨(List.range len).map f, ⟨some a, cap, by simp, fun i hi => ?_⟩, by simpa using hm⟩
    have hi' : i < len := by simpa using hi
    obtain ⟨h2, h3⟩ := hf i hi'
    have h1 := hspot (by omega)
    obtain ⟨b, o, sp⟩ := a
    simp only at h1
    subst h1
    refine ⟨b, o, rfl, h2, ?_⟩
    simpa using h3
end Go.Proofs.YtbfkfdbkjbgneaaGreatDoor
