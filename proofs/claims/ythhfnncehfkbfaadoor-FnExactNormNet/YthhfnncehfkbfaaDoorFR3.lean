/- From what a row says of memory to what the walks ask: ladders. -/
import Derived.Test.YthhfnncehfkbfaaDoorFR0
import Derived.Test.YthhfnncehfkbfaaDoorGT
import Derived.Test.YthhfnncehfkbfaaDoorGM
namespace Go.Proofs.YthhfnncehfkbfaaDoor
open Go.ChangeShapes Go.WideShapes Go.ChangeAt Go.RowKit
theorem open_fuel {H : Type} {enc : TypeId × Value → H} {P : Program} {W : World} {base : Nat} {spare : Nat → Bool} {held : Bool} {t e : TypeId} {fuel : Nat} {cs : List Value} {x : DataW H × List MemPlace} (ht : P.underlying t = some (.slice e)) (h : DataW.trod enc P W base spare held fuel t cs = some x) :
    cs = [.slice none 0 0] ∨ ∃ (a : Addr) (len cap n : Nat), n < fuel ∧ cs = [.slice (some a) len cap] ∧ len ≤ maxLen ∧
      ∀ i, i < len → ∃ cs' y, W.cells? base (a.add (i * P.cellsOf e)) (P.cellsOf e) = some cs' ∧ DataW.trod enc P W base spare held n e cs' = some y := by
  rcases DataW.trod_slice ht h with h0 | ⟨a, len, cap, elems, rest, n, hn, hcs, _, _, hl, hm, hlen, hel, _, _⟩
  · exact Or.inl h0.1
  · refine Or.inr ⟨a, len, cap, n, by omega, hcs, by omega, fun i hi => ?_⟩
    have h1 := hel i hi
    rw [List.getElem?_eq_getElem (by omega)] at h1
    obtain ⟨cs', h2, h3⟩ := Option.bind_eq_some_iff.1 h1
    exact ⟨cs', _, h2, h3⟩
theorem row_of_trod {α : Type} [Inhabited α] {H : Type} {enc : TypeId × Value → H} {W : World} {fuel : Nat} {t e : TypeId} {v : Value} {x : DataW H × List MemPlace} (c : Nat) (Q : α → Nat → Nat → Prop) (ht : Tryd.prog.underlying t = some (.slice e)) (hc : Tryd.prog.cellsOf e = c) (hc0 : 0 < c)
    (each : ∀ n, n < fuel → ∀ cs y, cs.length = c → DataW.trod enc Tryd.prog W 0 (fun _ => true) true n e cs = some y → ∃ z : α, ∀ b o, (∀ j u, cs[j]? = some u → W.cell? ⟨b, o + j, none⟩ = some u) → Q z b o)
    (h : DataW.trod enc Tryd.prog W 0 (fun _ => true) true fuel t [v] = some x) :
    ∃ l : List α, (∃ a cap, v = .slice a l.length cap ∧ ∀ i (h : i < l.length), ∃ b o, a = some ⟨b, o, none⟩ ∧ b < W.heap.size ∧ Q l[i] b (o + i * c)) ∧ l.length ≤ maxLen := by
  rcases open_fuel ht h with hv | ⟨a, len, cap, n, hn, hv, hm, hx⟩
  · obtain rfl : v = .slice none 0 0 := by simpa using hv
    exact ⟨[], ⟨none, 0, rfl, fun i h => absurd h (by simp)⟩, by simp⟩
  · obtain rfl : v = .slice (some a) len cap := by simpa using hv
    have hspot : 0 < len → a.spot = none := by
      intro h0
      obtain ⟨cs', y, h1, h2⟩ := hx 0 h0
      rw [hc] at h1
      obtain ⟨_, hlen, hcell⟩ := World.cells?_some h1
      have h3 := hcell 0 hc0
      rw [List.getElem?_eq_getElem (by omega)] at h3
      have := World.cell?_spot h3
      simpa [Addr.add] using this
    have ea : ∀ i, i < len → ∃ z : α, a.block < W.heap.size ∧ Q z a.block (a.off + i * c) := by
      intro i hi
      obtain ⟨cs', y, h1, h2⟩ := hx i hi
      rw [hc] at h1
      obtain ⟨_, hlen, hcell⟩ := World.cells?_some h1
      obtain ⟨z, hz⟩ := each n hn cs' y hlen h2
      have h0 := hcell 0 hc0
      rw [List.getElem?_eq_getElem (by omega)] at h0
      have hsp := hspot (by omega)
      obtain ⟨b, o, sp⟩ := a
      simp only at hsp
      subst hsp
      rw [Addr.add_lit, Addr.add_lit] at h0
      refine ⟨z, lt_of_cell h0, hz _ _ (fun j u hu => ?_)⟩
      have hj : j < c := by
        have := (List.getElem?_eq_some_iff.1 hu).1
        omega
      have := hcell j hj
      rw [Addr.add_lit, Addr.add_lit] at this
      rw [this]; exact hu
    obtain ⟨f, hf⟩ := Deep.choose_lt ea
    refine ⟨(List.range len).map f, ⟨some a, cap, by simp, fun i hi => ?_⟩, by simpa using hm⟩
    have hi' : i < len := by simpa using hi
    obtain ⟨h2, h3⟩ := hf i hi'
    have h1 := hspot (by omega)
    obtain ⟨b, o, sp⟩ := a
    simp only at h1
    subst h1
    refine ⟨b, o, rfl, h2, ?_⟩
    simpa using h3
theorem cElem : Tryd.prog.cellsOf 24 = 2 := by kernel_rfl
theorem cNet : Tryd.prog.cellsOf 27 = 4 := by kernel_rfl
theorem cNets : Tryd.prog.cellsOf 25 = 1 := by kernel_rfl
theorem cDevs : Tryd.prog.cellsOf 22 = 1 := by kernel_rfl
theorem elem_of_trod {H : Type} {enc : TypeId × Value → H} {W : World} {fuel : Nat} {u0 u1 : Value} {x : DataW H × List MemPlace} (h : DataW.trod enc Tryd.prog W 0 (fun _ => true) true fuel 24 [u0, u1] = some x) :
    ∃ e : Stil.Elem, u0 = .int .i64 e.op ∧ DevsAt W u1 e.args ∧ e.wf := by
  obtain ⟨xs, n, _, _, _, hl, hf⟩ := DataW.trod_struct Tryd.underlying24 h
  match xs, hl with
  | [y0, y1], _ =>
    have t0 : DataW.trod enc Tryd.prog W 0 (fun _ => true) true n 3 (List.take (Tryd.prog.cellsOf 3) (List.drop 0 [u0, u1])) = some y0 := hf 0 _ rfl
    have t1 : DataW.trod enc Tryd.prog W 0 (fun _ => true) true n 22 (List.take (Tryd.prog.cellsOf 22) (List.drop 1 [u0, u1])) = some y1 := hf 1 _ rfl
    rw [cInt] at t0
    rw [cDevs] at t1
    obtain ⟨op, hop, _, hw⟩ := DataW.trod_int Tryd.underlying3 t0
    obtain rfl : u0 = .int .i64 op := by simpa using hop
    obtain ⟨ds, hd, hfit, hlen⟩ := devs_of_trod (v := u1) t1
    exact ⟨⟨op, ds⟩, rfl, hd, wf_i64 hw, Nat.le_trans hlen (by decide), hfit⟩
theorem nets_of_trod {H : Type} {enc : TypeId × Value → H} {W : World} : ∀ (fuel : Nat) (v : Value) (x : DataW H × List MemPlace), DataW.trod enc Tryd.prog W 0 (fun _ => true) true fuel 25 [v] = some x →
    ∃ ns : List Stil.Net, NetsAt W v ns ∧ (∀ n ∈ ns, Stil.netWf n) ∧ ns.length ≤ 9223372036854775807 := by
  intro fuel
  induction fuel using Nat.strongRecOn with
  | _ fuel ih =>
    intro v x h
    haveI : Inhabited Stil.Net := ⟨⟨0, ⟨0, []⟩, []⟩⟩
    obtain ⟨l, ⟨a, cap, hv, hl⟩, hlen⟩ := row_of_trod 4 (fun (z : Stil.Net) b o => NetAt W b o z ∧ Stil.netWf z) Tryd.underlying25 cNet (by omega) (by
      intro n hn cs y hcs ht
      match cs, hcs with
      | [u0, u1, u2, u3], _ =>
        obtain ⟨xs, n', hn', _, _, hl, hf⟩ := DataW.trod_struct Tryd.underlying27 ht
        match xs, hl with
        | [y0, y1, y2], _ =>
          have t0 : DataW.trod enc Tryd.prog W 0 (fun _ => true) true n' 3 (List.take (Tryd.prog.cellsOf 3) (List.drop 0 [u0, u1, u2, u3])) = some y0 := hf 0 _ rfl
          have t1 : DataW.trod enc Tryd.prog W 0 (fun _ => true) true n' 24 (List.take (Tryd.prog.cellsOf 24) (List.drop 1 [u0, u1, u2, u3])) = some y1 := hf 1 _ rfl
          have t2 : DataW.trod enc Tryd.prog W 0 (fun _ => true) true n' 25 (List.take (Tryd.prog.cellsOf 25) (List.drop 3 [u0, u1, u2, u3])) = some y2 := hf 2 _ rfl
          rw [cInt] at t0
          rw [cElem] at t1
          rw [cNets] at t2
          obtain ⟨k, hk, _, hw⟩ := DataW.trod_int Tryd.underlying3 t0
          obtain rfl : u0 = .int .i64 k := by simpa using hk
          obtain ⟨e, he, hd, hef⟩ := elem_of_trod (u0 := u1) (u1 := u2) t1
          obtain ⟨ks, hks, hkf, hkl⟩ := ih n' (by omega) u3 y2 t2
          refine ⟨⟨k, e, ks⟩, fun b o hc => ⟨(NetAt_iff _ _ _ _ _ _).2 ⟨hc 0 _ rfl, ?_, ⟨u2, hc 2 _ rfl, hd⟩, u3, hc 3 _ rfl, hks⟩, (Stil.netWf_eq _ _ _).2 ⟨wf_i64 hw, hef, hkl, hkf⟩⟩⟩
          rw [← he]; exact hc 1 _ rfl) h
    refine ⟨l, ⟨a, cap, hv, fun i hi => ?_⟩, fun e he => ?_, Nat.le_trans hlen (by decide)⟩
    · obtain ⟨b, o, h1, h2, h3, _⟩ := hl i hi
      exact ⟨b, o, h1, h2, h3⟩
    · obtain ⟨i, hi, rfl⟩ := List.getElem_of_mem he
      obtain ⟨b, o, h1, h2, _, h3⟩ := hl i hi
      exact h3
theorem net_of_trod {H : Type} {enc : TypeId × Value → H} {W : World} {n : Nat} {u0 u1 u2 u3 : Value} {y : DataW H × List MemPlace} (ht : DataW.trod enc Tryd.prog W 0 (fun _ => true) true n 27 [u0, u1, u2, u3] = some y) :
    ∃ nt : Stil.Net, u0 = .int .i64 nt.kind ∧ u1 = .int .i64 nt.one.op ∧ DevsAt W u2 nt.one.args ∧ NetsAt W u3 nt.kids ∧ Stil.netWf nt := by
  obtain ⟨xs, n', hn', _, _, hl, hf⟩ := DataW.trod_struct Tryd.underlying27 ht
  match xs, hl with
  | [y0, y1, y2], _ =>
    have t0 : DataW.trod enc Tryd.prog W 0 (fun _ => true) true n' 3 (List.take (Tryd.prog.cellsOf 3) (List.drop 0 [u0, u1, u2, u3])) = some y0 := hf 0 _ rfl
    have t1 : DataW.trod enc Tryd.prog W 0 (fun _ => true) true n' 24 (List.take (Tryd.prog.cellsOf 24) (List.drop 1 [u0, u1, u2, u3])) = some y1 := hf 1 _ rfl
    have t2 : DataW.trod enc Tryd.prog W 0 (fun _ => true) true n' 25 (List.take (Tryd.prog.cellsOf 25) (List.drop 3 [u0, u1, u2, u3])) = some y2 := hf 2 _ rfl
    rw [cInt] at t0
    rw [cElem] at t1
    rw [cNets] at t2
    obtain ⟨k, hk, _, hw⟩ := DataW.trod_int Tryd.underlying3 t0
    obtain rfl : u0 = .int .i64 k := by simpa using hk
    obtain ⟨e, he, hd, hef⟩ := elem_of_trod (u0 := u1) (u1 := u2) t1
    obtain ⟨ks, hks, hkf, hkl⟩ := nets_of_trod n' u3 y2 t2
    exact ⟨⟨k, e, ks⟩, rfl, he, hd, hks, (Stil.netWf_eq _ _ _).2 ⟨wf_i64 hw, hef, hkl, hkf⟩⟩
end Go.Proofs.YthhfnncehfkbfaaDoor
