/- A net that was answered: what is known of it, kept behind marks elsewhere. -/
import Derived.Test.YthhfnncehfkbfaaDoorY3b
import Derived.Test.YthhfnncehfkbfaaDoorY5
import Derived.Test.YthhfnncehfkbfaaDoorM8b
namespace Stil
theorem norm_fits (n : Net) : netFits n → netSize n ≤ 1048576 → netFits (normNet n) := by
  refine net_ind (fun n => netFits n → netSize n ≤ 1048576 → netFits (normNet n)) ?_ n
  intro k e kids ih hf hs
  obtain ⟨hk, he, hl, hkids⟩ := (netFits_eq _ _ _).1 hf
  obtain ⟨hs1, hs2⟩ := kids_sizes hs
  have hm : ∀ x ∈ kids.map normNet, netFits x := by
    intro x hx
    obtain ⟨y, hy, rfl⟩ := List.mem_map.1 hx
    exact ih y hy (hkids y hy) (hs2 y hy)
  rw [normNet_eq]
  split
  · have hF : ∀ x ∈ flatKids k (kids.map normNet), netFits x := by
      intro x hx
      obtain ⟨y, hy, hx⟩ := List.mem_flatMap.1 hx
      have hfy := hm y hy
      split at hx
      · exact (netFits_parts hfy).2.2.2 x hx
      · rw [List.mem_singleton.1 hx]; exact hfy
    have hFl : (flatKids k (kids.map normNet)).length ≤ 1048576 := by
      have h1 := len_sizes (flatKids k (kids.map normNet))
      have h2 := flatKids_sizes k (kids.map normNet)
      omega
    unfold blockOf
    split
    · exact hF _ (List.getElem_mem _)
    · rw [netFits_eq]
      exact ⟨hk, ⟨⟨by simp, by simp⟩, by simp, (fun d hd => by cases hd)⟩, hFl, hF⟩
  · rw [netFits_eq]
    exact ⟨hk, he, by simpa using hl, hm⟩
theorem normTop_fits {n : Net} (h : netFits n) : netFits (normTop n) ∧ netSize (normTop n) ≤ 401 := by
  unfold normTop
  split
  · refine ⟨?_, by rw [netSize_eq]; simp⟩
    rw [netFits_eq]
    exact ⟨⟨by simp, by simp⟩, ⟨⟨by simp, by simp⟩, by simp, (fun d hd => by cases hd)⟩, by simp, (fun x hx => by cases hx)⟩
  · rename_i h2
    have h3 := normNet_size n
    exact ⟨norm_fits n h (by omega), by omega⟩
end Stil
namespace Go.Proofs.YthhfnncehfkbfaaDoor
open Go.RowKit Go.Sort Go.BigFrame
theorem MNet.rows_vals (y : MNet) : ∀ v ∈ y.rows, v ∈ y.vals := by
  refine mnet_ind (fun y => ∀ v ∈ y.rows, v ∈ y.vals) ?_ y
  intro k' op' ds' av' kv' kids' ih' v hv
  rw [MNet.rows_eq] at hv
  rw [MNet.vals_eq]
  rcases List.mem_cons.1 hv with hv | hv
  · simp [hv]
  · obtain ⟨l, hl, hv⟩ := List.mem_flatten.1 hv
    obtain ⟨x, hx, rfl⟩ := List.mem_map.1 hl
    exact List.mem_cons_of_mem _ (List.mem_cons_of_mem _ (mem_mVals.2 ⟨x, hx, ih' x hx v hv⟩))
/-- An answered net: how it lies, its places, what it holds. -/
def NetPk (base : Nat) (w : World) (T : Stil.Net) (a1 : Option Addr) (c1 : Nat) (a2 : Option Addr) (c2 : Nat) (m : MNet) : Prop :=
  (∃ ms : List MNet, ms.length = T.kids.length ∧ m = ⟨T.kind, T.one.op, T.one.args, .slice a1 T.one.args.length c1, .slice a2 T.kids.length c2, ms⟩) ∧ MSh (heads m.rows) w m ∧ NumsAt w m.inner ∧ m.inner.Nodup ∧ (∀ p ∈ m.inner, base ≤ p.1) ∧ (∀ p ∈ m.inner, ¬ heads m.rows p) ∧
  (∀ p, heads m.rows p → base ≤ p.1) ∧ DevsFrom base w (.slice a1 T.one.args.length c1) T.one.args ∧ NetsFrom base w (.slice a2 T.kids.length c2) T.kids ∧ (Stil.netFits T → m.inner.length + 2 ≤ Stil.netSize T * 3145730)
theorem NetRet.pk {w : World} {base : Nat} {T : Stil.Net} {e : Ending} (h : NetRet w base T e) : ∃ (a1 : Option Addr) (c1 : Nat) (a2 : Option Addr) (c2 : Nat) (m : MNet), e = .returned (.agg #[.int .i64 T.kind, .int .i64 T.one.op, .slice a1 T.one.args.length c1, .slice a2 T.kids.length c2]) ∧ NetPk base w T a1 c1 a2 c2 m := by
  obtain ⟨k, op, ds, a1, c1, a2, c2, ms, he, hmo, hn⟩ := h
  have hT : T = ⟨k, ⟨op, ds⟩, ms.map MNet.net⟩ := by rw [← hn, MNet.net_eq]
  obtain ⟨p1, p2, p3, p4, p5⟩ := MNet.places _ hmo
  obtain ⟨f1, f2⟩ := MOk.from _ hmo.1
  have hct := MNet.count ⟨k, op, ds, .slice a1 ds.length c1, .slice a2 ms.length c2, ms⟩
  rw [hn] at f1 f2 hct
  have e1 : T.kind = k := by rw [hT]
  have e2 : T.one.op = op := by rw [hT]
  have e3 : T.one.args = ds := by rw [hT]
  have e4 : T.kids.length = ms.length := by rw [hT]; simp
  refine ⟨a1, c1, a2, c2, ⟨k, op, ds, .slice a1 ds.length c1, .slice a2 ms.length c2, ms⟩, by rw [e1, e2, e3, e4]; exact he, ⟨ms, e4.symm, by rw [e1, e2, e3, e4]⟩, p1, p2, p3, fun p hp => (p4 p hp).1, p5, fun p hp => ?_, by rw [e3] at f1 ⊢; exact f1, by rw [e4]; exact f2, hct⟩
  obtain ⟨_, v, hv, hb⟩ := hp
  exact (hmo.1.lt _ v (MNet.rows_vals _ v hv) _ hb).1
theorem NetPk.below {base : Nat} {w w' : World} {T : Stil.Net} {a1 : Option Addr} {c1 : Nat} {a2 : Option Addr} {c2 : Nat} {m : MNet} (h : NetPk base w T a1 c1 a2 c2 m) (hb : Below w.heap.size w w') : NetPk base w' T a1 c1 a2 c2 m := by
  obtain ⟨h0, h1, h2, h3, h4, h5, h6, h7, h8, h9⟩ := h
  exact ⟨h0, h1.below hb, h2.below hb, h3, h4, h5, h6, h7.keep (KeepsUp.of_below hb), h8.keep (KeepsUp.of_below hb), h9⟩
theorem NetPk.mono {base lo : Nat} {w : World} {T : Stil.Net} {a1 : Option Addr} {c1 : Nat} {a2 : Option Addr} {c2 : Nat} {m : MNet} (h : NetPk base w T a1 c1 a2 c2 m) (hl : lo ≤ base) : NetPk lo w T a1 c1 a2 c2 m := by
  obtain ⟨h0, h1, h2, h3, h4, h5, h6, h7, h8, h9⟩ := h
  exact ⟨h0, h1, h2, h3, fun p hp => Nat.le_trans hl (h4 p hp), h5, fun p hp => Nat.le_trans hl (h6 p hp), h7.mono hl, h8.mono hl, h9⟩
theorem NetPk.marked {base : Nat} {w w' : World} {T : Stil.Net} {a1 : Option Addr} {c1 : Nat} {a2 : Option Addr} {c2 : Nat} {m : MNet} {ps : List Pl} {k : Int} (h : NetPk base w T a1 c1 a2 c2 m) (hm : Marked w w' ps k) (hp : ∀ p ∈ ps, p.1 < base) : NetPk base w' T a1 c1 a2 c2 m := by
  obtain ⟨h0, h1, h2, h3, h4, h5, h6, h7, h8, h9⟩ := h
  have hk : KeepsUp base w w' := ⟨hm.1, fun b o hb hz => hm.2.1 (b, o) hz (fun h => by have := hp _ h; simp only at this; omega)⟩
  exact ⟨h0, h1.marked hm (fun p hp1 hq => by have := hp p hp1; have := h6 p hq; omega), h2.marked hm (fun p hp1 hp2 => by have := hp p hp2; have := h4 p hp1; omega), h3, h4, h5, h6, h7.keep hk, h8.keep hk, h9⟩
theorem NetPk.lt {base : Nat} {w : World} {T : Stil.Net} {a1 : Option Addr} {c1 : Nat} {a2 : Option Addr} {c2 : Nat} {m : MNet} (h : NetPk base w T a1 c1 a2 c2 m) : ∀ p ∈ m.inner, p.1 < w.heap.size := fun p hp => (h.2.2.1 p hp).1
/-- The marks of an answered net. -/
theorem NetPk.mark {base : Nat} {w : World} {T : Stil.Net} {a1 : Option Addr} {c1 : Nat} {a2 : Option Addr} {c2 : Nat} {m : MNet} (h : NetPk base w T a1 c1 a2 c2 m) (hf : Stil.netFits T) (hs : Stil.netSize T ≤ 1048577) :
    Calls Tryd.prog 9 #[.agg #[.int .i64 T.kind, .int .i64 T.one.op, .slice a1 T.one.args.length c1, .slice a2 T.kids.length c2], .int .i64 1] w fun e w' => e = .returned (.int .i64 (1 + m.inner.length)) ∧ Marked w w' m.inner 1 := by
  obtain ⟨⟨ms, hl, he⟩, h1, h2, h3, h4, h5, _, _, _, h9⟩ := h
  have h10 := h9 hf
  have h11 := Nat.mul_le_mul_right 3145730 hs
  rw [← hl] at he ⊢
  exact p_markNet (heads m.rows) T.kind T.one.op T.one.args a1 c1 a2 c2 ms 1 w m he h1 h2 h3 h5 (by omega) (by omega)
theorem NetPk.held {base : Nat} {w w' W : World} {T : Stil.Net} {a1 : Option Addr} {c1 : Nat} {a2 : Option Addr} {c2 : Nat} {m : MNet} (h : NetPk base w T a1 c1 a2 c2 m) (hm : Marked w w' m.inner 1) (hW : Below w'.heap.size w' W) (hf : Stil.netFits T) (hs : Stil.netSize T ≤ 1048577) :
    Calls Tryd.prog 10 #[.agg #[.int .i64 T.kind, .int .i64 T.one.op, .slice a1 T.one.args.length c1, .slice a2 T.kids.length c2], .int .i64 1] W fun e w' => e = .returned (.int .i64 (1 + m.inner.length)) ∧ Below W.heap.size W w' := by
  have hlt := h.lt
  obtain ⟨⟨ms, hl, he⟩, h1, h2, h3, h4, h5, _, _, _, h9⟩ := h
  have h10 := h9 hf
  have h11 := Nat.mul_le_mul_right 3145730 hs
  have hlt2 : ∀ p ∈ m.inner, p.1 < w'.heap.size := fun p hp => Nat.lt_of_lt_of_le (hlt p hp) hm.1
  rw [← hl] at he ⊢
  exact p_heldNet (heads m.rows) T.kind T.one.op T.one.args a1 c1 a2 c2 ms 1 W m he ((h1.marked hm h5).below hW) (hm.held.below hW hlt2) (fun p hp => Nat.lt_of_lt_of_le (hlt2 p hp) hW.size) (by omega) (by omega)
end Go.Proofs.YthhfnncehfkbfaaDoor
