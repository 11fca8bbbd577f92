/- The program's chapter 8: one instruction on a stack of nets: ld. -/
import Derived.Test.YtpaljcoojkbhnaaGreatDoorKc
import Derived.Test.YtpaljcoojkbhnaaGreatDoorS20
namespace Go.Proofs.YtpaljcoojkbhnaaGreatDoor
open Go.RowKit Go.Sort Go.BigFrame
/-- A stack of nets that own their memory; no row of theirs lies in a link. -/
structure StackAt (w : World) (base : Nat) (bs : List Nat) (ms : List MNet) (v : Value) : Prop where
 link : LinkAt w bs ms v
 oks : ∀ m ∈ ms, MOk w base m
 apart : (mVals ms).Pairwise Aside
 free : ∀ b ∈ bs, 0 ≤ b ∧ b < w.heap.size ∧ ∀ x ∈ mVals ms, x.ownBlock ≠ some b
theorem StackAt.below {w w' : World} {base : Nat} {bs : List Nat} {ms : List MNet} {v : Value} (h : StackAt w base bs ms v) (hb : Below w.heap.size w w') : StackAt w' base bs ms v :=
 ⟨h.link.below hb, fun m hm => (h.oks m hm).below hb, h.apart, fun b hb2 => ⟨(h.free b hb2).1, Nat.lt_of_lt_of_le (h.free b hb2).2.1 hb.size, (h.free b hb2).2.2⟩⟩
theorem StackAt.low {w : World} {base : Nat} {bs : List Nat} {ms : List MNet} {v : Value} (h : StackAt w base bs ms v) : ∀ x ∈ mVals ms, ∀ q, x.ownBlock = some q → q < w.heap.size := fun x hx q hq => by
 obtain ⟨m, hm, hx⟩ := mem_mVals.1 hx
 exact ((h.oks m hm).lt m x hx q hq).2
/-- What an instruction leaves of a stack. -/
def BehRet (w w' : World) (base : Nat) (st : List Stil.Net) (e : Ending) : Prop := ∃ (b : Nat) (bs : List Nat) (ms : List MNet), e = .returned (.pointer (some ⟨b, 0, none⟩)) ∧ StackAt w' base (b :: bs) ms (.pointer (some ⟨b, 0, none⟩)) ∧ ms.map MNet.net = st ∧ Below base w w'
/-- A net, new on a stack. -/
theorem StackAt.push {w : World} {base : Nat} {bs : List Nat} {ms : List MNet} {v : Value} {m : MNet} {t : TypeId} (h : StackAt w base bs ms v) (hm : MOwn w base m) (hp : (m.vals ++ mVals ms).Pairwise Aside) (hfree : ∀ b ∈ bs, ∀ x ∈ m.vals, x.ownBlock ≠ some b) (_hb : base ≤ w.heap.size) :
  StackAt (w.alloc (.cells #[.int .i64 m.kind, .int .i64 m.op, m.av, m.kv, v] t)) base (w.heap.size :: bs) (m :: ms) (.pointer (some ⟨w.heap.size, 0, none⟩)) := by
 have h2 := h.below (below_alloc w (.cells #[.int .i64 m.kind, .int .i64 m.op, m.av, m.kv, v] t))
 have e : mVals (m :: ms) = m.vals ++ mVals ms := by rw [← mVals_one m, ← mVals_append]; rfl
 refine ⟨⟨rfl, by simp, ⟨by simp [go_sem], by simp [go_sem], by simp [go_sem], by simp [go_sem]⟩, v, by simp [go_sem], h2.link⟩, fun x hx => ?_, by rw [e]; exact hp, fun b hb2 => ?_⟩
 ·rcases List.mem_cons.1 hx with rfl | hx
  ·exact hm.1.below (below_alloc _ _)
  ·exact h2.oks x hx
 ·rcases List.mem_cons.1 hb2 with rfl | hb2
  ·refine ⟨Nat.zero_le _, by simp, fun x hx e2 => ?_⟩
   rw [e] at hx
   rcases List.mem_append.1 hx with hx | hx
   ·have := (hm.1.lt m x hx _ e2).2; omega
   ·have := h.low x hx _ e2; omega
  ·refine ⟨(h2.free b hb2).1, (h2.free b hb2).2.1, fun x hx => ?_⟩
   rw [e] at hx
   rcases List.mem_append.1 hx with hx | hx
   ·exact hfree b hb2 x hx
   ·exact (h2.free b hb2).2.2 x hx
set_option maxHeartbeats 4000000 in
set_option maxRecDepth 100000 in
theorem i_behind1 (i : Stil.Inst) (av : Value) (bs : List Nat) (ms : List MNet) (v : Value) (base : Nat) (w : World) (hst : StackAt w base bs ms v) (hav : DevsAt w av i.one.args) (hf : i.fits) (hcc : i.code = 1) (hbase : base ≤ w.heap.size) :
  Calls Tryz.prog 55 #[v, .agg #[.int .i64 i.code, .int .i64 i.one.op, av]] w fun e w' => BehRet w w' base (Stil.doNet i.code i.one (ms.map MNet.net)) e := by
 have HCP : Hid (∀ W, Below w.heap.size w W → Calls Tryz.prog 87 #[.agg #[.int .i64 i.one.op, av]] W fun r w' => ∃ u, r = .returned (.agg #[.int .i64 i.one.op, u]) ∧ w'.ownsRow W.heap.size 117 3 u i.one.args.length (devsCells i.one.args) ∧ Below W.heap.size W w') := fun W h => i_normElem i.one.op av i.one.args W (hav.below h) hf.2.2.1
 obtain ⟨p0, r0, rfl, -⟩ := hav
 obtain ⟨c, op, ds⟩ := i
 simp only at HCP hcc ⊢
 subst hcc
 have HS : Hid (StackAt w base bs ms v) := hst
 have hvp := hst.link.ptr
 clear hst hf
 go_enter Tryz.func55, Tryz.ntmps55
 go_upto_region 2 with (go_at_call 87; refine (HCP.out _ blA).mono ?_; rintro e w1 ⟨u1, rfl, hown, hb1⟩; obtain ⟨a1, c1, hu⟩ := slice_of_owns hown; subst hu; have HOW : Hid (w1.ownsRow (w.heap.size + 1) 117 3 (.slice a1 ds.length c1) ds.length (devsCells ds)) := (by have h := hown; simp only [World.size_alloc] at h; exact h); clear hown)
 have hB1 : Below w.heap.size w w1 := blA
 have hs1 : w.heap.size < w1.heap.size := by have := hb1.size; simp at this; omega
 obtain ⟨W, hW⟩ : ∃ W, W = w1.alloc (.cells #[.int .i64 1, .int .i64 op, .slice a1 ds.length c1, .slice none 0 0] 29) := ⟨_, rfl⟩
 have hb1W : Below w1.heap.size w1 W := by rw [hW]; exact below_alloc _ _
 have hBW : Below w.heap.size w W := bl_call hB1 hb1W
 have HON : Hid (MOwn W base (oneM op ds a1 c1)) := ((oneM_own HOW.out).le (by omega)).below hb1W
 have HHI : Hid (∀ x ∈ (oneM op ds a1 c1).vals, ∀ q, x.ownBlock = some q → w.heap.size < q) := fun x hx q hq => by
  have := (MOk.lt _ (oneM_own (op := op) HOW.out).1 x hx q hq).1
  omega
 have k0 : W.cell? ⟨w.heap.size, 0, none⟩ = some (.int .i64 1) := by
  rw [hb1W.cell (p := ⟨w.heap.size, 0, none⟩) hs1, hb1.cell (p := ⟨w.heap.size, 0, none⟩) (by simp)]
  simp [go_sem]
 have bx : B4 W w1.heap.size (.int .i64 1) (.int .i64 op) (.slice a1 ds.length c1) (.slice none 0 0) := by rw [hW]; exact box4
 rw [← hW]
 clear hW hb1W hB1 hb1 HOW HCP
 obtain ⟨_, ⟨o0, o1, o2, o3⟩, _⟩ := bx
 have HFI : Hid (∀ t, BehRet w (W.alloc (.cells #[.int .i64 1, .int .i64 op, .slice a1 ds.length c1, .slice none 0 0, v] t)) base (Stil.doNet 1 ⟨op, ds⟩ (ms.map MNet.net)) (.returned (.pointer (some ⟨W.heap.size, 0, none⟩)))) := fun t => by
  have hs := HS.out.below hBW
  have hpu := hs.push (m := oneM op ds a1 c1) (t := t) HON.out (by
   rw [List.pairwise_append]
   refine ⟨HON.out.2, hs.apart, fun x hx y hy => (aside_new (n := w.heap.size) (HS.out.low y hy) (fun q hq => by have := HHI.out x hx q hq; omega)).symm⟩) (fun b hb x hx e => by have := HHI.out x hx _ e; have := (HS.out.free b hb).2.1; omega) (Nat.le_trans hbase hBW.size)
  refine ⟨W.heap.size, bs, oneM op ds a1 c1 :: ms, rfl, hpu, ?_, (bl_alloc hBW _).mono hbase⟩
  rw [List.map_cons, oneM_net]
  rfl
 obtain rfl | ⟨vb, rfl⟩ := hvp
 ·go_wp2
  go_ret
  exact HFI.out _
 ·go_wp2
  go_ret
  exact HFI.out _
end Go.Proofs.YtpaljcoojkbhnaaGreatDoor
