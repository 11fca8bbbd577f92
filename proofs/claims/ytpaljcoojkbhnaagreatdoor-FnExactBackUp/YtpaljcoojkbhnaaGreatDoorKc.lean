/- I20, I21, I22, I23: texts put together. -/
import Derived.Test.YtpaljcoojkbhnaaGreatDoorKa
import Derived.Test.YtpaljcoojkbhnaaGreatDoorGO
set_option maxHeartbeats 4000000
set_option maxRecDepth 100000
/- The program's chapter 8: a net as kids; two nets put together. -/
namespace Go.Proofs.YtpaljcoojkbhnaaGreatDoor
open Go.RowKit Go.Sort Go.BigFrame
theorem step_tell_nets {ops : Array Oper} {o : Oper} {a : Act} {w : World} {K : Act → World → Prop} {Q : Exit → Act → World → Prop} {E : Prop}
  (hg : o.guard = none) (s x : Operand) (hop : o.op = .call { callee := .builtin .append, args := #[s, x], argTypes := #[27, 27] })
  (base : Nat) (ra : Option Addr) (rc : Nat) (ms ks : List MNet) (ad : Option Addr) (c : Nat) (hs : a.eval s = .slice ra ms.length rc) (hx : a.eval x = .slice ad ks.length c)
  (hrow : MRow w base (.slice ra ms.length rc) ms) (hxs : 0 < ks.length → ∃ p, ad = some p ∧ ∀ j u, (mCells ks)[j]? = some u → w.cell? (p.add j) = some u)
  (hk : ∀ m ∈ ks, MOk w base m) (hp : (Value.slice ra ms.length rc :: (mVals ms ++ mVals ks)).Pairwise Aside) (hl : ms.length + ks.length ≤ 1000000) (hbase : base ≤ w.heap.size)
  (hK : ∀ a' c' w', MRow w' base (.slice a' (ms.length + ks.length) c') (ms ++ ks) → w.grownBy w' (Value.slice ra ms.length rc).ownBlock → ((Value.slice a' (ms.length + ks.length) c').ownBlock = (Value.slice ra ms.length rc).ownBlock ∨ (Value.slice a' (ms.length + ks.length) c').ownBlock = some w.heap.size) → K (a.put o.dst (.slice a' (ms.length + ks.length) c')) w') :
  if Region.wanted o (yielded ops a.tmps) = true then Oper.wp Tryz.prog o a w K Q else E := by
 obtain ⟨i0, hi, hz0, hz1, hz2⟩ := info_parts info_Net
 by_cases hd : ks.length = 0
 ·have hn : ks = [] := List.length_eq_zero_iff.1 hd
  subst hn
  have hw : Region.wanted o (yielded ops a.tmps) = true := by simp [Region.wanted, hg]
  rw [if_pos hw]
  have hcap : ms.length ≤ rc := by
   rcases hrow.1.2 with ⟨h0, h1⟩ | ⟨g, c', cur, h0, _, _, hnc, _⟩
   ·rw [h1]; exact Nat.zero_le _
   ·simp only [Value.slice.injEq] at h0
    rw [h0.2.2]; exact hnc
  have hk2 := hK ra rc w (by simpa using hrow) (grownSelf _ _) (.inl (by simp))
  simp only [List.length_nil, Nat.add_zero] at hk2 hx
  unfold Oper.wp execOp
  cases ad
  ·have e : Sem.run Tryz.prog (Builtin.append_ #[27, 27] o.type #[.slice ra ms.length rc, .slice none 0 c]) w = .ok (.slice ra ms.length rc) w := by cases ra <;> simp [Builtin.append_, go_sem, hcap]
   simp only [hop, resolve, invoke, builtin, Sem.run_bind, Sem.run_pure, Result.andThen_ok, List.map_toArray, List.map_cons, List.map_nil, hs, hx, e]
   exact hk2
  ·rename_i t1
   have e : Sem.run Tryz.prog (Builtin.append_ #[27, 27] o.type #[.slice ra ms.length rc, .slice (some t1) 0 c]) w = .ok (.slice ra ms.length rc) w := by cases ra <;> simp [Builtin.append_, go_sem, hcap]
   simp only [hop, resolve, invoke, builtin, Sem.run_bind, Sem.run_pure, Result.andThen_ok, List.map_toArray, List.map_cons, List.map_nil, hs, hx, e]
   exact hk2
 ·obtain ⟨p, rfl, hcs⟩ := hxs (by omega)
  refine step_append_at hg s x _ hop base 29 i0 _ 4 64 Tryz.underlying27 hi hz0 hz1 hz2 rfl (by decide) _ _ (mCells ms) hs hrow.1 _ _ _ (mCells ks) hx (mCells_len ks) hcs (mCells_one' hk) (by unfold maxLen; omega) (by omega) hbase ?_
  intro v' w' h1 h2 h3
  obtain ⟨a6, c6, hv6⟩ := slice_of_owns h1
  subst hv6
  exact hK a6 c6 w' (hrow.add hk hp h1 h2 h3) h2 h3
/-- A net's kids, or the net alone, in a row. -/
def KidsRet (w w' : World) (base : Nat) (k : Int) (m : MNet) (e : Ending) : Prop := ∃ (a : Option Addr) (c : Nat), e = .returned (.slice a (opnM k m).length c) ∧ MRow w' base (.slice a (opnM k m).length c) (opnM k m) ∧ ((Value.slice a (opnM k m).length c).ownBlock = m.kv.ownBlock ∨ ∀ q, (Value.slice a (opnM k m).length c).ownBlock = some q → w.heap.size ≤ q) ∧ Below w.heap.size w w'
theorem MOwn.kidsRow {w : World} {base : Nat} {m : MNet} (h : MOwn w base m) : MRow w base m.kv m.kids := by
 have h1 := (MOk_iff _ _ _).1 h.1
 have h2 := h.2
 rw [MNet.vals_eq, List.pairwise_cons] at h2
 exact ⟨h1.2.1, h1.2.2, h2.2⟩
theorem i_backKids (k : Int) (m : MNet) (base : Nat) (w : World) (hm : MOwn w base m) (hbase : base ≤ w.heap.size) :
  Calls Tryz.prog 110 #[.int .i64 k, .agg #[.int .i64 m.kind, .int .i64 m.op, m.av, m.kv]] w fun e w' => KidsRet w w' base k m e := by
 have hok := (MOk_iff _ _ _).1 hm.1
 obtain ⟨pa, ca, hav⟩ := slice_of_owns hok.1
 obtain ⟨qa, da, hak⟩ := slice_of_owns hok.2.1
 have HM : Hid (∀ W, Below w.heap.size w W → MOwn W base m) := fun W h => hm.below h
 clear hok hm
 by_cases hk : m.kind = k
 ·have HO : Hid (opnM k m = m.kids) := by show _ = _; unfold opnM; rw [if_pos hk]
  obtain ⟨ak, aop, ads, aav, akv, aks⟩ := m
  simp only at hav hak hk HO ⊢
  subst hav
  subst hak
  subst hk
  go_enter Tryz.func110, Tryz.ntmps110
  go_wp2
  go_ret
  refine ⟨qa, da, by rw [HO.out]; rfl, ?_, .inl (by cases qa <;> rfl), blA⟩
  rw [HO.out]
  exact (HM.out _ blA).kidsRow
 ·have HO : Hid (opnM k m = [m]) := by show _ = _; unfold opnM; rw [if_neg hk]
  have ekk : (m.kind == k) = false := by rw [beq_eq_false_iff_ne]; exact hk
  obtain ⟨ak, aop, ads, aav, akv, aks⟩ := m
  simp only at hav hak hk HO ekk ⊢
  subst hav
  subst hak
  go_enter Tryz.func110, Tryz.ntmps110
  go_wp2
  go_ret
  refine ⟨some ⟨w.heap.size + 1, 0, none⟩, 1, by rw [HO.out]; rfl, ?_, .inr (fun q hq => by cases hq; exact Nat.le_succ _), blA⟩
  rw [HO.out]
  have h1 := MRow.single (HM.out (w.alloc (.cells #[.int .i64 ak, .int .i64 aop, .slice pa ads.length ca, .slice qa aks.length da] 29)) (below_alloc _ _)) (by simp; omega)
  simpa using h1
/-- A net is answered: its memory is that of vs, or the grown row, or new. -/
def TogRet (w w' : World) (base : Nat) (vs : List Value) (g : Option Nat) (n : Stil.Net) (e : Ending) : Prop := ∃ (k op : Int) (ds : List Stil.Dev) (a1 : Option Addr) (c1 : Nat) (a2 : Option Addr) (c2 : Nat) (ms : List MNet), e = .returned (.agg #[.int .i64 k, .int .i64 op, .slice a1 ds.length c1, .slice a2 ms.length c2]) ∧
 MOwn w' base ⟨k, op, ds, .slice a1 ds.length c1, .slice a2 ms.length c2, ms⟩ ∧ (MNet.mk k op ds (.slice a1 ds.length c1) (.slice a2 ms.length c2) ms).net = n ∧ (∀ x ∈ (MNet.mk k op ds (.slice a1 ds.length c1) (.slice a2 ms.length c2) ms).vals, x ∈ vs ∨ x.ownBlock = g ∨ ∀ q, x.ownBlock = some q → w.heap.size ≤ q) ∧ w.grownBy w' g
theorem grown_low {a b : World} (h : Below a.heap.size a b) (r : Option Nat) : a.grownBy b r := ⟨h.os, h.tape, h.output, h.size, fun k hk _ => h.block k hk⟩
theorem tog_pair {a b : MNet} {k : Int} {w : World} {vA : Value} (hrow : (vA :: mVals (opnM k a)).Pairwise Aside) (hp : (a.vals ++ b.vals).Pairwise Aside) (hv : vA.ownBlock = a.kv.ownBlock ∨ ∀ q, vA.ownBlock = some q → w.heap.size ≤ q) (hlow : ∀ x ∈ b.vals, ∀ q, x.ownBlock = some q → q < w.heap.size) : (vA :: (mVals (opnM k a) ++ mVals (opnM k b))).Pairwise Aside := by
 rw [← List.cons_append, List.pairwise_append]
 have h2 := List.pairwise_append.1 hp
 refine ⟨hrow, opnM_pair h2.2.1, fun x hx y hy => ?_⟩
 have hyb := opnM_vals hy
 rcases List.mem_cons.1 hx with rfl | hx
 ·rcases hv with hv | hv
  ·have h3 := h2.2.2 a.kv (by rw [MNet.vals_eq]; simp) y hyb
   unfold Aside at h3 ⊢
   rw [hv]
   exact h3
  ·exact (aside_new (hlow y hyb) hv).symm
 ·exact h2.2.2 x (opnM_vals hx) y hyb
/-- A stack of nets as links, its top first: the blocks of the links, the nets, the pointer to the top. -/
def LinkAt (w : World) : List Nat → List MNet → Value → Prop
 | [], [], v => v = .pointer none
 | b :: bs, m :: ms, v => v = .pointer (some ⟨b, 0, none⟩) ∧ b < w.heap.size ∧ (w.cell? ⟨b, 0, none⟩ = some (.int .i64 m.kind) ∧ w.cell? ⟨b, 1, none⟩ = some (.int .i64 m.op) ∧ w.cell? ⟨b, 2, none⟩ = some m.av ∧ w.cell? ⟨b, 3, none⟩ = some m.kv) ∧ ∃ p, w.cell? ⟨b, 4, none⟩ = some p ∧ LinkAt w bs ms p
 | _, _, _ => False
theorem LinkAt.kept {w w' : World} {r : Option Nat} (hg : w.grownBy w' r) : ∀ {bs : List Nat} {ms : List MNet} {v : Value}, LinkAt w bs ms v → (∀ b ∈ bs, r ≠ some b) → LinkAt w' bs ms v
 | [], [], _, h, _ => h
 | b :: bs, m :: ms, v, h, hr => by
  obtain ⟨h1, h2, ⟨h3, h4, h5, h6⟩, p, h7, h8⟩ := h
  have hb := hr b (by simp)
  exact ⟨h1, Nat.lt_of_lt_of_le h2 hg.size, ⟨(grownO_cell hg h2 hb).trans h3, (grownO_cell hg h2 hb).trans h4, (grownO_cell hg h2 hb).trans h5, (grownO_cell hg h2 hb).trans h6⟩, p, (grownO_cell hg h2 hb).trans h7, LinkAt.kept hg h8 (fun x hx => hr x (by simp [hx]))⟩
 | [], _ :: _, _, h, _ => h
 | _ :: _, [], _, h, _ => h
theorem LinkAt.below {w w' : World} {bs : List Nat} {ms : List MNet} {v : Value} (h : LinkAt w bs ms v) (hb : Below w.heap.size w w') : LinkAt w' bs ms v := h.kept (grown_low hb none) (fun _ _ e => by cases e)
theorem LinkAt.nil {w : World} {bs : List Nat} {v : Value} (h : LinkAt w bs [] v) : v = .pointer none := by
 cases bs with
 | nil => exact h
 | cons b r => exact h.elim
theorem LinkAt.cons {w : World} {bs : List Nat} {m : MNet} {ms : List MNet} {v : Value} (h : LinkAt w bs (m :: ms) v) : ∃ b bs', bs = b :: bs' ∧ v = .pointer (some ⟨b, 0, none⟩) ∧ b < w.heap.size ∧ (w.cell? ⟨b, 0, none⟩ = some (.int .i64 m.kind) ∧ w.cell? ⟨b, 1, none⟩ = some (.int .i64 m.op) ∧ w.cell? ⟨b, 2, none⟩ = some m.av ∧ w.cell? ⟨b, 3, none⟩ = some m.kv) ∧ ∃ p, w.cell? ⟨b, 4, none⟩ = some p ∧ LinkAt w bs' ms p := by
 cases bs with
 | nil => exact h.elim
 | cons b r => exact ⟨b, r, rfl, h⟩
theorem LinkAt.ptr {w : World} {bs : List Nat} {ms : List MNet} {v : Value} (h : LinkAt w bs ms v) : v = .pointer none ∨ ∃ b, v = .pointer (some ⟨b, 0, none⟩) := by
 cases ms with
 | nil => exact .inl h.nil
 | cons m r =>
  obtain ⟨b, _, _, hv, _⟩ := h.cons
  exact .inr ⟨b, hv⟩
theorem grown_tog {w w3 w6 : World} {r r' : Option Nat} (h : Below w.heap.size w w3) (hg : w3.grownBy w6 r') (hr : r' = r ∨ ∀ q, r' = some q → w.heap.size ≤ q) : w.grownBy w6 r :=
 ⟨hg.os.trans h.os, hg.tape.trans h.tape, hg.output.trans h.output, Nat.le_trans h.size hg.size, fun k hk hne => (hg.block k (Nat.lt_of_lt_of_le hk h.size) (fun e => by
  rcases hr with hr | hr
  ·exact hne (by rw [e, hr])
  ·have := hr k e.symm
   omega)).trans (h.block k hk)⟩
theorem grown_set4 {w W : World} {r : Option Nat} {b : Nat} {u0 u1 u2 u3 : Value} (h : w.grownBy W r) (hb : w.heap.size ≤ b) : w.grownBy ((((W.setCell ⟨b, 0, none⟩ u0).setCell ⟨b, 1, none⟩ u1).setCell ⟨b, 2, none⟩ u2).setCell ⟨b, 3, none⟩ u3) r := by
 have hB : Below w.heap.size W ((((W.setCell ⟨b, 0, none⟩ u0).setCell ⟨b, 1, none⟩ u1).setCell ⟨b, 2, none⟩ u2).setCell ⟨b, 3, none⟩ u3) := ((((Below.refl _ _).setCell hb _).setCell hb _).setCell hb _).setCell hb _
 exact ⟨hB.os.trans h.os, hB.tape.trans h.tape, hB.output.trans h.output, Nat.le_trans h.size hB.size, fun k hk hne => (hB.block k hk).trans (h.block k hk hne)⟩
theorem i_together (k : Int) (a b : MNet) (base : Nat) (w : World) (ha : MOwn w base a) (hb : MOwn w base b) (hp : (a.vals ++ b.vals).Pairwise Aside) (hs : Stil.netSize a.net + Stil.netSize b.net ≤ 900000) (hfa : Stil.netFits a.net) (hz : a.kind = 0 → Stil.netNone a.net = true) (hbase : base ≤ w.heap.size) :
  Calls Tryz.prog 88 #[.int .i64 k, .agg #[.int .i64 a.kind, .int .i64 a.op, a.av, a.kv], .agg #[.int .i64 b.kind, .int .i64 b.op, b.av, b.kv]] w fun e w' => TogRet w w' base (a.vals ++ b.vals) a.kv.ownBlock (Stil.addNet k a.net b.net) e := by
 have hfr := MOk.from a ha.1
 have HNO : Hid (∀ W, Below w.heap.size w W → Calls Tryz.prog 109 #[.agg #[.int .i64 a.kind, .int .i64 a.op, a.av, a.kv]] W fun e w' => e = .returned (.bool (Stil.netNone a.net)) ∧ Below W.heap.size W w') := fun W h => by
  have h5 := i_isNone a.net a.av a.kv W (hfr.1.at.below h) (hfr.2.at.below h) hfa
  rw [show a.net.kind = a.kind by rw [MNet.net_eq], show a.net.one.op = a.op by rw [MNet.net_eq]] at h5
  exact h5
 have HKA : Hid (∀ W, Below w.heap.size w W → Calls Tryz.prog 110 #[.int .i64 k, .agg #[.int .i64 a.kind, .int .i64 a.op, a.av, a.kv]] W fun e w' => KidsRet W w' base k a e) := fun W h => i_backKids k a base W (ha.below h) (Nat.le_trans hbase h.size)
 have HKB : Hid (∀ W, Below w.heap.size w W → Calls Tryz.prog 110 #[.int .i64 k, .agg #[.int .i64 b.kind, .int .i64 b.op, b.av, b.kv]] W fun e w' => KidsRet W w' base k b e) := fun W h => i_backKids k b base W (hb.below h) (Nat.le_trans hbase h.size)
 have hnn : Stil.netNone a.net = decide (a.kind = 0) := by
  by_cases h0 : a.kind = 0
  ·rw [hz h0, decide_eq_true h0]
  ·rw [decide_eq_false h0]
   unfold Stil.netNone
   rw [show a.net.kind = a.kind by rw [MNet.net_eq]]
   simp [h0]
 have HN : Hid (Stil.addNet k a.net b.net = if a.kind = 0 then b.net else Stil.putNet k a.net b.net) := by
  show _ = _
  unfold Stil.addNet
  rw [show a.net.kind = a.kind by rw [MNet.net_eq]]
 have hok := (MOk_iff _ _ _).1 ha.1
 have hok2 := (MOk_iff _ _ _).1 hb.1
 obtain ⟨pa, ca, hav⟩ := slice_of_owns hok.1
 obtain ⟨qa, da, hak⟩ := slice_of_owns hok.2.1
 obtain ⟨pb, cb, hbv⟩ := slice_of_owns hok2.1
 obtain ⟨qb, db, hbk⟩ := slice_of_owns hok2.2.1
 have hla : (opnM k a).length + (opnM k b).length ≤ 900000 := by
  have h1 := Stil.opn_sizes k a.net
  have h2 := Stil.opn_sizes k b.net
  have h3 := Stil.len_sizes (Stil.opn k a.net)
  have h4 := Stil.len_sizes (Stil.opn k b.net)
  rw [← opnM_net, List.length_map] at h3
  rw [← opnM_net, List.length_map] at h4
  rw [← opnM_net] at h1 h2
  omega
 have HVA : Hid (∀ x ∈ a.vals ++ b.vals, ∀ q, x.ownBlock = some q → q < w.heap.size) := fun x hx q hq => by
  rcases List.mem_append.1 hx with hx | hx
  ·exact (MOk.lt a ha.1 x hx q hq).2
  ·exact (MOk.lt b hb.1 x hx q hq).2
 have HKV : Hid (a.kv ∈ a.vals) := by show _ ∈ _; rw [MNet.vals_eq]; simp
 have HMB : Hid (∀ W, Below w.heap.size w W → MOwn W base b) := fun W h => hb.below h
 have HTP : Hid (∀ vA : Value, (vA :: mVals (opnM k a)).Pairwise Aside → (vA.ownBlock = a.kv.ownBlock ∨ ∀ q, vA.ownBlock = some q → w.heap.size ≤ q) → (vA :: (mVals (opnM k a) ++ mVals (opnM k b))).Pairwise Aside) := fun vA h1 h2 => tog_pair h1 hp h2 (fun x hx q hq => HVA.out x (List.mem_append_right _ hx) q hq)
 have HPN : Hid ((opnM k a ++ opnM k b).map MNet.net = Stil.opn k a.net ++ Stil.opn k b.net) := by show _ = _; rw [List.map_append, opnM_net, opnM_net]
 have HSU : Hid (∀ x ∈ mVals (opnM k a ++ opnM k b), x ∈ a.vals ++ b.vals) := fun x hx => by
  rw [mVals_append] at hx
  rcases List.mem_append.1 hx with hx | hx
  ·exact List.mem_append_left _ (opnM_vals hx)
  ·exact List.mem_append_right _ (opnM_vals hx)
 rw [hnn] at HNO
 obtain ⟨NA, hNA⟩ : ∃ N, N = a.net := ⟨_, rfl⟩
 obtain ⟨NB, hNB⟩ : ∃ N, N = b.net := ⟨_, rfl⟩
 have HNB : Hid (NB = b.net) := hNB
 rw [← hNA, ← hNB] at HN HPN ⊢
 obtain ⟨MA, hMA⟩ : ∃ M, M = opnM k a := ⟨_, rfl⟩
 obtain ⟨MB, hMB⟩ : ∃ M, M = opnM k b := ⟨_, rfl⟩
 have HKA2 : Hid (∀ W, Below w.heap.size w W → Calls Tryz.prog 110 #[.int .i64 k, .agg #[.int .i64 a.kind, .int .i64 a.op, a.av, a.kv]] W fun e w' => ∃ (r : Option Addr) (c : Nat), e = .returned (.slice r MA.length c) ∧ MRow w' base (.slice r MA.length c) MA ∧ ((Value.slice r MA.length c).ownBlock = a.kv.ownBlock ∨ ∀ q, (Value.slice r MA.length c).ownBlock = some q → W.heap.size ≤ q) ∧ Below W.heap.size W w') := by rw [hMA]; exact HKA
 have HKB2 : Hid (∀ W, Below w.heap.size w W → Calls Tryz.prog 110 #[.int .i64 k, .agg #[.int .i64 b.kind, .int .i64 b.op, b.av, b.kv]] W fun e w' => ∃ (r : Option Addr) (c : Nat), e = .returned (.slice r MB.length c) ∧ MRow w' base (.slice r MB.length c) MB ∧ ((Value.slice r MB.length c).ownBlock = b.kv.ownBlock ∨ ∀ q, (Value.slice r MB.length c).ownBlock = some q → W.heap.size ≤ q) ∧ Below W.heap.size W w') := by rw [hMB]; exact HKB
 rw [← hMA, ← hMB] at hla HTP HPN HSU
 obtain ⟨vs, hvs⟩ : ∃ vs, vs = a.vals ++ b.vals := ⟨_, rfl⟩
 have HSB : Hid (∀ x ∈ b.vals, x ∈ vs) := fun x hx => by rw [hvs]; exact List.mem_append_right _ hx
 have HKS : Hid (a.kv ∈ vs) := by show _ ∈ _; rw [hvs]; exact List.mem_append_left _ HKV.out
 rw [← hvs] at HVA HSU ⊢
 have HLA : Hid (MA.length + MB.length ≤ 900000) := hla
 clear hNA hNB hMA hMB hvs hfr hok hok2 ha hb hp hs hfa hz hnn hla HKA HKB HKV
 obtain ⟨ak, aop, ads, aav, akv, aks⟩ := a
 obtain ⟨bk, bop, bds, bav, bkv, bks⟩ := b
 simp only at hav hak hbv hbk HNO HKA2 HKB2 HN HTP HKS ⊢
 subst hav
 subst hak
 subst hbv
 subst hbk
 by_cases hk : ak = 0
 ·subst hk
  rw [if_pos rfl] at HN
  simp only [decide_true] at HNO
  clear HKA2 HKB2
  go_enter Tryz.func88, Tryz.ntmps88
  go_wp2_with (go_at_call 109; refine (HNO.out _ blA).mono ?_; rintro e w1 ⟨rfl, hb1⟩; obtain ⟨hc1, hf1⟩ := bcell hb1; have u0 : w1.cell? ⟨w.heap.size + 1, 0, none⟩ = some (.int .i64 bk) := (by rw [hc1 _ _ (by simp)]; simp [go_sem]); have u1 : w1.cell? ⟨w.heap.size + 1, 1, none⟩ = some (.int .i64 bop) := (by rw [hc1 _ _ (by simp)]; simp [go_sem]); have u2 : w1.cell? ⟨w.heap.size + 1, 2, none⟩ = some (.slice pb bds.length cb) := (by rw [hc1 _ _ (by simp)]; simp [go_sem]); have u3 : w1.cell? ⟨w.heap.size + 1, 3, none⟩ = some (.slice qb bks.length db) := (by rw [hc1 _ _ (by simp)]; simp [go_sem]); have z0 : w1.cell? ⟨w.heap.size + 2, 0, none⟩ = some (.int .i64 0) := (by rw [hc1 _ _ (by simp)]; simp [go_sem]); have z1 : w1.cell? ⟨w.heap.size + 2, 1, none⟩ = some (.int .i64 0) := (by rw [hc1 _ _ (by simp)]; simp [go_sem]); have z2 : w1.cell? ⟨w.heap.size + 2, 2, none⟩ = some (.slice none 0 0) := (by rw [hc1 _ _ (by simp)]; simp [go_sem]); have z3 : w1.cell? ⟨w.heap.size + 2, 3, none⟩ = some (.slice none 0 0) := (by rw [hc1 _ _ (by simp)]; simp [go_sem]); have f0 : w1.frozen? ⟨w.heap.size + 2, 0, none⟩ = false := (by rw [hf1 _ _ (by simp)]; simp [go_sem]); have f1 : w1.frozen? ⟨w.heap.size + 2, 1, none⟩ = false := (by rw [hf1 _ _ (by simp)]; simp [go_sem]); have f2 : w1.frozen? ⟨w.heap.size + 2, 2, none⟩ = false := (by rw [hf1 _ _ (by simp)]; simp [go_sem]); have f3 : w1.frozen? ⟨w.heap.size + 2, 3, none⟩ = false := (by rw [hf1 _ _ (by simp)]; simp [go_sem]))
  refine bodyPost_ret (v := .agg #[.int .i64 bk, .int .i64 bop, .slice pb bds.length cb, .slice qb bks.length db]) (by simp [results, Tryz.results88, go_sem, z0, z1, z2, z3]) rfl ?_
  have hB : Below w.heap.size w ((((w1.setCell ⟨w.heap.size + 1 + 1, 0, none⟩ (.int .i64 bk)).setCell ⟨w.heap.size + 1 + 1, 1, none⟩ (.int .i64 bop)).setCell ⟨w.heap.size + 1 + 1, 2, none⟩ (.slice pb bds.length cb)).setCell ⟨w.heap.size + 1 + 1, 3, none⟩ (.slice qb bks.length db)) := blA
  exact ⟨bk, bop, bds, pb, cb, qb, db, bks, rfl, HMB.out _ hB, (HN.out.trans HNB.out).symm, fun x hx => .inl (HSB.out x hx), grown_low hB _⟩
 ·rw [if_neg hk] at HN
  rw [decide_eq_false hk] at HNO
  go_enter Tryz.func88, Tryz.ntmps88
  go_upto_region 3 with (go_at_call 109; refine (HNO.out _ blA).mono ?_; rintro e w1 ⟨rfl, hb1⟩; obtain ⟨hc1, hf1⟩ := bcell hb1)
  have hs1 : w.heap.size + 2 < w1.heap.size := by have := hb1.size; simp at this; omega
  have hB1 : Below w.heap.size w w1 := blA
  have bA : B4 w1 w.heap.size (.int .i64 ak) (.int .i64 aop) (.slice pa ads.length ca) (.slice qa aks.length da) :=
   ⟨by omega, ⟨by rw [hc1 _ _ (by simp; omega)]; simp [go_sem], by rw [hc1 _ _ (by simp; omega)]; simp [go_sem], by rw [hc1 _ _ (by simp; omega)]; simp [go_sem], by rw [hc1 _ _ (by simp; omega)]; simp [go_sem]⟩, by rw [hf1 _ _ (by simp; omega)]; simp [go_sem], by rw [hf1 _ _ (by simp; omega)]; simp [go_sem], by rw [hf1 _ _ (by simp; omega)]; simp [go_sem], by rw [hf1 _ _ (by simp; omega)]; simp [go_sem]⟩
  have bB : B4 w1 (w.heap.size + 1) (.int .i64 bk) (.int .i64 bop) (.slice pb bds.length cb) (.slice qb bks.length db) :=
   ⟨by omega, ⟨by rw [hc1 _ _ (by simp)]; simp [go_sem], by rw [hc1 _ _ (by simp)]; simp [go_sem], by rw [hc1 _ _ (by simp)]; simp [go_sem], by rw [hc1 _ _ (by simp)]; simp [go_sem]⟩, by rw [hf1 _ _ (by simp)]; simp [go_sem], by rw [hf1 _ _ (by simp)]; simp [go_sem], by rw [hf1 _ _ (by simp)]; simp [go_sem], by rw [hf1 _ _ (by simp)]; simp [go_sem]⟩
  have bC : B4 w1 (w.heap.size + 2) (.int .i64 0) (.int .i64 0) (.slice none 0 0) (.slice none 0 0) :=
   ⟨by omega, ⟨by rw [hc1 _ _ (by simp)]; simp [go_sem], by rw [hc1 _ _ (by simp)]; simp [go_sem], by rw [hc1 _ _ (by simp)]; simp [go_sem], by rw [hc1 _ _ (by simp)]; simp [go_sem]⟩, by rw [hf1 _ _ (by simp)]; simp [go_sem], by rw [hf1 _ _ (by simp)]; simp [go_sem], by rw [hf1 _ _ (by simp)]; simp [go_sem], by rw [hf1 _ _ (by simp)]; simp [go_sem]⟩
  have HBX : Hid (∀ W, Below w1.heap.size w1 W → B4 W w.heap.size (.int .i64 ak) (.int .i64 aop) (.slice pa ads.length ca) (.slice qa aks.length da) ∧ B4 W (w.heap.size + 1) (.int .i64 bk) (.int .i64 bop) (.slice pb bds.length cb) (.slice qb bks.length db) ∧ B4 W (w.heap.size + 2) (.int .i64 0) (.int .i64 0) (.slice none 0 0) (.slice none 0 0)) := fun W h => ⟨bA.below h bA.1, bB.below h bB.1, bC.below h bC.1⟩
  have HKA3 : Hid (∀ W, Below w1.heap.size w1 W → Calls Tryz.prog 110 #[.int .i64 k, .agg #[.int .i64 ak, .int .i64 aop, .slice pa ads.length ca, .slice qa aks.length da]] W fun e w' => ∃ (r : Option Addr) (c : Nat), e = .returned (.slice r MA.length c) ∧ MRow w' base (.slice r MA.length c) MA ∧ ((Value.slice r MA.length c).ownBlock = (Value.slice qa aks.length da).ownBlock ∨ ∀ q, (Value.slice r MA.length c).ownBlock = some q → W.heap.size ≤ q) ∧ Below W.heap.size W w') := fun W h => HKA2.out W (hB1.trans (h.mono hB1.size))
  have HKB3 : Hid (∀ W, Below w1.heap.size w1 W → Calls Tryz.prog 110 #[.int .i64 k, .agg #[.int .i64 bk, .int .i64 bop, .slice pb bds.length cb, .slice qb bks.length db]] W fun e w' => ∃ (r : Option Addr) (c : Nat), e = .returned (.slice r MB.length c) ∧ MRow w' base (.slice r MB.length c) MB ∧ ((Value.slice r MB.length c).ownBlock = (Value.slice qb bks.length db).ownBlock ∨ ∀ q, (Value.slice r MB.length c).ownBlock = some q → W.heap.size ≤ q) ∧ Below W.heap.size W w') := fun W h => HKB2.out W (hB1.trans (h.mono hB1.size))
  have HB1 : Hid (Below w.heap.size w w1) := hB1
  obtain ⟨_, ⟨q0, q1, q2, q3⟩, _⟩ := bA
  obtain ⟨_, ⟨u0, u1, u2, u3⟩, _⟩ := bB
  obtain ⟨_, ⟨z0, z1, z2, z3⟩, f0, f1, f2, f3⟩ := bC
  clear hc1 hf1 hb1 hB1 HKA2 HKB2 HNO HMB HSB
  have HRN : Hid (∀ v : Value, (v.ownBlock = (Value.slice qa aks.length da).ownBlock ∨ ∀ q, v.ownBlock = some q → w1.heap.size ≤ q) → ∀ d, w.heap.size ≤ d → d < w1.heap.size → v.ownBlock ≠ some d) := fun v hv d h1 h2 e => by
   rcases hv with hv | hv
   ·rw [hv] at e
    have := HVA.out _ HKS.out _ e
    omega
   ·have := hv _ e
    omega
  have HRL : Hid (∀ v : Value, (v.ownBlock = (Value.slice qa aks.length da).ownBlock ∨ ∀ q, v.ownBlock = some q → w1.heap.size ≤ q) → v.ownBlock = (Value.slice qa aks.length da).ownBlock ∨ ∀ q, v.ownBlock = some q → w.heap.size ≤ q) := fun v hv => by
   rcases hv with hv | hv
   ·exact .inl hv
   ·exact .inr (fun q hq => by have := hv q hq; omega)
  have HBS : Hid (base ≤ w1.heap.size) := by show _ ≤ _; omega
  go_region_law (first | (have hx3 := HM3.out; clear hx3; refine step_tell_nets rfl _ _ rfl base r2 c2 MA MB r3 c3 (by go_simp) (by go_simp) (HM2.out.below blA) (cells_of_row HM3.out.1) HM3.out.2.1 (HTP.out _ HM2.out.2.2 (HRL.out _ HQ2.out)) (by have := HLA.out; omega) (Nat.le_trans HBS.out HZ3.out) ?_; intro a6 c6 w6 hm6 hg6 ho6; have HM6 : Hid (MRow w6 base (.slice a6 (MA.length + MB.length) c6) (MA ++ MB)) := hm6; have HG6 : Hid (w3.grownBy w6 (Value.slice r2 MA.length c2).ownBlock) := hg6; have HO6 : Hid ((Value.slice a6 (MA.length + MB.length) c6).ownBlock = (Value.slice r2 MA.length c2).ownBlock ∨ (Value.slice a6 (MA.length + MB.length) c6).ownBlock = some w3.heap.size) := ho6; have hne := HRN.out _ HQ2.out (w.heap.size + 2) (by omega) hs1; have hl3 := Nat.lt_of_lt_of_le hs1 HZ3.out; have x0 := (grownO_cell (o := 0) hg6 hl3 hne).trans z0; have x1 := (grownO_cell (o := 1) hg6 hl3 hne).trans z1; have x2 := (grownO_cell (o := 2) hg6 hl3 hne).trans z2; have x3 := (grownO_cell (o := 3) hg6 hl3 hne).trans z3; have g0 := (grownO_frozen (o := 0) hg6 hl3 hne).trans f0; have g1 := (grownO_frozen (o := 1) hg6 hl3 hne).trans f1; have g2 := (grownO_frozen (o := 2) hg6 hl3 hne).trans f2; have g3 := (grownO_frozen (o := 3) hg6 hl3 hne).trans f3; clear hm6 hg6 ho6 hne z0 z1 z2 z3 f0 f1 f2 f3 q0 q1 q2 q3 u0 u1 u2 u3) | (have hx2 := HM2.out; clear hx2; go_simp; go_at_call 110; refine (HKB3.out _ blA).mono ?_; rintro e w3 ⟨r3, c3, rfl, hm3, hq3, hb3⟩; have HM3 : Hid (MRow w3 base (.slice r3 MB.length c3) MB) := hm3; have hB3 : Below w1.heap.size w1 w3 := blA; have HB3 : Hid (Below w1.heap.size w1 w3) := hB3; have HZ3 : Hid (w1.heap.size ≤ w3.heap.size) := hB3.size; clear hB3 hm3 hq3 q0 q1 q2 q3 u0 u1 u2 u3 z0 z1 z2 z3 f0 f1 f2 f3; obtain ⟨⟨_, ⟨q0, q1, q2, q3⟩, _⟩, ⟨_, ⟨u0, u1, u2, u3⟩, _⟩, ⟨_, ⟨z0, z1, z2, z3⟩, f0, f1, f2, f3⟩⟩ := HBX.out w3 blA) | (go_simp; go_at_call 110; refine (HKA3.out _ blA).mono ?_; rintro e w2 ⟨r2, c2, rfl, hm2, hq2, hb2⟩; have HM2 : Hid (MRow w2 base (.slice r2 MA.length c2) MA) := hm2; have HQ2 : Hid ((Value.slice r2 MA.length c2).ownBlock = (Value.slice qa aks.length da).ownBlock ∨ ∀ q, (Value.slice r2 MA.length c2).ownBlock = some q → _ ≤ q) := hq2; clear hm2 hq2 q0 q1 q2 q3 u0 u1 u2 u3 z0 z1 z2 z3 f0 f1 f2 f3; obtain ⟨⟨_, ⟨q0, q1, q2, q3⟩, _⟩, ⟨_, ⟨u0, u1, u2, u3⟩, _⟩, ⟨_, ⟨z0, z1, z2, z3⟩, f0, f1, f2, f3⟩⟩ := HBX.out w2 blA))
  all_goals
   try go_wp2
   refine bodyPost_ret (v := .agg #[.int .i64 k, .int .i64 0, .slice none 0 0, .slice a6 (MA.length + MB.length) c6]) (by simp [results, Tryz.results88, go_sem, x0, x1, x2, x3]) rfl ?_
   have hB := HB1.out.trans (HB3.out.mono HB1.out.size)
   have hmo : MOwn w6 base ⟨k, 0, [], .slice none 0 0, .slice a6 (MA ++ MB).length c6, MA ++ MB⟩ := by
    have h6 := HM6.out
    rw [← List.length_append] at h6
    exact h6.net k 0 [] (World.ownsRow_nil _ _ _ _) (fun x _ => aside_nil x)
   have hob : ∀ q, (Value.slice a6 (MA ++ MB).length c6).ownBlock = some q → (Value.slice a6 (MA.length + MB.length) c6).ownBlock = some q := fun q hq => by rw [← List.length_append]; exact hq
   refine ⟨k, 0, [], none, 0, a6, c6, MA ++ MB, by rw [List.length_append]; rfl, hmo.apart4 (fun x hx e => ?_), ?_, fun x hx => ?_, grown_set4 (grown_tog hB HG6.out (HRL.out _ HQ2.out)) (by omega)⟩
   ·rw [MNet.vals_eq] at hx
    simp only [List.mem_cons] at hx
    rcases hx with rfl | rfl | hx
    ·cases e
    ·rcases HO6.out with ho | ho
     ·exact HRN.out _ HQ2.out _ (by omega) hs1 (ho ▸ hob _ e)
     ·have e2 := hob _ e
      rw [ho] at e2
      have := HZ3.out
      simp only [Option.some.injEq] at e2
      omega
    ·have := HVA.out x (HSU.out x hx) _ e
     omega
   ·rw [MNet.net_eq, HN.out]
    unfold Stil.putNet
    rw [← HPN.out]
   ·rw [MNet.vals_eq] at hx
    simp only [List.mem_cons] at hx
    rcases hx with rfl | rfl | hx
    ·exact .inr (.inr (fun q hq => by cases hq))
    ·rcases HO6.out with ho | ho
     ·rcases HRL.out _ HQ2.out with h | h
      ·right; left
       have e3 : (Value.slice a6 (MA ++ MB).length c6).ownBlock = (Value.slice a6 (MA.length + MB.length) c6).ownBlock := by rw [List.length_append]
       rw [e3, ho, h]
      ·exact .inr (.inr (fun q hq => h q (ho ▸ hob q hq)))
     ·refine .inr (.inr (fun q hq => ?_))
      have e2 := hob q hq
      rw [ho] at e2
      have := HZ3.out
      simp only [Option.some.injEq] at e2
      omega
    ·exact .inl (HSU.out x hx)
end Go.Proofs.YtpaljcoojkbhnaaGreatDoor
