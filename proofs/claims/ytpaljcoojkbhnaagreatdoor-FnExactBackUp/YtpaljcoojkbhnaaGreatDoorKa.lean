/- S17, S18, S19: texts put together. -/
import Derived.Test.YtpaljcoojkbhnaaGreatDoorM31
import Derived.Test.YtpaljcoojkbhnaaGreatDoorGm
set_option maxHeartbeats 4000000
set_option maxRecDepth 100000
/- The specification's chapter 8: a copy of a contact; two nets put together. -/
namespace Go.Proofs.YtpaljcoojkbhnaaGreatDoor
open Go.RowKit Go.Sort Go.BigFrame
theorem s_copy (e : Stil.Elem) (av : Value) (w : World) (hav : DevsAt w av e.args) (hla : e.args.length ≤ 1048576) :
  Calls Tryz.prog 48 #[.agg #[.int .i64 e.op, av]] w fun r w' => ∃ a c, r = .returned (.agg #[.int .i64 e.op, .slice a e.args.length c]) ∧ w'.ownsRow w.heap.size 117 3 (.slice a e.args.length c) e.args.length (devsCells e.args) ∧ Below w.heap.size w w' := by
 have HDA : Hid (∀ W, Below w.heap.size w W → DevsAt W av e.args) := fun W h => hav.below h
 obtain ⟨p0, r0, rfl, hz8⟩ := hav
 clear hz8
 go_enter Tryz.func48, Tryz.ntmps48
 go_upto_region 1 with fail
 obtain ⟨W, hW⟩ : ∃ W, W = (w.alloc (.cells #[.int .i64 e.op, .slice p0 e.args.length r0] 26)).alloc (.cells #[.int .i64 0, .slice none 0 0] 26) := ⟨_, rfl⟩
 rw [← hW]
 have q0 : W.cell? ⟨w.heap.size, 0, none⟩ = some (.int .i64 e.op) := by rw [hW]; simp [go_sem]
 have q1 : W.cell? ⟨w.heap.size, 1, none⟩ = some (.slice p0 e.args.length r0) := by rw [hW]; simp [go_sem]
 have t0 : W.cell? ⟨w.heap.size + 1, 0, none⟩ = some (.int .i64 0) := by rw [hW]; simp [go_sem]
 have t1 : W.cell? ⟨w.heap.size + 1, 1, none⟩ = some (.slice none 0 0) := by rw [hW]; simp [go_sem]
 have v0 : W.frozen? ⟨w.heap.size + 1, 0, none⟩ = false := by rw [hW]; simp [go_sem]
 have v1 : W.frozen? ⟨w.heap.size + 1, 1, none⟩ = false := by rw [hW]; simp [go_sem]
 have hsW : W.heap.size = w.heap.size + 2 := by rw [hW]; simp
 have hBW : Below w.heap.size w W := by rw [hW]; exact bl_alloc (below_alloc _ _) _
 have HSW : Hid (W.heap.size = w.heap.size + 2) := hsW
 have hl0 : w.heap.size < W.heap.size := by omega
 have hl1 : w.heap.size + 1 < W.heap.size := by omega
 clear hW hsW
 go_region_law (refine step_append_devs rfl _ _ rfl (w.heap.size + 2) _ e.args rfl (by exact (World.ownsRow_lit W #[] 0 (by have := HSW.out; omega) (by unfold maxLen; omega) rfl).drew) _ _ rfl (HDA.out _ (by exact (bl_alloc hBW _).drew)) hla (by have := HSW.out; simp; omega) ?_; intro v5 w5 hown5 hgr5; obtain ⟨a5, c5, hv5⟩ := slice_of_owns hown5; subst hv5; have hb5 : Below W.heap.size W w5 := (below_alloc W _).drew.grown hgr5 (by simp) (fun k hk => by cases hk; exact Nat.le_refl _); have hz5 : w.heap.size + 2 ≤ w5.heap.size := (by have := HSW.out; have := hb5.size; omega); have y0 : w5.cell? ⟨w.heap.size, 0, none⟩ = some (.int .i64 e.op) := (hb5.cell (p := ⟨w.heap.size, 0, none⟩) (by have := HSW.out; show w.heap.size < W.heap.size; omega)).trans q0; have y1 : w5.cell? ⟨w.heap.size, 1, none⟩ = some (.slice p0 e.args.length r0) := (hb5.cell (p := ⟨w.heap.size, 1, none⟩) (by have := HSW.out; show w.heap.size < W.heap.size; omega)).trans q1; have z0 : w5.cell? ⟨w.heap.size + 1, 0, none⟩ = some (.int .i64 0) := (hb5.cell (p := ⟨w.heap.size + 1, 0, none⟩) (by have := HSW.out; show w.heap.size + 1 < W.heap.size; omega)).trans t0; have z1 : w5.cell? ⟨w.heap.size + 1, 1, none⟩ = some (.slice none 0 0) := (hb5.cell (p := ⟨w.heap.size + 1, 1, none⟩) (by have := HSW.out; show w.heap.size + 1 < W.heap.size; omega)).trans t1; have f0 : w5.frozen? ⟨w.heap.size + 1, 0, none⟩ = false := (hb5.frozen (p := ⟨w.heap.size + 1, 0, none⟩) (by have := HSW.out; show w.heap.size + 1 < W.heap.size; omega)).trans v0; have f1 : w5.frozen? ⟨w.heap.size + 1, 1, none⟩ = false := (hb5.frozen (p := ⟨w.heap.size + 1, 1, none⟩) (by have := HSW.out; show w.heap.size + 1 < W.heap.size; omega)).trans v1)
 all_goals
  try go_wp2
  refine bodyPost_ret (v := .agg #[.int .i64 e.op, .slice a5 e.args.length c5]) (by simp [results, Tryz.results48, go_sem, z0, z1]) rfl ⟨a5, c5, rfl, ?_, ?_⟩
  ·refine Joins.ownsRow_le (base := w.heap.size + 2) ?_ (by omega)
   repeat (refine ownsRow_setCell_below ?_ (by first | (simp; done) | (simp; omega)) _)
   exact hown5
  ·have hB5 : Below w.heap.size w w5 := hBW.trans (hb5.mono hBW.size)
   (repeat (first | with_reducible exact Below.refl _ _ | with_reducible assumption | with_reducible refine bl_set (by first | exact Nat.le_refl _ | (simp; done) | (simp; omega) | omega) ?_ _ | with_reducible refine bl_alloc ?_ _ | with_reducible refine bl_drewN ?_ _ | with_reducible refine bl_drew ?_ | with_reducible refine bl_grow ?_ _ _ | with_reducible refine bl_call ?_ (by assumption)))
/-- A net as kids of a kind. -/
def opnM (k : Int) (m : MNet) : List MNet := if m.kind = k then m.kids else [m]
theorem opnM_net (k : Int) (m : MNet) : (opnM k m).map MNet.net = Stil.opn k m.net := by
 unfold opnM Stil.opn
 rw [MNet.net_eq]
 split
 ·rfl
 ·rw [List.map_singleton, MNet.net_eq]
theorem opnM_vals {k : Int} {m : MNet} {x : Value} (h : x ∈ mVals (opnM k m)) : x ∈ m.vals := by
 unfold opnM at h
 split at h
 ·rw [MNet.vals_eq]; simp [h]
 ·rwa [mVals_one] at h
theorem opnM_ok {w : World} {base : Nat} {k : Int} {m : MNet} (h : MOk w base m) : ∀ x ∈ opnM k m, MOk w base x := by
 unfold opnM
 split
 ·exact ((MOk_iff _ _ _).1 h).2.2
 ·intro x hx
  rw [List.mem_singleton.1 hx]; exact h
theorem opnM_pair {k : Int} {m : MNet} (h : m.vals.Pairwise Aside) : (mVals (opnM k m)).Pairwise Aside := by
 unfold opnM
 split
 ·rw [MNet.vals_eq, List.pairwise_cons, List.pairwise_cons] at h
  exact h.2.2
 ·rw [mVals_one]; exact h
theorem opnM_two {k : Int} {a b : MNet} (h : (a.vals ++ b.vals).Pairwise Aside) : (mVals (opnM k a) ++ mVals (opnM k b)).Pairwise Aside := by
 rw [List.pairwise_append] at h ⊢
 exact ⟨opnM_pair h.1, opnM_pair h.2.1, fun x hx y hy => h.2.2 x (opnM_vals hx) y (opnM_vals hy)⟩
theorem MRow.setO {w : World} {base : Nat} {v : Value} {ms : List MNet} (h : MRow w base v ms) {a : Addr} (ha : ∀ x ∈ v :: mVals ms, x.ownBlock ≠ some a.block) (u : Value) : MRow (w.setCell a u) base v ms :=
 ⟨ownsRow_setCell_other h.1 (ha _ (by simp)) u, fun m hm => MOk.map m (h.2.1 m hm) (fun _ _ _ _ _ hx ho => ownsRow_setCell_other ho (ha _ (List.mem_cons_of_mem _ (mem_mVals.2 ⟨m, hm, hx⟩))) u), h.2.2⟩
theorem MRow.setsO {w : World} {base b3 b2 : Nat} {v u u0 u1 u2 u3 : Value} {ms : List MNet} (h : MRow w base v ms) (h3 : ∀ x ∈ v :: mVals ms, x.ownBlock ≠ some b3) (h2 : ∀ x ∈ v :: mVals ms, x.ownBlock ≠ some b2) :
  MRow (((((w.setCell ⟨b3, 3, none⟩ u).setCell ⟨b2, 0, none⟩ u0).setCell ⟨b2, 1, none⟩ u1).setCell ⟨b2, 2, none⟩ u2).setCell ⟨b2, 3, none⟩ u3) base v ms :=
 ((((h.setO h3 _).setO h2 _).setO h2 _).setO h2 _).setO h2 _
theorem box4 {w : World} {v0 v1 v2 v3 : Value} {t : TypeId} : B4 (w.alloc (.cells #[v0, v1, v2, v3] t)) w.heap.size v0 v1 v2 v3 :=
 ⟨by simp, ⟨by simp [go_sem], by simp [go_sem], by simp [go_sem], by simp [go_sem]⟩, by simp [go_sem], by simp [go_sem], by simp [go_sem], by simp [go_sem]⟩
theorem B4.al {w : World} {b : Nat} {v0 v1 v2 v3 : Value} (h : B4 w b v0 v1 v2 v3) (o : Obj) : B4 (w.alloc o) b v0 v1 v2 v3 := h.below (below_alloc _ _) h.1
theorem pair_nil {v : Value} {ks : List MNet} (h : (mVals ks).Pairwise Aside) (hv : v.ownBlock = none) : (v :: (mVals [] ++ mVals ks)).Pairwise Aside := by
 rw [List.pairwise_cons]
 exact ⟨fun y _ => .inl hv, by simpa [mVals] using h⟩
theorem cells_of_row {w : World} {base : Nat} {s : Option Addr} {t : Nat} {ks : List MNet} (hr : w.ownsRow base 29 4 (.slice s ks.length t) ks.length (mCells ks)) : 0 < ks.length → ∃ p, s = some p ∧ ∀ j u, (mCells ks)[j]? = some u → w.cell? (p.add j) = some u := by
 intro hz
 obtain ⟨g, c, hv, _, _, _, hcell⟩ := ownsRow_cells hr hz
 simp only [Value.slice.injEq] at hv
 exact ⟨⟨g, 0, none⟩, hv.1, fun j u hu => by rw [Addr.add_lit]; simpa using hcell j u hu⟩
theorem wpList_first_nets {ops : Array Oper} {rest : List Oper} {o : Oper} {a : Act} {w : World} {Q : Exit → Act → World → Prop}
  (hg : o.guard = none) (s x : Operand) (hop : o.op = .call { callee := .builtin .append, args := #[s, x], argTypes := #[27, 27] })
  (base lo : Nat) (ks : List MNet) (ad : Option Addr) (c : Nat) (hs : a.eval s = .slice none 0 0) (hx : a.eval x = .slice ad ks.length c)
  (hxs : 0 < ks.length → ∃ p, ad = some p ∧ ∀ j u, (mCells ks)[j]? = some u → w.cell? (p.add j) = some u)
  (hk : ∀ m ∈ ks, MOk w base m) (hp : (mVals ks).Pairwise Aside) (hl : ks.length ≤ 1000000) (hbase : base ≤ w.heap.size) (hlo : lo ≤ w.heap.size)
  (h : ∀ a' c' w', MRow w' base (.slice a' ks.length c') ks → Below lo w w' → (∀ k, (Value.slice a' ks.length c').ownBlock = some k → lo ≤ k) → wpList Tryz.prog ops Q rest (a.put o.dst (.slice a' ks.length c')) w') :
  wpList Tryz.prog ops Q (o :: rest) a w := by
 refine wpList_grow_nets hg s x hop base lo none 0 [] ks ad c hs hx (MRow.nil _ _) hxs hk (pair_nil hp rfl) (by simpa using hl) hbase hlo (fun q hq => by cases hq) ?_
 intro a' c' w' h1 h2 h3
 simp only [List.length_nil, Nat.zero_add, List.nil_append] at h1 h3 ⊢
 exact h a' c' w' h1 h2 h3
theorem s_put (k : Int) (a b : MNet) (base : Nat) (w : World) (ha : MOk w base a) (hb : MOk w base b) (hp : (a.vals ++ b.vals).Pairwise Aside) (hs : Stil.netSize a.net + Stil.netSize b.net ≤ 900000) (hbase : base ≤ w.heap.size) :
  Calls Tryz.prog 81 #[.int .i64 k, .agg #[.int .i64 a.kind, .int .i64 a.op, a.av, a.kv], .agg #[.int .i64 b.kind, .int .i64 b.op, b.av, b.kv]] w fun e w' => ∃ (ra : Option Addr) (rc : Nat), e = .returned (.agg #[.int .i64 k, .int .i64 0, .slice none 0 0, .slice ra ((opnM k a).length + (opnM k b).length) rc]) ∧ MRow w' base (.slice ra ((opnM k a).length + (opnM k b).length) rc) (opnM k a ++ opnM k b) ∧ (∀ q, (Value.slice ra ((opnM k a).length + (opnM k b).length) rc).ownBlock = some q → w.heap.size ≤ q) ∧ Below w.heap.size w w' := by
 have hal := MOk.lt a ha
 have hbl := MOk.lt b hb
 have hok := (MOk_iff _ _ _).1 ha
 have hok2 := (MOk_iff _ _ _).1 hb
 have hpa := (List.pairwise_append.1 hp).1
 have hpb := (List.pairwise_append.1 hp).2.1
 have hla : (opnM k a).length + (opnM k b).length ≤ 900000 := by
  have h1 := Stil.opn_sizes k a.net
  have h2 := Stil.opn_sizes k b.net
  have h3 := Stil.len_sizes (Stil.opn k a.net)
  have h4 := Stil.len_sizes (Stil.opn k b.net)
  rw [← opnM_net, List.length_map] at h3
  rw [← opnM_net, List.length_map] at h4
  rw [← opnM_net] at h1 h2
  omega
 obtain ⟨pa, ca, hav⟩ := slice_of_owns hok.1
 obtain ⟨qa, da, hak⟩ := slice_of_owns hok.2.1
 obtain ⟨pb, cb, hbv⟩ := slice_of_owns hok2.1
 obtain ⟨qb, db, hbk⟩ := slice_of_owns hok2.2.1
 obtain ⟨ak, aop, ads, aav, akv, aks⟩ := a
 obtain ⟨bk, bop, bds, bav, bkv, bks⟩ := b
 simp only at hav hak hbv hbk
 subst hav
 subst hak
 subst hbv
 subst hbk
 simp only at hok hok2
 obtain ⟨A, hA⟩ : ∃ A, A = MNet.mk ak aop ads (.slice pa ads.length ca) (.slice qa aks.length da) aks := ⟨_, rfl⟩
 obtain ⟨B, hB⟩ : ∃ B, B = MNet.mk bk bop bds (.slice pb bds.length cb) (.slice qb bks.length db) bks := ⟨_, rfl⟩
 rw [← hA] at ha hal hpa hp hla
 rw [← hB] at hb hbl hpb hp hla
 obtain ⟨MA, hMA⟩ : ∃ M, M = opnM k A := ⟨_, rfl⟩
 obtain ⟨MB, hMB⟩ : ∃ M, M = opnM k B := ⟨_, rfl⟩
 have hma1 : ak = k → MA = aks := fun h => by rw [hMA, hA]; unfold opnM; rw [if_pos h]
 have hma2 : ak ≠ k → MA = [A] := fun h => by rw [hMA, hA]; unfold opnM; rw [if_neg h]
 have hmb1 : bk = k → MB = bks := fun h => by rw [hMB, hB]; unfold opnM; rw [if_pos h]
 have hmb2 : bk ≠ k → MB = [B] := fun h => by rw [hMB, hB]; unfold opnM; rw [if_neg h]
 have hoka : ∀ x ∈ MA, MOk w base x := by rw [hMA]; exact opnM_ok ha
 have hokb : ∀ x ∈ MB, MOk w base x := by rw [hMB]; exact opnM_ok hb
 have hpair : (mVals MA ++ mVals MB).Pairwise Aside := by rw [hMA, hMB]; exact opnM_two hp
 have hva : ∀ x ∈ mVals MA, ∀ q, x.ownBlock = some q → q < w.heap.size := fun x hx q hq => (hal x (opnM_vals (by rw [← hMA]; exact hx)) q hq).2
 have hvb : ∀ x ∈ mVals MB, ∀ q, x.ownBlock = some q → q < w.heap.size := fun x hx q hq => (hbl x (opnM_vals (by rw [← hMB]; exact hx)) q hq).2
 have eMA : opnM k (MNet.mk ak aop ads (.slice pa ads.length ca) (.slice qa aks.length da) aks) = MA := by rw [hMA, hA]
 have eMB : opnM k (MNet.mk bk bop bds (.slice pb bds.length cb) (.slice qb bks.length db) bks) = MB := by rw [hMB, hB]
 simp only [eMA, eMB]
 rw [← hMA, ← hMB] at hla
 have HLA : Hid (MA.length + MB.length ≤ 900000) := hla
 have HOA : Hid (∀ W, Below w.heap.size w W → ∀ x ∈ MA, MOk W base x) := fun W h x hx => (hoka x hx).below h
 have HOB : Hid (∀ W, Below w.heap.size w W → ∀ x ∈ MB, MOk W base x) := fun W h x hx => (hokb x hx).below h
 have HPR : Hid ((mVals MA ++ mVals MB).Pairwise Aside) := hpair
 have HVA : Hid (∀ x ∈ mVals MA, ∀ q, x.ownBlock = some q → q < w.heap.size) := hva
 have HVB : Hid (∀ x ∈ mVals MB, ∀ q, x.ownBlock = some q → q < w.heap.size) := hvb
 have HRA : Hid (∀ W, Below w.heap.size w W → 0 < aks.length → ∃ p, qa = some p ∧ ∀ j u, (mCells aks)[j]? = some u → W.cell? (p.add j) = some u) := fun W h => cells_of_row (ownsRow_below hok.2.1 h)
 have HRB : Hid (∀ W, Below w.heap.size w W → 0 < bks.length → ∃ p, qb = some p ∧ ∀ j u, (mCells bks)[j]? = some u → W.cell? (p.add j) = some u) := fun W h => cells_of_row (ownsRow_below hok2.2.1 h)
 have HM1 : Hid (ak = k → MA = aks) := hma1
 have HM2 : Hid (ak ≠ k → MA = [A]) := hma2
 have HM3 : Hid (bk = k → MB = bks) := hmb1
 have HM4 : Hid (bk ≠ k → MB = [B]) := hmb2
 have HAE : Hid (A = MNet.mk ak aop ads (.slice pa ads.length ca) (.slice qa aks.length da) aks) := hA
 have HBE : Hid (B = MNet.mk bk bop bds (.slice pb bds.length cb) (.slice qb bks.length db) bks) := hB
 have HL1 : Hid (∀ (v : Value), (∀ q, v.ownBlock = some q → w.heap.size + 4 ≤ q) → ∀ x ∈ v :: (mVals MA ++ mVals MB), ∀ d, w.heap.size ≤ d → d < w.heap.size + 4 → x.ownBlock ≠ some d) := fun v hv x hx d h1 h2 e => by
  rcases List.mem_cons.1 hx with rfl | hx
  ·have := hv _ e; omega
  ·rcases List.mem_append.1 hx with hx | hx
   ·have := hva x hx _ e; omega
   ·have := hvb x hx _ e; omega
 have HPP : Hid (∀ (v : Value), (∀ q, v.ownBlock = some q → w.heap.size + 4 ≤ q) → (v :: (mVals MA ++ mVals MB)).Pairwise Aside) := fun v hv => by
  rw [List.pairwise_cons]
  refine ⟨fun y hy => (aside_new (n := w.heap.size) (fun q hq => ?_) (fun q hq => by have := hv q hq; omega)).symm, hpair⟩
  rcases List.mem_append.1 hy with hy | hy
  ·exact hva y hy q hq
  ·exact hvb y hy q hq
 clear eMA eMB hma1 hma2 hmb1 hmb2 hoka hokb hpair hva hvb hA hB hMA hMB hal hbl hok hok2 hpa hpb hp ha hb hs
 go_enter Tryz.func81, Tryz.ntmps81
 go_upto_if 13 with fail
 obtain ⟨W0, hW0⟩ : ∃ W, W = ((((w.alloc (.cells #[.int .i64 ak, .int .i64 aop, .slice pa ads.length ca, .slice qa aks.length da] 29)).alloc (.cells #[.int .i64 bk, .int .i64 bop, .slice pb bds.length cb, .slice qb bks.length db] 29)).alloc (.cells #[.int .i64 0, .int .i64 0, .slice none 0 0, .slice none 0 0] 29)).alloc (.cells #[.int .i64 k, .int .i64 0, .slice none 0 0, .slice none 0 0] 29)) := ⟨_, rfl⟩
 have hs0 : W0.heap.size = w.heap.size + 4 := by rw [hW0]; simp
 have hBW : Below w.heap.size w W0 := by rw [hW0]; exact bl_alloc (bl_alloc (bl_alloc (below_alloc _ _) _) _) _
 have b0 : B4 W0 w.heap.size (.int .i64 ak) (.int .i64 aop) (.slice pa ads.length ca) (.slice qa aks.length da) := by rw [hW0]; exact ((box4.al _).al _).al _
 have b1 : B4 W0 (w.heap.size + 1) (.int .i64 bk) (.int .i64 bop) (.slice pb bds.length cb) (.slice qb bks.length db) := by
  rw [hW0]
  have := (((box4 (w := w.alloc (.cells #[.int .i64 ak, .int .i64 aop, .slice pa ads.length ca, .slice qa aks.length da] 29)) (v0 := .int .i64 bk) (v1 := .int .i64 bop) (v2 := .slice pb bds.length cb) (v3 := .slice qb bks.length db) (t := 29)).al (.cells #[.int .i64 0, .int .i64 0, .slice none 0 0, .slice none 0 0] 29)).al (.cells #[.int .i64 k, .int .i64 0, .slice none 0 0, .slice none 0 0] 29))
  simpa using this
 have b2 : B4 W0 (w.heap.size + 2) (.int .i64 0) (.int .i64 0) (.slice none 0 0) (.slice none 0 0) := by
  rw [hW0]
  refine ⟨by simp, ⟨by simp [go_sem], by simp [go_sem], by simp [go_sem], by simp [go_sem]⟩, by simp [go_sem], by simp [go_sem], by simp [go_sem], by simp [go_sem]⟩
 have b3 : B4 W0 (w.heap.size + 3) (.int .i64 k) (.int .i64 0) (.slice none 0 0) (.slice none 0 0) := by
  rw [hW0]
  refine ⟨by simp, ⟨by simp [go_sem], by simp [go_sem], by simp [go_sem], by simp [go_sem]⟩, by simp [go_sem], by simp [go_sem], by simp [go_sem], by simp [go_sem]⟩
 have HB1 : Hid (B4 W0 (w.heap.size + 1) (.int .i64 bk) (.int .i64 bop) (.slice pb bds.length cb) (.slice qb bks.length db)) := b1
 have HB2 : Hid (B4 W0 (w.heap.size + 2) (.int .i64 0) (.int .i64 0) (.slice none 0 0) (.slice none 0 0)) := b2
 have HB3 : Hid (B4 W0 (w.heap.size + 3) (.int .i64 k) (.int .i64 0) (.slice none 0 0) (.slice none 0 0)) := b3
 have HS0 : Hid (W0.heap.size = w.heap.size + 4) := hs0
 rw [← hW0]
 clear hW0 b1 b2 hs0
 obtain ⟨_, ⟨q0, q1, q2, q3⟩, _⟩ := b0
 obtain ⟨_, ⟨t0, t1, t2, t3⟩, _, _, _, t4⟩ := b3
 go_cut [] (fun wc => ∃ (a5 : Option Addr) (c5 : Nat), MRow wc base (.slice a5 MA.length c5) MA ∧ (∀ q, (Value.slice a5 MA.length c5).ownBlock = some q → w.heap.size + 4 ≤ q) ∧ B4 wc (w.heap.size + 1) (.int .i64 bk) (.int .i64 bop) (.slice pb bds.length cb) (.slice qb bks.length db) ∧ B4 wc (w.heap.size + 2) (.int .i64 0) (.int .i64 0) (.slice none 0 0) (.slice none 0 0) ∧ B4 wc (w.heap.size + 3) (.int .i64 k) (.int .i64 0) (.slice none 0 0) (.slice a5 MA.length c5) ∧ Below w.heap.size w wc)
 case first =>
  by_cases hk : ak = k
  ·have hm := HM1.out hk
   subst hk
   subst hm
   go_wp2_with (at_builtin; refine wpList_first_nets rfl _ _ rfl base (w.heap.size + 4) MA qa da rfl rfl (HRA.out _ hBW) (HOA.out _ hBW) (List.pairwise_append.1 HPR.out).1 (by have := HLA.out; omega) (by have := HS0.out; omega) (by have := HS0.out; omega) ?_; intro a5 c5 w5 hm5 hb5 hq5; obtain ⟨_, ⟨_, _, _, y3⟩, _, _, _, y4⟩ := HB3.out.below hb5 (by omega); have HM5 : Hid (MRow w5 base (.slice a5 MA.length c5) MA) := hm5; have HQ5 : Hid (∀ q, (Value.slice a5 MA.length c5).ownBlock = some q → w.heap.size + 4 ≤ q) := hq5; clear hm5 hq5)
   go_meet
   refine ⟨a5, c5, HM5.out.setO (fun x hx => HL1.out _ HQ5.out x (by rcases List.mem_cons.1 hx with rfl | hx <;> simp [*]) _ (by first | (simp; done) | (simp; omega)) (by first | (simp; done) | (simp; omega))) _, HQ5.out, ?_, ?_, ?_, ?_⟩
   ·exact (HB1.out.below hb5 (by omega)).setO (by omega) _
   ·exact (HB2.out.below hb5 (by omega)).setO (by omega) _
   ·exact (HB3.out.below hb5 (by omega)).set3 _
   ·exact (hBW.trans (hb5.mono (by omega))).setCell (by first | (simp; done) | (simp; omega)) _
  ·have hm := HM2.out hk
   have hA := HAE.out
   subst hA
   subst hm
   have ekk : (ak == k) = false := by rw [beq_eq_false_iff_ne]; exact hk
   go_wp2_with (at_builtin; refine wpList_first_nets rfl _ _ rfl base (w.heap.size + 4) [MNet.mk ak aop ads (.slice pa ads.length ca) (.slice qa aks.length da) aks] (some ⟨W0.heap.size, 0, none⟩) 1 rfl rfl (fun _ => ⟨_, rfl, by exact cells4⟩) (HOA.out _ (bl_alloc hBW _)) (List.pairwise_append.1 HPR.out).1 (by simp) (by have := HS0.out; simp; omega) (by have := HS0.out; simp; omega) ?_; intro a5 c5 w5 hm5 hb5 hq5; obtain ⟨_, ⟨_, _, _, y3⟩, _, _, _, y4⟩ := (HB3.out.al _).below hb5 (by omega); have HM5 : Hid (MRow w5 base (.slice a5 1 c5) [MNet.mk ak aop ads (.slice pa ads.length ca) (.slice qa aks.length da) aks]) := hm5; have HQ5 : Hid (∀ q, (Value.slice a5 1 c5).ownBlock = some q → w.heap.size + 4 ≤ q) := hq5; clear hm5 hq5)
   go_meet
   refine ⟨a5, c5, HM5.out.setO (fun x hx => HL1.out _ HQ5.out x (by rcases List.mem_cons.1 hx with rfl | hx <;> simp [*]) _ (by first | (simp; done) | (simp; omega)) (by first | (simp; done) | (simp; omega))) _, HQ5.out, ?_, ?_, ?_, ?_⟩
   ·exact ((HB1.out.al _).below hb5 (by omega)).setO (by omega) _
   ·exact ((HB2.out.al _).below hb5 (by omega)).setO (by omega) _
   ·exact ((HB3.out.al _).below hb5 (by omega)).set3 _
   ·exact ((bl_alloc hBW _).trans (hb5.mono (by omega))).setCell (by first | (simp; done) | (simp; omega)) _
 case rest =>
  clear q0 q1 q2 q3 t0 t1 t2 t3 t4 hBW
  obtain ⟨a5, c5, hm5, hq5, b1, b2, b3, hBc⟩ := hcut
  have HMC : Hid (MRow wc base (.slice a5 MA.length c5) MA) := hm5
  have HQC : Hid (∀ q, (Value.slice a5 MA.length c5).ownBlock = some q → w.heap.size + 4 ≤ q) := hq5
  have HC2 : Hid (B4 wc (w.heap.size + 2) (.int .i64 0) (.int .i64 0) (.slice none 0 0) (.slice none 0 0)) := b2
  have HC3 : Hid (B4 wc (w.heap.size + 3) (.int .i64 k) (.int .i64 0) (.slice none 0 0) (.slice a5 MA.length c5)) := b3
  have hsz := b3.1
  obtain ⟨_, ⟨q0, q1, q2, q3⟩, _⟩ := b1
  obtain ⟨_, ⟨t0, t1, t2, t3⟩, _, _, _, t4⟩ := b3
  clear hm5 hq5 b2
  by_cases hk : bk = k
  ·have hm := HM3.out hk
   subst hk
   subst hm
   go_wp2_with (at_builtin; refine wpList_grow_nets rfl _ _ rfl base (w.heap.size + 4) a5 c5 MA MB qb db rfl rfl HMC.out (HRB.out _ hBc) (HOB.out _ hBc) (HPP.out _ HQC.out) (by have := HLA.out; omega) (by omega) (by omega) HQC.out ?_; intro a6 c6 w6 hm6 hb6 hq6; have HZ6 : Hid (B4 w6 (w.heap.size + 2) (.int .i64 0) (.int .i64 0) (.slice none 0 0) (.slice none 0 0)) := HC2.out.below hb6 (by omega); obtain ⟨_, ⟨y0, y1, y2, y3⟩, _, _, _, y4⟩ := HC3.out.below hb6 (by omega); obtain ⟨_, ⟨x0, x1, x2, x3⟩, x4, x5, x6, x7⟩ := HZ6.out; have HM6 : Hid (MRow w6 base (.slice a6 (MA.length + MB.length) c6) (MA ++ MB)) := hm6; have HQ6 : Hid (∀ q, (Value.slice a6 (MA.length + MB.length) c6).ownBlock = some q → w.heap.size + 4 ≤ q) := hq6; have HB6 : Hid (Below w.heap.size w w6) := hBc.trans (hb6.mono (by omega)); clear hm6 hq6)
   obtain ⟨_, ⟨z0, z1, z2, z3⟩, _⟩ := HZ6.out
   all_goals
    refine bodyPost_ret (v := .agg #[.int .i64 bk, .int .i64 0, .slice none 0 0, .slice a6 (MA.length + MB.length) c6]) (by simp [results, Tryz.results81, go_sem, z0, z1, z2, z3]) rfl ⟨a6, c6, rfl, ?_, fun q hq => by have := HQ6.out q hq; omega, ?_⟩
    ·exact HM6.out.setsO (fun x hx => HL1.out _ HQ6.out x (by rw [← mVals_append]; exact hx) _ (by omega) (by omega)) (fun x hx => HL1.out _ HQ6.out x (by rw [← mVals_append]; exact hx) _ (by omega) (by omega))
    ·have hB6 := HB6.out
     (repeat (first | with_reducible exact Below.refl _ _ | with_reducible assumption | with_reducible refine bl_set (by first | exact Nat.le_refl _ | (simp; done) | (simp; omega) | omega) ?_ _ | with_reducible refine bl_alloc ?_ _ | with_reducible refine bl_drewN ?_ _ | with_reducible refine bl_drew ?_ | with_reducible refine bl_grow ?_ _ _ | with_reducible refine bl_call ?_ (by assumption)))
  ·have hm := HM4.out hk
   have hB := HBE.out
   subst hB
   subst hm
   have ekk : (bk == k) = false := by rw [beq_eq_false_iff_ne]; exact hk
   go_wp2_with (at_builtin; refine wpList_grow_nets rfl _ _ rfl base (w.heap.size + 4) a5 c5 MA [MNet.mk bk bop bds (.slice pb bds.length cb) (.slice qb bks.length db) bks] (some ⟨wc.heap.size, 0, none⟩) 1 rfl rfl (HMC.out.below (below_alloc _ _)) (fun _ => ⟨_, rfl, by exact cells4⟩) (HOB.out _ (bl_alloc hBc _)) (HPP.out _ HQC.out) (by have := HLA.out; omega) (by simp; omega) (by simp; omega) HQC.out ?_; intro a6 c6 w6 hm6 hb6 hq6; have HZ6 : Hid (B4 w6 (w.heap.size + 2) (.int .i64 0) (.int .i64 0) (.slice none 0 0) (.slice none 0 0)) := (HC2.out.al _).below hb6 (by omega); obtain ⟨_, ⟨y0, y1, y2, y3⟩, _, _, _, y4⟩ := (HC3.out.al _).below hb6 (by omega); obtain ⟨_, ⟨x0, x1, x2, x3⟩, x4, x5, x6, x7⟩ := HZ6.out; have HM6 : Hid (MRow w6 base (.slice a6 (MA.length + 1) c6) (MA ++ [MNet.mk bk bop bds (.slice pb bds.length cb) (.slice qb bks.length db) bks])) := hm6; have HQ6 : Hid (∀ q, (Value.slice a6 (MA.length + 1) c6).ownBlock = some q → w.heap.size + 4 ≤ q) := hq6; have HB6 : Hid (Below w.heap.size w w6) := (bl_alloc hBc _).trans (hb6.mono (by omega)); clear hm6 hq6)
   obtain ⟨_, ⟨z0, z1, z2, z3⟩, _⟩ := HZ6.out
   all_goals
    refine bodyPost_ret (v := .agg #[.int .i64 k, .int .i64 0, .slice none 0 0, .slice a6 (MA.length + 1) c6]) (by simp [results, Tryz.results81, go_sem, z0, z1, z2, z3]) rfl ⟨a6, c6, rfl, ?_, fun q hq => by have := HQ6.out q hq; omega, ?_⟩
    ·exact HM6.out.setsO (fun x hx => HL1.out _ HQ6.out x (by rw [← mVals_append]; exact hx) _ (by omega) (by omega)) (fun x hx => HL1.out _ HQ6.out x (by rw [← mVals_append]; exact hx) _ (by omega) (by omega))
    ·have hB6 := HB6.out
     (repeat (first | with_reducible exact Below.refl _ _ | with_reducible assumption | with_reducible refine bl_set (by first | exact Nat.le_refl _ | (simp; done) | (simp; omega) | omega) ?_ _ | with_reducible refine bl_alloc ?_ _ | with_reducible refine bl_drewN ?_ _ | with_reducible refine bl_drew ?_ | with_reducible refine bl_grow ?_ _ _ | with_reducible refine bl_call ?_ (by assumption)))
/-- A net is answered whose memory is that of vs, or new since lo. -/
def PutRet (w : World) (base : Nat) (vs : List Value) (lo : Nat) (n : Stil.Net) (e : Ending) : Prop := ∃ (k op : Int) (ds : List Stil.Dev) (a1 : Option Addr) (c1 : Nat) (a2 : Option Addr) (c2 : Nat) (ms : List MNet), e = .returned (.agg #[.int .i64 k, .int .i64 op, .slice a1 ds.length c1, .slice a2 ms.length c2]) ∧
 MOwn w base ⟨k, op, ds, .slice a1 ds.length c1, .slice a2 ms.length c2, ms⟩ ∧ (MNet.mk k op ds (.slice a1 ds.length c1) (.slice a2 ms.length c2) ms).net = n ∧ ∀ x ∈ (MNet.mk k op ds (.slice a1 ds.length c1) (.slice a2 ms.length c2) ms).vals, x ∈ vs ∨ ∀ q, x.ownBlock = some q → lo ≤ q
theorem put_ret {w w' : World} {base : Nat} {k : Int} {a b : MNet} {ra : Option Addr} {rc : Nat} (h : MRow w' base (.slice ra ((opnM k a).length + (opnM k b).length) rc) (opnM k a ++ opnM k b)) (hq : ∀ q, (Value.slice ra ((opnM k a).length + (opnM k b).length) rc).ownBlock = some q → w.heap.size ≤ q) :
  PutRet w' base (a.vals ++ b.vals) w.heap.size (Stil.putNet k a.net b.net) (.returned (.agg #[.int .i64 k, .int .i64 0, .slice none 0 0, .slice ra ((opnM k a).length + (opnM k b).length) rc])) := by
 refine ⟨k, 0, [], none, 0, ra, rc, opnM k a ++ opnM k b, by rw [List.length_append]; rfl, ?_, ?_, ?_⟩
 ·rw [List.length_append]
  exact h.net k 0 [] (World.ownsRow_nil _ _ _ _) (fun x _ => aside_nil x)
 ·rw [MNet.net_eq]
  unfold Stil.putNet
  rw [← opnM_net, ← opnM_net, ← List.map_append]
 ·intro x hx
  rw [MNet.vals_eq] at hx
  simp only [List.mem_cons] at hx
  rcases hx with rfl | rfl | hx
  ·exact .inr (fun q hq => by cases hq)
  ·exact .inr (fun q h => hq q (by rw [← List.length_append]; exact h))
  ·left
   rw [mVals_append] at hx
   rcases List.mem_append.1 hx with hx | hx
   ·exact List.mem_append_left _ (opnM_vals hx)
   ·exact List.mem_append_right _ (opnM_vals hx)
theorem MOwn.apart4 {w : World} {base b : Nat} {m : MNet} {u1 u2 u3 u4 : Value} (h : MOwn w base m) (hb : ∀ x ∈ m.vals, x.ownBlock ≠ some b) : MOwn ((((w.setCell ⟨b, 0, none⟩ u1).setCell ⟨b, 1, none⟩ u2).setCell ⟨b, 2, none⟩ u3).setCell ⟨b, 3, none⟩ u4) base m :=
 ⟨MOk.map m h.1 (fun _ _ _ _ _ hx ho => ownsRow_setCell_other (ownsRow_setCell_other (ownsRow_setCell_other (ownsRow_setCell_other ho (hb _ hx) _) (hb _ hx) _) (hb _ hx) _) (hb _ hx) _), h.2⟩
theorem s_add (k : Int) (a b : MNet) (base : Nat) (w : World) (ha : MOk w base a) (hb : MOk w base b) (hp : (a.vals ++ b.vals).Pairwise Aside) (hs : Stil.netSize a.net + Stil.netSize b.net ≤ 900000) (hbase : base ≤ w.heap.size) :
  Calls Tryz.prog 49 #[.int .i64 k, .agg #[.int .i64 a.kind, .int .i64 a.op, a.av, a.kv], .agg #[.int .i64 b.kind, .int .i64 b.op, b.av, b.kv]] w fun e w' => PutRet w' base (a.vals ++ b.vals) w.heap.size (Stil.addNet k a.net b.net) e ∧ Below w.heap.size w w' := by
 have HPT : Hid (∀ W, Below w.heap.size w W → Calls Tryz.prog 81 #[.int .i64 k, .agg #[.int .i64 a.kind, .int .i64 a.op, a.av, a.kv], .agg #[.int .i64 b.kind, .int .i64 b.op, b.av, b.kv]] W fun e w' => PutRet w' base (a.vals ++ b.vals) W.heap.size (Stil.putNet k a.net b.net) e ∧ Below W.heap.size W w') := fun W h => by
  refine (s_put k a b base W (ha.below h) (hb.below h) hp hs (Nat.le_trans hbase h.size)).mono ?_
  rintro e w' ⟨ra, rc, rfl, h1, h2, h3⟩
  exact ⟨put_ret h1 h2, h3⟩
 have hok := (MOk_iff _ _ _).1 ha
 have hok2 := (MOk_iff _ _ _).1 hb
 obtain ⟨pa, ca, hav⟩ := slice_of_owns hok.1
 obtain ⟨qa, da, hak⟩ := slice_of_owns hok.2.1
 obtain ⟨pb, cb, hbv⟩ := slice_of_owns hok2.1
 obtain ⟨qb, db, hbk⟩ := slice_of_owns hok2.2.1
 have HN : Hid (Stil.addNet k a.net b.net = if a.kind = 0 then b.net else Stil.putNet k a.net b.net) := by
  show _ = _
  unfold Stil.addNet
  rw [show a.net.kind = a.kind by rw [MNet.net_eq]]
 have HMB : Hid (∀ W, Below w.heap.size w W → MOwn W base b) := fun W h => ⟨hb.below h, (List.pairwise_append.1 hp).2.1⟩
 have HVL : Hid (∀ x ∈ a.vals ++ b.vals, ∀ q, x.ownBlock = some q → q < w.heap.size) := fun x hx q hq => by
  rcases List.mem_append.1 hx with hx | hx
  ·exact (MOk.lt a ha x hx q hq).2
  ·exact (MOk.lt b hb x hx q hq).2
 have HSB : Hid (∀ x ∈ b.vals, x ∈ a.vals ++ b.vals) := fun x hx => List.mem_append_right _ hx
 obtain ⟨vs, hvs⟩ : ∃ vs, vs = a.vals ++ b.vals := ⟨_, rfl⟩
 obtain ⟨N, hN⟩ : ∃ N, N = Stil.addNet k a.net b.net := ⟨_, rfl⟩
 obtain ⟨NP, hNP⟩ : ∃ N, N = Stil.putNet k a.net b.net := ⟨_, rfl⟩
 rw [← hvs] at HPT HSB HVL ⊢
 rw [← hN] at HN ⊢
 rw [← hNP] at HPT HN
 clear hvs hN hNP ha hb hp hs hok hok2
 obtain ⟨ak, aop, ads, aav, akv, aks⟩ := a
 obtain ⟨bk, bop, bds, bav, bkv, bks⟩ := b
 simp only at hav hak hbv hbk HPT HN ⊢
 subst hav
 subst hak
 subst hbv
 subst hbk
 by_cases hk : ak = 0
 ·subst hk
  rw [if_pos rfl] at HN
  clear HPT
  go_enter Tryz.func49, Tryz.ntmps49
  go_wp2
  refine bodyPost_ret (v := .agg #[.int .i64 bk, .int .i64 bop, .slice pb bds.length cb, .slice qb bks.length db]) (by simp [results, Tryz.results49, go_sem]) rfl ⟨⟨bk, bop, bds, pb, cb, qb, db, bks, rfl, ?_, HN.out.symm, fun x hx => .inl (HSB.out x hx)⟩, blA⟩
  exact HMB.out _ blA
 ·rw [if_neg hk] at HN
  have ekk : (ak == 0) = false := by rw [beq_eq_false_iff_ne]; exact hk
  go_enter Tryz.func49, Tryz.ntmps49
  go_wp2_with (go_at_call 81; refine (HPT.out _ blA).mono ?_; rintro e w2 ⟨⟨mk, mop, mds, s0, t0, s1, t1, mks, rfl, hmo, hmn, hmv⟩, hb2⟩; have HMO : Hid (MOwn w2 base ⟨mk, mop, mds, .slice s0 mds.length t0, .slice s1 mks.length t1, mks⟩) := hmo; have HMV : Hid (∀ x ∈ (MNet.mk mk mop mds (.slice s0 mds.length t0) (.slice s1 mks.length t1) mks).vals, x ∈ vs ∨ ∀ q, x.ownBlock = some q → _ ≤ q) := hmv; have HMN : Hid ((MNet.mk mk mop mds (.slice s0 mds.length t0) (.slice s1 mks.length t1) mks).net = NP) := hmn; clear hmo hmn hmv; obtain ⟨hc2, hf2⟩ := bcell hb2)
  have z0 : w2.cell? ⟨w.heap.size + 2, 0, none⟩ = some (.int .i64 0) := by rw [hc2 _ _ (by simp)]; simp [go_sem]
  have z1 : w2.cell? ⟨w.heap.size + 2, 1, none⟩ = some (.int .i64 0) := by rw [hc2 _ _ (by simp)]; simp [go_sem]
  have z2 : w2.cell? ⟨w.heap.size + 2, 2, none⟩ = some (.slice none 0 0) := by rw [hc2 _ _ (by simp)]; simp [go_sem]
  have z3 : w2.cell? ⟨w.heap.size + 2, 3, none⟩ = some (.slice none 0 0) := by rw [hc2 _ _ (by simp)]; simp [go_sem]
  refine bodyPost_ret (v := .agg #[.int .i64 mk, .int .i64 mop, .slice s0 mds.length t0, .slice s1 mks.length t1]) (by simp [results, Tryz.results49, go_sem, z0, z1, z2, z3]) rfl ⟨⟨mk, mop, mds, s0, t0, s1, t1, mks, rfl, ?_, HMN.out.trans HN.out.symm, fun x hx => ?_⟩, blA⟩
  ·refine HMO.out.apart4 (fun x hx e => ?_)
   rcases HMV.out x hx with h | h
   ·have := HVL.out x h _ e; omega
   ·have := h _ e; simp at this; omega
  ·rcases HMV.out x hx with h | h
   ·exact .inl h
   ·exact .inr (fun q hq => by have := h q hq; simp at this; omega)
theorem mCells_set : ∀ (ms : List MNet) (i : Nat) (_ : i < ms.length) (m : MNet), mCells (ms.set i m) = ((((mCells ms).set (i * 4) (.int .i64 m.kind)).set (i * 4 + 1) (.int .i64 m.op)).set (i * 4 + 2) m.av).set (i * 4 + 3) m.kv
 | [], _, h, _ => by simp at h
 | x :: r, 0, _, m => rfl
 | x :: r, i + 1, h, m => by
  have ih := mCells_set r i (by simpa using h) m
  have e : ∀ (y : MNet) (l : List MNet), mCells (y :: l) = .int .i64 y.kind :: .int .i64 y.op :: y.av :: y.kv :: mCells l := fun _ _ => rfl
  have e1 : (i + 1) * 4 = i * 4 + 1 + 1 + 1 + 1 := by omega
  rw [List.set_cons_succ, e, ih, e, e1]
  rfl
theorem aside_ne {v x : Value} {g : Nat} (h : Aside v x) (hv : v.ownBlock = some g) : x.ownBlock ≠ some g := fun e => h.no hv e
/-- A net is stored in a row of nets. -/
theorem MRow.stored {w : World} {base g cap i : Nat} {ms : List MNet} {m : MNet} (h : MRow w base (.slice (some ⟨g, 0, none⟩) ms.length cap) ms) (hi : i < ms.length) (hm : MOk w base m) (hp : (Value.slice (some ⟨g, 0, none⟩) ms.length cap :: mVals (ms.set i m)).Pairwise Aside) :
  MRow ((((w.setCell ⟨g, i * 4, none⟩ (.int .i64 m.kind)).setCell ⟨g, i * 4 + 1, none⟩ (.int .i64 m.op)).setCell ⟨g, i * 4 + 2, none⟩ m.av).setCell ⟨g, i * 4 + 3, none⟩ m.kv) base (.slice (some ⟨g, 0, none⟩) ms.length cap) (ms.set i m) := by
 refine ⟨?_, fun x hx => ?_, hp⟩
 ·rw [List.length_set, mCells_set ms i hi m]
  exact ((((h.1.stored (i * 4) _).1.stored (i * 4 + 1) _).1.stored (i * 4 + 2) _).1.stored (i * 4 + 3) _).1
 ·have hx0 : MOk w base x := by
   rcases List.mem_or_eq_of_mem_set hx with hx | rfl
   ·exact h.2.1 x hx
   ·exact hm
  have hb : ∀ y ∈ x.vals, y.ownBlock ≠ some g := fun y hy => aside_ne ((List.pairwise_cons.1 hp).1 y (mem_mVals.2 ⟨x, hx, hy⟩)) rfl
  exact MOk.map x hx0 (fun _ _ _ _ _ hy ho => ownsRow_setCell_other (ownsRow_setCell_other (ownsRow_setCell_other (ownsRow_setCell_other ho (hb _ hy) _) (hb _ hy) _) (hb _ hy) _) (hb _ hy) _)
/-- The first nets of a row. -/
theorem MRow.firsts {w : World} {base n cap : Nat} {a : Option Addr} {ms : List MNet} (h : MRow w base (.slice a ms.length cap) ms) (hn : n ≤ ms.length) : MRow w base (.slice a n cap) (ms.take n) ∨ n = 0 := by
 by_cases h0 : n = 0
 ·exact .inr h0
 ·left
  have hl : (ms.take n).length = n := by rw [List.length_take]; omega
  refine ⟨?_, fun m hm => h.2.1 m (List.mem_of_mem_take hm), ?_⟩
  ·rw [hl]
   rcases h.1.2 with ⟨_, h1⟩ | ⟨g, c, cur, hv, h1, h2, h3, h4, h5, h6⟩
   ·omega
   ·have e1 : mCells ms = mCells (ms.take n) ++ mCells (ms.drop n) := by rw [← mCells_append, List.take_append_drop]
    have e2 := mCells_len (ms.take n)
    rw [hl] at e2
    simp only [Value.slice.injEq] at hv
    obtain ⟨rfl, _, rfl⟩ := hv
    refine ⟨e2, .inr ⟨g, cap, cur, rfl, h1, h2, by omega, h4, h5, ?_⟩⟩
    rw [e1] at h6
    have h7 := congrArg (List.take (n * 4)) h6
    rw [List.take_take, List.take_left' e2] at h7
    rw [← h7]
    congr 1
    have := Nat.mul_le_mul_right 4 hn
    omega
  ·have h2 := h.2.2
   rw [← List.take_append_drop n ms, mVals_append] at h2
   rw [List.pairwise_cons] at h2 ⊢
   have hob : (Value.slice a n cap).ownBlock = (Value.slice a ms.length cap).ownBlock := by cases a <;> rfl
   refine ⟨fun y hy => ?_, (List.pairwise_append.1 h2.2).1⟩
   have h3 := h2.1 y (List.mem_append_left _ hy)
   rw [List.take_append_drop] at h3
   unfold Aside at h3 ⊢
   rw [hob]
   exact h3
end Go.Proofs.YtpaljcoojkbhnaaGreatDoor
