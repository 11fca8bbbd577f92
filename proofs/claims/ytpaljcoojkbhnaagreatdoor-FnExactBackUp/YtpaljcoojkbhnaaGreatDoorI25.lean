/- The program's chapter 8: one instruction on a stack of nets: and, or. -/
import Derived.Test.YtpaljcoojkbhnaaGreatDoorI24
import Derived.Test.YtpaljcoojkbhnaaGreatDoorS23
import Derived.Deep.RegionHeld3
set_option maxHeartbeats 4000000
set_option maxRecDepth 100000
namespace Go.Proofs.YtpaljcoojkbhnaaGreatDoor
open Go.RowKit Go.Sort Go.BigFrame
theorem cel_drew {W : World} {a : Addr} : W.drew.cell? a = W.cell? a := rfl
theorem cel_alloc {W : World} {ob : Obj} {c p : Nat} (h : c < W.heap.size) : (W.alloc ob).cell? ⟨c, p, none⟩ = W.cell? ⟨c, p, none⟩ := (below_alloc W ob).cell (p := ⟨c, p, none⟩) h
theorem mVals_cons (m : MNet) (ms : List MNet) : mVals (m :: ms) = m.vals ++ mVals ms := by rw [← mVals_one m, ← mVals_append]; rfl
theorem tog_push {V w2 : World} {base lo b : Nat} {bs : List Nat} {m one M : MNet} {r : List MNet} {v p : Value} (hst : StackAt V base (b :: bs) (m :: r) v) (hlow : ∀ x ∈ mVals (m :: r), ∀ q, x.ownBlock = some q → q < lo) (hlb : ∀ c ∈ bs, c < lo) (hone : ∀ x ∈ one.vals, ∀ q, x.ownBlock = some q → lo ≤ q) (hlo : lo ≤ V.heap.size) (hg : V.grownBy w2 m.kv.ownBlock) (hM : MOwn w2 base M) (hv : ∀ x ∈ M.vals, x ∈ m.vals ++ one.vals ∨ x.ownBlock = m.kv.ownBlock ∨ ∀ q, x.ownBlock = some q → V.heap.size ≤ q) (hp : LinkAt V bs r p) :
  StackAt w2 base bs r p ∧ (M.vals ++ mVals r).Pairwise Aside ∧ ∀ c ∈ bs, ∀ x ∈ M.vals, x.ownBlock ≠ some c := by
 have hkv : m.kv ∈ m.vals := by rw [MNet.vals_eq]; simp
 have hap := hst.apart
 rw [mVals_cons, List.pairwise_append] at hap
 have hmem : ∀ x ∈ m.vals, x ∈ mVals (m :: r) := fun x hx => by rw [mVals_cons]; exact List.mem_append_left _ hx
 have hmer : ∀ x ∈ mVals r, x ∈ mVals (m :: r) := fun x hx => by rw [mVals_cons]; exact List.mem_append_right _ hx
 refine ⟨⟨hp.kept hg (fun c hc => (hst.free c (List.mem_cons_of_mem _ hc)).2.2 _ (hmem _ hkv)), fun x hx => (hst.oks x (List.mem_cons_of_mem _ hx)).kept hg (fun u hu => (hap.2.2 _ hkv u (mem_mVals.2 ⟨x, hx, hu⟩)).symm), hap.2.1, fun c hc => ⟨(hst.free c (List.mem_cons_of_mem _ hc)).1, Nat.lt_of_lt_of_le (hst.free c (List.mem_cons_of_mem _ hc)).2.1 hg.size, fun x hx => (hst.free c (List.mem_cons_of_mem _ hc)).2.2 x (hmer x hx)⟩⟩, ?_, fun c hc x hx e => ?_⟩
 ·rw [List.pairwise_append]
  refine ⟨hM.2, hap.2.1, fun x hx y hy => ?_⟩
  rcases hv x hx with h | h | h
  ·rcases List.mem_append.1 h with h | h
   ·exact hap.2.2 x h y hy
   ·exact (aside_new (n := lo) (hlow y (hmer y hy)) (hone x h)).symm
  ·have h3 := hap.2.2 _ hkv y hy
   unfold Aside at h3 ⊢
   rw [h]
   exact h3
  ·exact (aside_new (n := lo) (hlow y (hmer y hy)) (fun q hq => Nat.le_trans hlo (h q hq))).symm
 ·have hcl := hlb c hc
  rcases hv x hx with h | h | h
  ·rcases List.mem_append.1 h with h | h
   ·exact (hst.free c (List.mem_cons_of_mem _ hc)).2.2 x (hmem x h) e
   ·have := hone x h _ e; omega
  ·rw [h] at e
   exact (hst.free c (List.mem_cons_of_mem _ hc)).2.2 _ (hmem _ hkv) e
  ·have := h _ e; omega
theorem i_behind2 (i : Stil.Inst) (av : Value) (bs : List Nat) (m : MNet) (r : List MNet) (v : Value) (base : Nat) (w : World) (hst : StackAt w base bs (m :: r) v) (hav : DevsAt w av i.one.args) (hf : i.fits) (hcc : i.code = 2) (hgd : Stil.netOk m.net) (hsz : Stil.netSize m.net ≤ 800000) (hbase : base ≤ w.heap.size) :
  Calls Tryz.prog 55 #[v, .agg #[.int .i64 i.code, .int .i64 i.one.op, av]] w fun e w' => BehRet w w' base (Stil.doNet i.code i.one ((m :: r).map MNet.net)) e := by
 have HCP : Hid (∀ W, Below w.heap.size w W → Calls Tryz.prog 87 #[.agg #[.int .i64 i.one.op, av]] W fun r w' => ∃ u, r = .returned (.agg #[.int .i64 i.one.op, u]) ∧ w'.ownsRow W.heap.size 117 3 u i.one.args.length (devsCells i.one.args) ∧ Below W.heap.size W w') := fun W h => i_normElem i.one.op av i.one.args W (hav.below h) hf.2.2.1
 obtain ⟨p0, r0, rfl, -⟩ := hav
 obtain ⟨c, op, ds⟩ := i
 simp only at HCP hcc ⊢
 subst hcc
 have HS : Hid (StackAt w base bs (m :: r) v) := hst
 clear hst hf
 go_enter Tryz.func55, Tryz.ntmps55
 go_upto_region 2 with (go_at_call 87; refine (HCP.out _ blA).mono ?_; rintro e w1 ⟨u1, rfl, hown, hb1⟩; obtain ⟨a1, c1, hu⟩ := slice_of_owns hown; subst hu; have HOW : Hid (w1.ownsRow (w.heap.size + 1) 117 3 (.slice a1 ds.length c1) ds.length (devsCells ds)) := (by have h := hown; simp only [World.size_alloc] at h; exact h); clear hown)
 have hB1 : Below w.heap.size w w1 := blA
 have hs1 : w.heap.size < w1.heap.size := by have := hb1.size; simp at this; omega
 obtain ⟨W, hW⟩ : ∃ W, W = w1.alloc (.cells #[.int .i64 1, .int .i64 op, .slice a1 ds.length c1, .slice none 0 0] 29) := ⟨_, rfl⟩
 have hb1W : Below w1.heap.size w1 W := by rw [hW]; exact below_alloc _ _
 have hBW : Below w.heap.size w W := bl_call hB1 hb1W
 have HON : Hid (MOwn W base (oneM op ds a1 c1)) := ((oneM_own HOW.out).le (by omega)).below hb1W
 have HHI : Hid (∀ x ∈ (oneM op ds a1 c1).vals, ∀ q, x.ownBlock = some q → w.heap.size < q) := fun x hx q hq => by
  have := (MOk.lt _ (oneM_own (op := op) HOW.out).1 x hx q hq).1
  omega
 have k0 : W.cell? ⟨w.heap.size, 0, none⟩ = some (.int .i64 2) := by
  rw [hb1W.cell (p := ⟨w.heap.size, 0, none⟩) hs1, hb1.cell (p := ⟨w.heap.size, 0, none⟩) (by simp)]
  simp [go_sem]
 have bx : B4 W w1.heap.size (.int .i64 1) (.int .i64 op) (.slice a1 ds.length c1) (.slice none 0 0) := by rw [hW]; exact box4
 rw [← hW]
 clear hW hb1W hB1 hb1 HOW HCP
 obtain ⟨hbo, ⟨o0, o1, o2, o3⟩, _⟩ := bx
 have hSW := HS.out.below hBW
 obtain ⟨b, bs', rfl, rfl, hbl, ⟨h0, h1, h2, h3⟩, p, h4, hlp⟩ := hSW.link.cons
 have hok := (MOk_iff _ _ _).1 (hSW.oks m (by simp))
 obtain ⟨pa, ca, hma⟩ := slice_of_owns hok.1
 obtain ⟨qa, da, hmk⟩ := slice_of_owns hok.2.1
 have hpp := hlp.ptr
 have hmp : m.vals.Pairwise Aside := by
  have := hSW.apart
  rw [mVals_cons] at this
  exact (List.pairwise_append.1 this).1
 have hmlow : ∀ x ∈ mVals (m :: r), ∀ q, x.ownBlock = some q → q < w.heap.size := HS.out.low
 have hkv : m.kv ∈ m.vals := by rw [MNet.vals_eq]; simp
 have hmem : ∀ x ∈ m.vals, x ∈ mVals (m :: r) := fun x hx => by rw [mVals_cons]; exact List.mem_append_left _ hx
 have hkb : m.kv.ownBlock ≠ some b := (hSW.free b (by simp)).2.2 _ (hmem _ hkv)
 have hw1W : w1.heap.size < W.heap.size := hbo
 have hkw1 : m.kv.ownBlock ≠ some w1.heap.size := fun e => by have := hmlow _ (hmem _ hkv) _ e; omega
 have HTG : Hid (∀ V, Below W.heap.size W V → Calls Tryz.prog 88 #[.int .i64 2, .agg #[.int .i64 m.kind, .int .i64 m.op, m.av, m.kv], .agg #[.int .i64 1, .int .i64 op, .slice a1 ds.length c1, .slice none 0 0]] V fun e w' => TogRet V w' base (m.vals ++ (oneM op ds a1 c1).vals) m.kv.ownBlock (Stil.addNet 2 m.net (Stil.contactOf ⟨op, ds⟩)) e) := fun V h => by
  have hsv := hSW.below h
  rw [← oneM_net op ds a1 c1]
  refine i_together 2 m (oneM op ds a1 c1) base V ⟨hsv.oks m (by simp), hmp⟩ (HON.out.below h) ?_ (by rw [oneM_net, Stil.contact_size]; omega) hgd.1 (fun h0 => ?_) (Nat.le_trans hbase (Nat.le_trans hBW.size h.size))
  ·rw [List.pairwise_append]
   exact ⟨hmp, HON.out.2, fun x hx y hy => aside_new (n := w.heap.size) (hmlow x (hmem x hx)) (fun q hq => by have := HHI.out y hy q hq; omega)⟩
  ·exact hgd.2 (by rw [MNet.net_eq]; exact h0)
 have HFI : Hid (∀ (V w2 : World) (M : MNet) (t : TypeId), Below W.heap.size W V → V.grownBy w2 m.kv.ownBlock → MOwn w2 base M → M.net = Stil.addNet 2 m.net (Stil.contactOf ⟨op, ds⟩) → (∀ x ∈ M.vals, x ∈ m.vals ++ (oneM op ds a1 c1).vals ∨ x.ownBlock = m.kv.ownBlock ∨ ∀ q, x.ownBlock = some q → V.heap.size ≤ q) → BehRet w (w2.alloc (.cells #[.int .i64 M.kind, .int .i64 M.op, M.av, M.kv, p] t)) base (Stil.doNet 2 ⟨op, ds⟩ ((m :: r).map MNet.net)) (.returned (.pointer (some ⟨w2.heap.size, 0, none⟩)))) := fun V w2 M t h hg hM hn hv => by
  have hsv := hSW.below h
  obtain ⟨q1, q2, q3⟩ := tog_push (lo := w.heap.size) hsv hmlow (fun c hc => (HS.out.free c (List.mem_cons_of_mem _ hc)).2.1) (fun x hx q hq => by have := HHI.out x hx q hq; omega) (Nat.le_trans hBW.size h.size) hg hM hv (hlp.below h)
  have hbs : base ≤ V.heap.size := Nat.le_trans hbase (Nat.le_trans hBW.size h.size)
  refine ⟨w2.heap.size, bs', M :: r, rfl, q1.push hM q2 q3 (Nat.le_trans hbs hg.size), ?_, ?_⟩
  ·rw [List.map_cons, hn]
   rfl
  ·have hB : Below base w V := (hBW.trans (h.mono hBW.size)).mono hbase
   exact (hB.trans ((Below.refl _ _).grown hg hbs (fun k hk => ((hSW.oks m (by simp)).lt m _ hkv k hk).1))).trans ((below_alloc w2 _).mono (Nat.le_trans hbs hg.size))
 have HYC : Hid (∀ V w2 : World, Below W.heap.size W V → V.grownBy w2 m.kv.ownBlock → (b < w2.heap.size ∧ w1.heap.size < w2.heap.size) ∧ w2.cell? ⟨b, 0, none⟩ = some (.int .i64 m.kind) ∧ w2.cell? ⟨b, 1, none⟩ = some (.int .i64 m.op) ∧ w2.cell? ⟨b, 2, none⟩ = some m.av ∧ w2.cell? ⟨b, 3, none⟩ = some m.kv ∧ w2.cell? ⟨b, 4, none⟩ = some p ∧ w2.cell? ⟨w1.heap.size, 0, none⟩ = some (.int .i64 1) ∧ w2.cell? ⟨w1.heap.size, 1, none⟩ = some (.int .i64 op) ∧ w2.cell? ⟨w1.heap.size, 2, none⟩ = some (.slice a1 ds.length c1) ∧ w2.cell? ⟨w1.heap.size, 3, none⟩ = some (.slice none 0 0)) := fun V w2 h hg => by
  have hx : ∀ o u, W.cell? ⟨b, o, none⟩ = some u → w2.cell? ⟨b, o, none⟩ = some u := fun o u e => (grownO_cell hg (Nat.lt_of_lt_of_le hbl h.size) hkb).trans ((h.cell hbl).trans e)
  have hy : ∀ o u, W.cell? ⟨w1.heap.size, o, none⟩ = some u → w2.cell? ⟨w1.heap.size, o, none⟩ = some u := fun o u e => (grownO_cell hg (Nat.lt_of_lt_of_le hw1W h.size) hkw1).trans ((h.cell hw1W).trans e)
  exact ⟨⟨Nat.lt_of_lt_of_le hbl (Nat.le_trans h.size hg.size), Nat.lt_of_lt_of_le hw1W (Nat.le_trans h.size hg.size)⟩, hx _ _ h0, hx _ _ h1, hx _ _ h2, hx _ _ h3, hx _ _ h4, hy _ _ o0, hy _ _ o1, hy _ _ o2, hy _ _ o3⟩
 obtain ⟨xk, xop, xds, xav, xkv, xks⟩ := m
 simp only at hma hmk h0 h1 h2 h3 HTG HYC HFI
 subst hma
 subst hmk
 clear hok hmp hmlow hkv hmem hlp hSW hgd hsz hkb hkw1
 have HB0 : Hid (Below w.heap.size w W) := hBW
 obtain rfl | ⟨pb, rfl⟩ := hpp
 ·go_upto_region 6 with fail
  go_region_held3 (fun W' => (W'.cell? ⟨b, 0, none⟩ = some (.int .i64 xk) ∧ W'.cell? ⟨b, 1, none⟩ = some (.int .i64 xop) ∧ W'.cell? ⟨b, 2, none⟩ = some (.slice pa xds.length ca) ∧ W'.cell? ⟨b, 3, none⟩ = some (.slice qa xks.length da) ∧ W'.cell? ⟨b, 4, none⟩ = some (.pointer none) ∧ W'.cell? ⟨w1.heap.size, 0, none⟩ = some (.int .i64 1) ∧ W'.cell? ⟨w1.heap.size, 1, none⟩ = some (.int .i64 op) ∧ W'.cell? ⟨w1.heap.size, 2, none⟩ = some (.slice a1 ds.length c1) ∧ W'.cell? ⟨w1.heap.size, 3, none⟩ = some (.slice none 0 0))) (first | with_reducible assumption | with_reducible exact ⟨cel_drew.trans h0, cel_drew.trans h1, cel_drew.trans h2, cel_drew.trans h3, cel_drew.trans h4, cel_drew.trans o0, cel_drew.trans o1, cel_drew.trans o2, cel_drew.trans o3⟩ | with_reducible exact ⟨(cel_alloc hz1).trans hS2.1, (cel_alloc hz1).trans hS2.2.1, (cel_alloc hz1).trans hS2.2.2.1, (cel_alloc hz1).trans hS2.2.2.2.1, (cel_alloc hz1).trans hS2.2.2.2.2.1, (cel_alloc hz2).trans hS2.2.2.2.2.2.1, (cel_alloc hz2).trans hS2.2.2.2.2.2.2.1, (cel_alloc hz2).trans hS2.2.2.2.2.2.2.2.1, (cel_alloc hz2).trans hS2.2.2.2.2.2.2.2.2⟩ | skip) (first | (go_at_call 88; refine (HTG.out _ (by exact (Below.refl _ _).drew)).mono ?_; rintro e w2 ⟨mk, mop, mds, s0, t0, s1, t1, mks, rfl, hmo, hmn, hmv, hg⟩; have HFJ : Hid (∀ t, BehRet w (w2.alloc (.cells #[.int .i64 mk, .int .i64 mop, .slice s0 mds.length t0, .slice s1 mks.length t1, _] t)) base _ (.returned (.pointer (some ⟨w2.heap.size, 0, none⟩)))) := (fun t => HFI.out _ w2 (MNet.mk mk mop mds (.slice s0 mds.length t0) (.slice s1 mks.length t1) mks) t (by exact (Below.refl _ _).drew) hg hmo hmn hmv); obtain ⟨⟨hz1, hz2⟩, hS2⟩ := HYC.out _ w2 (by exact (Below.refl _ _).drew) hg; clear hmo hmn hmv hg))
  all_goals
   go_wp2
   go_ret
   exact HFJ.out _
 ·go_upto_region 6 with fail
  go_region_held3 (fun W' => (W'.cell? ⟨b, 0, none⟩ = some (.int .i64 xk) ∧ W'.cell? ⟨b, 1, none⟩ = some (.int .i64 xop) ∧ W'.cell? ⟨b, 2, none⟩ = some (.slice pa xds.length ca) ∧ W'.cell? ⟨b, 3, none⟩ = some (.slice qa xks.length da) ∧ W'.cell? ⟨b, 4, none⟩ = some (.pointer (some ⟨pb, 0, none⟩)) ∧ W'.cell? ⟨w1.heap.size, 0, none⟩ = some (.int .i64 1) ∧ W'.cell? ⟨w1.heap.size, 1, none⟩ = some (.int .i64 op) ∧ W'.cell? ⟨w1.heap.size, 2, none⟩ = some (.slice a1 ds.length c1) ∧ W'.cell? ⟨w1.heap.size, 3, none⟩ = some (.slice none 0 0))) (first | with_reducible assumption | with_reducible exact ⟨cel_drew.trans h0, cel_drew.trans h1, cel_drew.trans h2, cel_drew.trans h3, cel_drew.trans h4, cel_drew.trans o0, cel_drew.trans o1, cel_drew.trans o2, cel_drew.trans o3⟩ | with_reducible exact ⟨(cel_alloc hz1).trans hS2.1, (cel_alloc hz1).trans hS2.2.1, (cel_alloc hz1).trans hS2.2.2.1, (cel_alloc hz1).trans hS2.2.2.2.1, (cel_alloc hz1).trans hS2.2.2.2.2.1, (cel_alloc hz2).trans hS2.2.2.2.2.2.1, (cel_alloc hz2).trans hS2.2.2.2.2.2.2.1, (cel_alloc hz2).trans hS2.2.2.2.2.2.2.2.1, (cel_alloc hz2).trans hS2.2.2.2.2.2.2.2.2⟩ | skip) (first | (go_at_call 88; refine (HTG.out _ (by exact (Below.refl _ _).drew)).mono ?_; rintro e w2 ⟨mk, mop, mds, s0, t0, s1, t1, mks, rfl, hmo, hmn, hmv, hg⟩; have HFJ : Hid (∀ t, BehRet w (w2.alloc (.cells #[.int .i64 mk, .int .i64 mop, .slice s0 mds.length t0, .slice s1 mks.length t1, _] t)) base _ (.returned (.pointer (some ⟨w2.heap.size, 0, none⟩)))) := (fun t => HFI.out _ w2 (MNet.mk mk mop mds (.slice s0 mds.length t0) (.slice s1 mks.length t1) mks) t (by exact (Below.refl _ _).drew) hg hmo hmn hmv); obtain ⟨⟨hz1, hz2⟩, hS2⟩ := HYC.out _ w2 (by exact (Below.refl _ _).drew) hg; clear hmo hmn hmv hg))
  all_goals
   go_wp2
   go_ret
   exact HFJ.out _
theorem i_behind3 (i : Stil.Inst) (av : Value) (bs : List Nat) (m : MNet) (r : List MNet) (v : Value) (base : Nat) (w : World) (hst : StackAt w base bs (m :: r) v) (hav : DevsAt w av i.one.args) (hf : i.fits) (hcc : i.code = 3) (hgd : Stil.netOk m.net) (hsz : Stil.netSize m.net ≤ 800000) (hbase : base ≤ w.heap.size) :
  Calls Tryz.prog 55 #[v, .agg #[.int .i64 i.code, .int .i64 i.one.op, av]] w fun e w' => BehRet w w' base (Stil.doNet i.code i.one ((m :: r).map MNet.net)) e := by
 have HCP : Hid (∀ W, Below w.heap.size w W → Calls Tryz.prog 87 #[.agg #[.int .i64 i.one.op, av]] W fun r w' => ∃ u, r = .returned (.agg #[.int .i64 i.one.op, u]) ∧ w'.ownsRow W.heap.size 117 3 u i.one.args.length (devsCells i.one.args) ∧ Below W.heap.size W w') := fun W h => i_normElem i.one.op av i.one.args W (hav.below h) hf.2.2.1
 obtain ⟨p0, r0, rfl, -⟩ := hav
 obtain ⟨c, op, ds⟩ := i
 simp only at HCP hcc ⊢
 subst hcc
 have HS : Hid (StackAt w base bs (m :: r) v) := hst
 clear hst hf
 go_enter Tryz.func55, Tryz.ntmps55
 go_upto_region 2 with (go_at_call 87; refine (HCP.out _ blA).mono ?_; rintro e w1 ⟨u1, rfl, hown, hb1⟩; obtain ⟨a1, c1, hu⟩ := slice_of_owns hown; subst hu; have HOW : Hid (w1.ownsRow (w.heap.size + 1) 117 3 (.slice a1 ds.length c1) ds.length (devsCells ds)) := (by have h := hown; simp only [World.size_alloc] at h; exact h); clear hown)
 have hB1 : Below w.heap.size w w1 := blA
 have hs1 : w.heap.size < w1.heap.size := by have := hb1.size; simp at this; omega
 obtain ⟨W, hW⟩ : ∃ W, W = w1.alloc (.cells #[.int .i64 1, .int .i64 op, .slice a1 ds.length c1, .slice none 0 0] 29) := ⟨_, rfl⟩
 have hb1W : Below w1.heap.size w1 W := by rw [hW]; exact below_alloc _ _
 have hBW : Below w.heap.size w W := bl_call hB1 hb1W
 have HON : Hid (MOwn W base (oneM op ds a1 c1)) := ((oneM_own HOW.out).le (by omega)).below hb1W
 have HHI : Hid (∀ x ∈ (oneM op ds a1 c1).vals, ∀ q, x.ownBlock = some q → w.heap.size < q) := fun x hx q hq => by
  have := (MOk.lt _ (oneM_own (op := op) HOW.out).1 x hx q hq).1
  omega
 have k0 : W.cell? ⟨w.heap.size, 0, none⟩ = some (.int .i64 3) := by
  rw [hb1W.cell (p := ⟨w.heap.size, 0, none⟩) hs1, hb1.cell (p := ⟨w.heap.size, 0, none⟩) (by simp)]
  simp [go_sem]
 have bx : B4 W w1.heap.size (.int .i64 1) (.int .i64 op) (.slice a1 ds.length c1) (.slice none 0 0) := by rw [hW]; exact box4
 rw [← hW]
 clear hW hb1W hB1 hb1 HOW HCP
 obtain ⟨hbo, ⟨o0, o1, o2, o3⟩, _⟩ := bx
 have hSW := HS.out.below hBW
 obtain ⟨b, bs', rfl, rfl, hbl, ⟨h0, h1, h2, h3⟩, p, h4, hlp⟩ := hSW.link.cons
 have hok := (MOk_iff _ _ _).1 (hSW.oks m (by simp))
 obtain ⟨pa, ca, hma⟩ := slice_of_owns hok.1
 obtain ⟨qa, da, hmk⟩ := slice_of_owns hok.2.1
 have hpp := hlp.ptr
 have hmp : m.vals.Pairwise Aside := by
  have := hSW.apart
  rw [mVals_cons] at this
  exact (List.pairwise_append.1 this).1
 have hmlow : ∀ x ∈ mVals (m :: r), ∀ q, x.ownBlock = some q → q < w.heap.size := HS.out.low
 have hkv : m.kv ∈ m.vals := by rw [MNet.vals_eq]; simp
 have hmem : ∀ x ∈ m.vals, x ∈ mVals (m :: r) := fun x hx => by rw [mVals_cons]; exact List.mem_append_left _ hx
 have hkb : m.kv.ownBlock ≠ some b := (hSW.free b (by simp)).2.2 _ (hmem _ hkv)
 have hw1W : w1.heap.size < W.heap.size := hbo
 have hkw1 : m.kv.ownBlock ≠ some w1.heap.size := fun e => by have := hmlow _ (hmem _ hkv) _ e; omega
 have HTG : Hid (∀ V, Below W.heap.size W V → Calls Tryz.prog 88 #[.int .i64 3, .agg #[.int .i64 m.kind, .int .i64 m.op, m.av, m.kv], .agg #[.int .i64 1, .int .i64 op, .slice a1 ds.length c1, .slice none 0 0]] V fun e w' => TogRet V w' base (m.vals ++ (oneM op ds a1 c1).vals) m.kv.ownBlock (Stil.addNet 3 m.net (Stil.contactOf ⟨op, ds⟩)) e) := fun V h => by
  have hsv := hSW.below h
  rw [← oneM_net op ds a1 c1]
  refine i_together 3 m (oneM op ds a1 c1) base V ⟨hsv.oks m (by simp), hmp⟩ (HON.out.below h) ?_ (by rw [oneM_net, Stil.contact_size]; omega) hgd.1 (fun h0 => ?_) (Nat.le_trans hbase (Nat.le_trans hBW.size h.size))
  ·rw [List.pairwise_append]
   exact ⟨hmp, HON.out.2, fun x hx y hy => aside_new (n := w.heap.size) (hmlow x (hmem x hx)) (fun q hq => by have := HHI.out y hy q hq; omega)⟩
  ·exact hgd.2 (by rw [MNet.net_eq]; exact h0)
 have HFI : Hid (∀ (V w2 : World) (M : MNet) (t : TypeId), Below W.heap.size W V → V.grownBy w2 m.kv.ownBlock → MOwn w2 base M → M.net = Stil.addNet 3 m.net (Stil.contactOf ⟨op, ds⟩) → (∀ x ∈ M.vals, x ∈ m.vals ++ (oneM op ds a1 c1).vals ∨ x.ownBlock = m.kv.ownBlock ∨ ∀ q, x.ownBlock = some q → V.heap.size ≤ q) → BehRet w (w2.alloc (.cells #[.int .i64 M.kind, .int .i64 M.op, M.av, M.kv, p] t)) base (Stil.doNet 3 ⟨op, ds⟩ ((m :: r).map MNet.net)) (.returned (.pointer (some ⟨w2.heap.size, 0, none⟩)))) := fun V w2 M t h hg hM hn hv => by
  have hsv := hSW.below h
  obtain ⟨q1, q2, q3⟩ := tog_push (lo := w.heap.size) hsv hmlow (fun c hc => (HS.out.free c (List.mem_cons_of_mem _ hc)).2.1) (fun x hx q hq => by have := HHI.out x hx q hq; omega) (Nat.le_trans hBW.size h.size) hg hM hv (hlp.below h)
  have hbs : base ≤ V.heap.size := Nat.le_trans hbase (Nat.le_trans hBW.size h.size)
  refine ⟨w2.heap.size, bs', M :: r, rfl, q1.push hM q2 q3 (Nat.le_trans hbs hg.size), ?_, ?_⟩
  ·rw [List.map_cons, hn]
   rfl
  ·have hB : Below base w V := (hBW.trans (h.mono hBW.size)).mono hbase
   exact (hB.trans ((Below.refl _ _).grown hg hbs (fun k hk => ((hSW.oks m (by simp)).lt m _ hkv k hk).1))).trans ((below_alloc w2 _).mono (Nat.le_trans hbs hg.size))
 have HYC : Hid (∀ V w2 : World, Below W.heap.size W V → V.grownBy w2 m.kv.ownBlock → (b < w2.heap.size ∧ w1.heap.size < w2.heap.size) ∧ w2.cell? ⟨b, 0, none⟩ = some (.int .i64 m.kind) ∧ w2.cell? ⟨b, 1, none⟩ = some (.int .i64 m.op) ∧ w2.cell? ⟨b, 2, none⟩ = some m.av ∧ w2.cell? ⟨b, 3, none⟩ = some m.kv ∧ w2.cell? ⟨b, 4, none⟩ = some p ∧ w2.cell? ⟨w1.heap.size, 0, none⟩ = some (.int .i64 1) ∧ w2.cell? ⟨w1.heap.size, 1, none⟩ = some (.int .i64 op) ∧ w2.cell? ⟨w1.heap.size, 2, none⟩ = some (.slice a1 ds.length c1) ∧ w2.cell? ⟨w1.heap.size, 3, none⟩ = some (.slice none 0 0)) := fun V w2 h hg => by
  have hx : ∀ o u, W.cell? ⟨b, o, none⟩ = some u → w2.cell? ⟨b, o, none⟩ = some u := fun o u e => (grownO_cell hg (Nat.lt_of_lt_of_le hbl h.size) hkb).trans ((h.cell hbl).trans e)
  have hy : ∀ o u, W.cell? ⟨w1.heap.size, o, none⟩ = some u → w2.cell? ⟨w1.heap.size, o, none⟩ = some u := fun o u e => (grownO_cell hg (Nat.lt_of_lt_of_le hw1W h.size) hkw1).trans ((h.cell hw1W).trans e)
  exact ⟨⟨Nat.lt_of_lt_of_le hbl (Nat.le_trans h.size hg.size), Nat.lt_of_lt_of_le hw1W (Nat.le_trans h.size hg.size)⟩, hx _ _ h0, hx _ _ h1, hx _ _ h2, hx _ _ h3, hx _ _ h4, hy _ _ o0, hy _ _ o1, hy _ _ o2, hy _ _ o3⟩
 obtain ⟨xk, xop, xds, xav, xkv, xks⟩ := m
 simp only at hma hmk h0 h1 h2 h3 HTG HYC HFI
 subst hma
 subst hmk
 clear hok hmp hmlow hkv hmem hlp hSW hgd hsz hkb hkw1
 have HB0 : Hid (Below w.heap.size w W) := hBW
 obtain rfl | ⟨pb, rfl⟩ := hpp
 ·go_upto_region 8 with fail
  go_region_held3 (fun W' => (W'.cell? ⟨b, 0, none⟩ = some (.int .i64 xk) ∧ W'.cell? ⟨b, 1, none⟩ = some (.int .i64 xop) ∧ W'.cell? ⟨b, 2, none⟩ = some (.slice pa xds.length ca) ∧ W'.cell? ⟨b, 3, none⟩ = some (.slice qa xks.length da) ∧ W'.cell? ⟨b, 4, none⟩ = some (.pointer none) ∧ W'.cell? ⟨w1.heap.size, 0, none⟩ = some (.int .i64 1) ∧ W'.cell? ⟨w1.heap.size, 1, none⟩ = some (.int .i64 op) ∧ W'.cell? ⟨w1.heap.size, 2, none⟩ = some (.slice a1 ds.length c1) ∧ W'.cell? ⟨w1.heap.size, 3, none⟩ = some (.slice none 0 0))) (first | with_reducible assumption | with_reducible exact ⟨cel_drew.trans h0, cel_drew.trans h1, cel_drew.trans h2, cel_drew.trans h3, cel_drew.trans h4, cel_drew.trans o0, cel_drew.trans o1, cel_drew.trans o2, cel_drew.trans o3⟩ | with_reducible exact ⟨(cel_alloc hz1).trans hS2.1, (cel_alloc hz1).trans hS2.2.1, (cel_alloc hz1).trans hS2.2.2.1, (cel_alloc hz1).trans hS2.2.2.2.1, (cel_alloc hz1).trans hS2.2.2.2.2.1, (cel_alloc hz2).trans hS2.2.2.2.2.2.1, (cel_alloc hz2).trans hS2.2.2.2.2.2.2.1, (cel_alloc hz2).trans hS2.2.2.2.2.2.2.2.1, (cel_alloc hz2).trans hS2.2.2.2.2.2.2.2.2⟩ | skip) (first | (go_at_call 88; refine (HTG.out _ (by exact (Below.refl _ _).drew)).mono ?_; rintro e w2 ⟨mk, mop, mds, s0, t0, s1, t1, mks, rfl, hmo, hmn, hmv, hg⟩; have HFJ : Hid (∀ t, BehRet w (w2.alloc (.cells #[.int .i64 mk, .int .i64 mop, .slice s0 mds.length t0, .slice s1 mks.length t1, _] t)) base _ (.returned (.pointer (some ⟨w2.heap.size, 0, none⟩)))) := (fun t => HFI.out _ w2 (MNet.mk mk mop mds (.slice s0 mds.length t0) (.slice s1 mks.length t1) mks) t (by exact (Below.refl _ _).drew) hg hmo hmn hmv); obtain ⟨⟨hz1, hz2⟩, hS2⟩ := HYC.out _ w2 (by exact (Below.refl _ _).drew) hg; clear hmo hmn hmv hg))
  all_goals
   go_wp2
   go_ret
   exact HFJ.out _
 ·go_upto_region 8 with fail
  go_region_held3 (fun W' => (W'.cell? ⟨b, 0, none⟩ = some (.int .i64 xk) ∧ W'.cell? ⟨b, 1, none⟩ = some (.int .i64 xop) ∧ W'.cell? ⟨b, 2, none⟩ = some (.slice pa xds.length ca) ∧ W'.cell? ⟨b, 3, none⟩ = some (.slice qa xks.length da) ∧ W'.cell? ⟨b, 4, none⟩ = some (.pointer (some ⟨pb, 0, none⟩)) ∧ W'.cell? ⟨w1.heap.size, 0, none⟩ = some (.int .i64 1) ∧ W'.cell? ⟨w1.heap.size, 1, none⟩ = some (.int .i64 op) ∧ W'.cell? ⟨w1.heap.size, 2, none⟩ = some (.slice a1 ds.length c1) ∧ W'.cell? ⟨w1.heap.size, 3, none⟩ = some (.slice none 0 0))) (first | with_reducible assumption | with_reducible exact ⟨cel_drew.trans h0, cel_drew.trans h1, cel_drew.trans h2, cel_drew.trans h3, cel_drew.trans h4, cel_drew.trans o0, cel_drew.trans o1, cel_drew.trans o2, cel_drew.trans o3⟩ | with_reducible exact ⟨(cel_alloc hz1).trans hS2.1, (cel_alloc hz1).trans hS2.2.1, (cel_alloc hz1).trans hS2.2.2.1, (cel_alloc hz1).trans hS2.2.2.2.1, (cel_alloc hz1).trans hS2.2.2.2.2.1, (cel_alloc hz2).trans hS2.2.2.2.2.2.1, (cel_alloc hz2).trans hS2.2.2.2.2.2.2.1, (cel_alloc hz2).trans hS2.2.2.2.2.2.2.2.1, (cel_alloc hz2).trans hS2.2.2.2.2.2.2.2.2⟩ | skip) (first | (go_at_call 88; refine (HTG.out _ (by exact (Below.refl _ _).drew)).mono ?_; rintro e w2 ⟨mk, mop, mds, s0, t0, s1, t1, mks, rfl, hmo, hmn, hmv, hg⟩; have HFJ : Hid (∀ t, BehRet w (w2.alloc (.cells #[.int .i64 mk, .int .i64 mop, .slice s0 mds.length t0, .slice s1 mks.length t1, _] t)) base _ (.returned (.pointer (some ⟨w2.heap.size, 0, none⟩)))) := (fun t => HFI.out _ w2 (MNet.mk mk mop mds (.slice s0 mds.length t0) (.slice s1 mks.length t1) mks) t (by exact (Below.refl _ _).drew) hg hmo hmn hmv); obtain ⟨⟨hz1, hz2⟩, hS2⟩ := HYC.out _ w2 (by exact (Below.refl _ _).drew) hg; clear hmo hmn hmv hg))
  all_goals
   go_wp2
   go_ret
   exact HFJ.out _
end Go.Proofs.YtpaljcoojkbhnaaGreatDoor
