/- I26, I27: texts put together. -/
import Derived.Test.YtpaljcoojkbhnaaGreatDoorI25
import Derived.Deep.RegionHeld3
import Derived.Test.YtpaljcoojkbhnaaGreatDoorS21
set_option maxHeartbeats 4000000
set_option maxRecDepth 100000
/- The program's chapter 8: one instruction on a stack of nets: anb, orb. -/
namespace Go.Proofs.YtpaljcoojkbhnaaGreatDoor
open Go.RowKit Go.Sort Go.BigFrame
theorem tog_push2 {V w2 : World} {base b b2 : Nat} {bs : List Nat} {m m2 M : MNet} {r : List MNet} {v p : Value} (hst : StackAt V base (b :: b2 :: bs) (m :: m2 :: r) v) (hg : V.grownBy w2 m2.kv.ownBlock) (hM : MOwn w2 base M) (hv : ∀ x ∈ M.vals, x ∈ m2.vals ++ m.vals ∨ x.ownBlock = m2.kv.ownBlock ∨ ∀ q, x.ownBlock = some q → V.heap.size ≤ q) (hp : LinkAt V bs r p) :
  StackAt w2 base bs r p ∧ (M.vals ++ mVals r).Pairwise Aside ∧ ∀ c ∈ bs, ∀ x ∈ M.vals, x.ownBlock ≠ some c := by
 have hkv : m2.kv ∈ m2.vals := by rw [MNet.vals_eq]; simp
 have hap := hst.apart
 have hlow := hst.low
 rw [mVals_cons, mVals_cons, List.pairwise_append, List.pairwise_append] at hap
 obtain ⟨-, ⟨-, har, h2r⟩, h1r⟩ := hap
 have hme1 : ∀ x ∈ m.vals, x ∈ mVals (m :: m2 :: r) := fun x hx => by rw [mVals_cons]; exact List.mem_append_left _ hx
 have hme2 : ∀ x ∈ m2.vals, x ∈ mVals (m :: m2 :: r) := fun x hx => by rw [mVals_cons, mVals_cons]; exact List.mem_append_right _ (List.mem_append_left _ hx)
 have hmer : ∀ x ∈ mVals r, x ∈ mVals (m :: m2 :: r) := fun x hx => by rw [mVals_cons, mVals_cons]; exact List.mem_append_right _ (List.mem_append_right _ hx)
 have hfr : ∀ c ∈ bs, 0 ≤ c ∧ c < V.heap.size ∧ ∀ x ∈ mVals (m :: m2 :: r), x.ownBlock ≠ some c := fun c hc => hst.free c (by simp [hc])
 refine ⟨⟨hp.kept hg (fun c hc => (hfr c hc).2.2 _ (hme2 _ hkv)), fun x hx => (hst.oks x (by simp [hx])).kept hg (fun u hu => (h2r _ hkv u (mem_mVals.2 ⟨x, hx, hu⟩)).symm), har, fun c hc => ⟨(hfr c hc).1, Nat.lt_of_lt_of_le (hfr c hc).2.1 hg.size, fun x hx => (hfr c hc).2.2 x (hmer x hx)⟩⟩, ?_, fun c hc x hx e => ?_⟩
 ·rw [List.pairwise_append]
  refine ⟨hM.2, har, fun x hx y hy => ?_⟩
  rcases hv x hx with h | h | h
  ·rcases List.mem_append.1 h with h | h
   ·exact h2r x h y hy
   ·exact h1r x h y (List.mem_append_right _ hy)
  ·have h3 := h2r _ hkv y hy
   unfold Aside at h3 ⊢
   rw [h]
   exact h3
  ·exact (aside_new (n := V.heap.size) (hlow y (hmer y hy)) h).symm
 ·have hcl := (hfr c hc).2.1
  rcases hv x hx with h | h | h
  ·rcases List.mem_append.1 h with h | h
   ·exact (hfr c hc).2.2 x (hme2 x h) e
   ·exact (hfr c hc).2.2 x (hme1 x h) e
  ·rw [h] at e
   exact (hfr c hc).2.2 _ (hme2 _ hkv) e
  ·have := h _ e; omega
theorem i_behind4 (i : Stil.Inst) (av : Value) (bs : List Nat) (m m2 : MNet) (r : List MNet) (v : Value) (base : Nat) (w : World) (hst : StackAt w base bs (m :: m2 :: r) v) (hav : DevsAt w av i.one.args) (hf : i.fits) (hcc : i.code = 4) (hgd : Stil.netOk m2.net) (hsz : Stil.netSize m2.net + Stil.netSize m.net ≤ 900000) (hbase : base ≤ w.heap.size) :
  Calls Tryz.prog 55 #[v, .agg #[.int .i64 i.code, .int .i64 i.one.op, av]] w fun e w' => BehRet w w' base (Stil.doNet i.code i.one ((m :: m2 :: r).map MNet.net)) e := by
 have HCP : Hid (∀ W, Below w.heap.size w W → Calls Tryz.prog 87 #[.agg #[.int .i64 i.one.op, av]] W fun r w' => ∃ u, r = .returned (.agg #[.int .i64 i.one.op, u]) ∧ w'.ownsRow W.heap.size 117 3 u i.one.args.length (devsCells i.one.args) ∧ Below W.heap.size W w') := fun W h => i_normElem i.one.op av i.one.args W (hav.below h) hf.2.2.1
 obtain ⟨p0, r0, rfl, -⟩ := hav
 obtain ⟨c, op, ds⟩ := i
 simp only at HCP hcc ⊢
 subst hcc
 have HS : Hid (StackAt w base bs (m :: m2 :: r) v) := hst
 clear hst hf
 go_enter Tryz.func55, Tryz.ntmps55
 go_upto_region 2 with (go_at_call 87; refine (HCP.out _ blA).mono ?_; rintro e w1 ⟨u1, rfl, hown, hb1⟩; obtain ⟨a1, c1, hu⟩ := slice_of_owns hown; subst hu; have HOW : Hid (w1.ownsRow (w.heap.size + 1) 117 3 (.slice a1 ds.length c1) ds.length (devsCells ds)) := (by have h := hown; simp only [World.size_alloc] at h; exact h); clear hown)
 have hB1 : Below w.heap.size w w1 := blA
 have hs1 : w.heap.size < w1.heap.size := by have := hb1.size; simp at this; omega
 obtain ⟨W, hW⟩ : ∃ W, W = w1.alloc (.cells #[.int .i64 1, .int .i64 op, .slice a1 ds.length c1, .slice none 0 0] 29) := ⟨_, rfl⟩
 have hb1W : Below w1.heap.size w1 W := by rw [hW]; exact below_alloc _ _
 have hBW : Below w.heap.size w W := bl_call hB1 hb1W
 have k0 : W.cell? ⟨w.heap.size, 0, none⟩ = some (.int .i64 4) := by
  rw [hb1W.cell (p := ⟨w.heap.size, 0, none⟩) hs1, hb1.cell (p := ⟨w.heap.size, 0, none⟩) (by simp)]
  simp [go_sem]
 have bx : B4 W w1.heap.size (.int .i64 1) (.int .i64 op) (.slice a1 ds.length c1) (.slice none 0 0) := by rw [hW]; exact box4
 rw [← hW]
 clear hW hb1W hB1 hb1 HOW HCP
 obtain ⟨hbo, ⟨o0, o1, o2, o3⟩, _⟩ := bx
 have hSW := HS.out.below hBW
 obtain ⟨b, bs0, rfl, rfl, hbl, ⟨h0, h1, h2, h3⟩, p1, h4, hlp1⟩ := hSW.link.cons
 obtain ⟨b2, bs', rfl, rfl, hbl2, ⟨g0, g1, g2, g3⟩, p, g4, hlp⟩ := hlp1.cons
 have hok := (MOk_iff _ _ _).1 (hSW.oks m (by simp))
 obtain ⟨pa, ca, hma⟩ := slice_of_owns hok.1
 obtain ⟨qa, da, hmk⟩ := slice_of_owns hok.2.1
 have hok2 := (MOk_iff _ _ _).1 (hSW.oks m2 (by simp))
 obtain ⟨pa2, ca2, hma2⟩ := slice_of_owns hok2.1
 obtain ⟨qa2, da2, hmk2⟩ := slice_of_owns hok2.2.1
 have hpp := hlp.ptr
 have hap := hSW.apart
 rw [mVals_cons, mVals_cons, List.pairwise_append, List.pairwise_append] at hap
 have hkv : m2.kv ∈ m2.vals := by rw [MNet.vals_eq]; simp
 have hmem : m2.kv ∈ mVals (m :: m2 :: r) := by rw [mVals_cons, mVals_cons]; exact List.mem_append_right _ (List.mem_append_left _ hkv)
 have hkb : m2.kv.ownBlock ≠ some b := (hSW.free b (by simp)).2.2 _ hmem
 have hkb2 : m2.kv.ownBlock ≠ some b2 := (hSW.free b2 (by simp)).2.2 _ hmem
 have HTG : Hid (∀ V, Below W.heap.size W V → Calls Tryz.prog 88 #[.int .i64 2, .agg #[.int .i64 m2.kind, .int .i64 m2.op, m2.av, m2.kv], .agg #[.int .i64 m.kind, .int .i64 m.op, m.av, m.kv]] V fun e w' => TogRet V w' base (m2.vals ++ m.vals) m2.kv.ownBlock (Stil.addNet 2 m2.net m.net) e) := fun V h => by
  have hsv := hSW.below h
  refine i_together 2 m2 m base V ⟨hsv.oks m2 (by simp), hap.2.1.1⟩ ⟨hsv.oks m (by simp), hap.1⟩ ?_ hsz hgd.1 (fun h0 => ?_) (Nat.le_trans hbase (Nat.le_trans hBW.size h.size))
  ·rw [List.pairwise_append]
   exact ⟨hap.2.1.1, hap.1, fun x hx y hy => (hap.2.2 y hy x (List.mem_append_left _ hx)).symm⟩
  ·exact hgd.2 (by rw [MNet.net_eq]; exact h0)
 have HFI : Hid (∀ (V w2 : World) (M : MNet) (t : TypeId), Below W.heap.size W V → V.grownBy w2 m2.kv.ownBlock → MOwn w2 base M → M.net = Stil.addNet 2 m2.net m.net → (∀ x ∈ M.vals, x ∈ m2.vals ++ m.vals ∨ x.ownBlock = m2.kv.ownBlock ∨ ∀ q, x.ownBlock = some q → V.heap.size ≤ q) → BehRet w (w2.alloc (.cells #[.int .i64 M.kind, .int .i64 M.op, M.av, M.kv, p] t)) base (Stil.doNet 4 ⟨op, ds⟩ ((m :: m2 :: r).map MNet.net)) (.returned (.pointer (some ⟨w2.heap.size, 0, none⟩)))) := fun V w2 M t h hg hM hn hv => by
  have hsv := hSW.below h
  obtain ⟨q1, q2, q3⟩ := tog_push2 hsv hg hM hv (hlp.below h)
  have hbs : base ≤ V.heap.size := Nat.le_trans hbase (Nat.le_trans hBW.size h.size)
  refine ⟨w2.heap.size, bs', M :: r, rfl, q1.push hM q2 q3 (Nat.le_trans hbs hg.size), ?_, ?_⟩
  ·rw [List.map_cons, hn]
   rfl
  ·have hB : Below base w V := (hBW.trans (h.mono hBW.size)).mono hbase
   exact (hB.trans ((Below.refl _ _).grown hg hbs (fun k hk => ((hSW.oks m2 (by simp)).lt m2 _ hkv k hk).1))).trans ((below_alloc w2 _).mono (Nat.le_trans hbs hg.size))
 have HYC : Hid (∀ V w2 : World, Below W.heap.size W V → V.grownBy w2 m2.kv.ownBlock → (b < w2.heap.size ∧ b2 < w2.heap.size) ∧ w2.cell? ⟨b, 0, none⟩ = some (.int .i64 m.kind) ∧ w2.cell? ⟨b, 1, none⟩ = some (.int .i64 m.op) ∧ w2.cell? ⟨b, 2, none⟩ = some m.av ∧ w2.cell? ⟨b, 3, none⟩ = some m.kv ∧ w2.cell? ⟨b, 4, none⟩ = some (.pointer (some ⟨b2, 0, none⟩)) ∧ w2.cell? ⟨b2, 0, none⟩ = some (.int .i64 m2.kind) ∧ w2.cell? ⟨b2, 1, none⟩ = some (.int .i64 m2.op) ∧ w2.cell? ⟨b2, 2, none⟩ = some m2.av ∧ w2.cell? ⟨b2, 3, none⟩ = some m2.kv ∧ w2.cell? ⟨b2, 4, none⟩ = some p) := fun V w2 h hg => by
  have hx : ∀ o u, W.cell? ⟨b, o, none⟩ = some u → w2.cell? ⟨b, o, none⟩ = some u := fun o u e => (grownO_cell hg (Nat.lt_of_lt_of_le hbl h.size) hkb).trans ((h.cell hbl).trans e)
  have hy : ∀ o u, W.cell? ⟨b2, o, none⟩ = some u → w2.cell? ⟨b2, o, none⟩ = some u := fun o u e => (grownO_cell hg (Nat.lt_of_lt_of_le hbl2 h.size) hkb2).trans ((h.cell hbl2).trans e)
  exact ⟨⟨Nat.lt_of_lt_of_le hbl (Nat.le_trans h.size hg.size), Nat.lt_of_lt_of_le hbl2 (Nat.le_trans h.size hg.size)⟩, hx _ _ h0, hx _ _ h1, hx _ _ h2, hx _ _ h3, hx _ _ h4, hy _ _ g0, hy _ _ g1, hy _ _ g2, hy _ _ g3, hy _ _ g4⟩
 obtain ⟨xk, xop, xds, xav, xkv, xks⟩ := m
 obtain ⟨yk, yop, yds, yav, ykv, yks⟩ := m2
 simp only at hma hmk hma2 hmk2 h0 h1 h2 h3 g0 g1 g2 g3 HTG HYC HFI hkb
 subst hma
 subst hmk
 subst hma2
 subst hmk2
 clear hok hok2 hap hkv hmem hlp hSW hgd hsz hkb hkb2 hlp1
 have HB0 : Hid (Below w.heap.size w W) := hBW
 obtain rfl | ⟨pb, rfl⟩ := hpp
 ·go_upto_region 10 with fail
  go_region_held3 (fun W' => (W'.cell? ⟨b, 0, none⟩ = some (.int .i64 xk) ∧ W'.cell? ⟨b, 1, none⟩ = some (.int .i64 xop) ∧ W'.cell? ⟨b, 2, none⟩ = some (.slice pa xds.length ca) ∧ W'.cell? ⟨b, 3, none⟩ = some (.slice qa xks.length da) ∧ W'.cell? ⟨b, 4, none⟩ = some (.pointer (some ⟨b2, 0, none⟩)) ∧ W'.cell? ⟨b2, 0, none⟩ = some (.int .i64 yk) ∧ W'.cell? ⟨b2, 1, none⟩ = some (.int .i64 yop) ∧ W'.cell? ⟨b2, 2, none⟩ = some (.slice pa2 yds.length ca2) ∧ W'.cell? ⟨b2, 3, none⟩ = some (.slice qa2 yks.length da2) ∧ W'.cell? ⟨b2, 4, none⟩ = some (.pointer none))) (first | with_reducible assumption | with_reducible exact ⟨cel_drew.trans h0, cel_drew.trans h1, cel_drew.trans h2, cel_drew.trans h3, cel_drew.trans h4, cel_drew.trans g0, cel_drew.trans g1, cel_drew.trans g2, cel_drew.trans g3, cel_drew.trans g4⟩ | with_reducible exact ⟨(cel_alloc hz1).trans hS2.1, (cel_alloc hz1).trans hS2.2.1, (cel_alloc hz1).trans hS2.2.2.1, (cel_alloc hz1).trans hS2.2.2.2.1, (cel_alloc hz1).trans hS2.2.2.2.2.1, (cel_alloc hz2).trans hS2.2.2.2.2.2.1, (cel_alloc hz2).trans hS2.2.2.2.2.2.2.1, (cel_alloc hz2).trans hS2.2.2.2.2.2.2.2.1, (cel_alloc hz2).trans hS2.2.2.2.2.2.2.2.2.1, (cel_alloc hz2).trans hS2.2.2.2.2.2.2.2.2.2⟩ | skip) (first | (go_at_call 88; refine (HTG.out _ (by exact (Below.refl _ _).drew)).mono ?_; rintro e w2 ⟨mk, mop, mds, s0, t0, s1, t1, mks, rfl, hmo, hmn, hmv, hg⟩; have HFJ : Hid (∀ t, BehRet w (w2.alloc (.cells #[.int .i64 mk, .int .i64 mop, .slice s0 mds.length t0, .slice s1 mks.length t1, _] t)) base _ (.returned (.pointer (some ⟨w2.heap.size, 0, none⟩)))) := (fun t => HFI.out _ w2 (MNet.mk mk mop mds (.slice s0 mds.length t0) (.slice s1 mks.length t1) mks) t (by exact (Below.refl _ _).drew) hg hmo hmn hmv); obtain ⟨⟨hz1, hz2⟩, hS2⟩ := HYC.out _ w2 (by exact (Below.refl _ _).drew) hg; clear hmo hmn hmv hg))
  all_goals
   go_wp2
   go_ret
   exact HFJ.out _
 ·go_upto_region 10 with fail
  go_region_held3 (fun W' => (W'.cell? ⟨b, 0, none⟩ = some (.int .i64 xk) ∧ W'.cell? ⟨b, 1, none⟩ = some (.int .i64 xop) ∧ W'.cell? ⟨b, 2, none⟩ = some (.slice pa xds.length ca) ∧ W'.cell? ⟨b, 3, none⟩ = some (.slice qa xks.length da) ∧ W'.cell? ⟨b, 4, none⟩ = some (.pointer (some ⟨b2, 0, none⟩)) ∧ W'.cell? ⟨b2, 0, none⟩ = some (.int .i64 yk) ∧ W'.cell? ⟨b2, 1, none⟩ = some (.int .i64 yop) ∧ W'.cell? ⟨b2, 2, none⟩ = some (.slice pa2 yds.length ca2) ∧ W'.cell? ⟨b2, 3, none⟩ = some (.slice qa2 yks.length da2) ∧ W'.cell? ⟨b2, 4, none⟩ = some (.pointer (some ⟨pb, 0, none⟩)))) (first | with_reducible assumption | with_reducible exact ⟨cel_drew.trans h0, cel_drew.trans h1, cel_drew.trans h2, cel_drew.trans h3, cel_drew.trans h4, cel_drew.trans g0, cel_drew.trans g1, cel_drew.trans g2, cel_drew.trans g3, cel_drew.trans g4⟩ | with_reducible exact ⟨(cel_alloc hz1).trans hS2.1, (cel_alloc hz1).trans hS2.2.1, (cel_alloc hz1).trans hS2.2.2.1, (cel_alloc hz1).trans hS2.2.2.2.1, (cel_alloc hz1).trans hS2.2.2.2.2.1, (cel_alloc hz2).trans hS2.2.2.2.2.2.1, (cel_alloc hz2).trans hS2.2.2.2.2.2.2.1, (cel_alloc hz2).trans hS2.2.2.2.2.2.2.2.1, (cel_alloc hz2).trans hS2.2.2.2.2.2.2.2.2.1, (cel_alloc hz2).trans hS2.2.2.2.2.2.2.2.2.2⟩ | skip) (first | (go_at_call 88; refine (HTG.out _ (by exact (Below.refl _ _).drew)).mono ?_; rintro e w2 ⟨mk, mop, mds, s0, t0, s1, t1, mks, rfl, hmo, hmn, hmv, hg⟩; have HFJ : Hid (∀ t, BehRet w (w2.alloc (.cells #[.int .i64 mk, .int .i64 mop, .slice s0 mds.length t0, .slice s1 mks.length t1, _] t)) base _ (.returned (.pointer (some ⟨w2.heap.size, 0, none⟩)))) := (fun t => HFI.out _ w2 (MNet.mk mk mop mds (.slice s0 mds.length t0) (.slice s1 mks.length t1) mks) t (by exact (Below.refl _ _).drew) hg hmo hmn hmv); obtain ⟨⟨hz1, hz2⟩, hS2⟩ := HYC.out _ w2 (by exact (Below.refl _ _).drew) hg; clear hmo hmn hmv hg))
  all_goals
   go_wp2
   go_ret
   exact HFJ.out _
theorem i_behind5 (i : Stil.Inst) (av : Value) (bs : List Nat) (m m2 : MNet) (r : List MNet) (v : Value) (base : Nat) (w : World) (hst : StackAt w base bs (m :: m2 :: r) v) (hav : DevsAt w av i.one.args) (hf : i.fits) (hcc : i.code = 5) (hgd : Stil.netOk m2.net) (hsz : Stil.netSize m2.net + Stil.netSize m.net ≤ 900000) (hbase : base ≤ w.heap.size) :
  Calls Tryz.prog 55 #[v, .agg #[.int .i64 i.code, .int .i64 i.one.op, av]] w fun e w' => BehRet w w' base (Stil.doNet i.code i.one ((m :: m2 :: r).map MNet.net)) e := by
 have HCP : Hid (∀ W, Below w.heap.size w W → Calls Tryz.prog 87 #[.agg #[.int .i64 i.one.op, av]] W fun r w' => ∃ u, r = .returned (.agg #[.int .i64 i.one.op, u]) ∧ w'.ownsRow W.heap.size 117 3 u i.one.args.length (devsCells i.one.args) ∧ Below W.heap.size W w') := fun W h => i_normElem i.one.op av i.one.args W (hav.below h) hf.2.2.1
 obtain ⟨p0, r0, rfl, -⟩ := hav
 obtain ⟨c, op, ds⟩ := i
 simp only at HCP hcc ⊢
 subst hcc
 have HS : Hid (StackAt w base bs (m :: m2 :: r) v) := hst
 clear hst hf
 go_enter Tryz.func55, Tryz.ntmps55
 go_upto_region 2 with (go_at_call 87; refine (HCP.out _ blA).mono ?_; rintro e w1 ⟨u1, rfl, hown, hb1⟩; obtain ⟨a1, c1, hu⟩ := slice_of_owns hown; subst hu; have HOW : Hid (w1.ownsRow (w.heap.size + 1) 117 3 (.slice a1 ds.length c1) ds.length (devsCells ds)) := (by have h := hown; simp only [World.size_alloc] at h; exact h); clear hown)
 have hB1 : Below w.heap.size w w1 := blA
 have hs1 : w.heap.size < w1.heap.size := by have := hb1.size; simp at this; omega
 obtain ⟨W, hW⟩ : ∃ W, W = w1.alloc (.cells #[.int .i64 1, .int .i64 op, .slice a1 ds.length c1, .slice none 0 0] 29) := ⟨_, rfl⟩
 have hb1W : Below w1.heap.size w1 W := by rw [hW]; exact below_alloc _ _
 have hBW : Below w.heap.size w W := bl_call hB1 hb1W
 have k0 : W.cell? ⟨w.heap.size, 0, none⟩ = some (.int .i64 5) := by
  rw [hb1W.cell (p := ⟨w.heap.size, 0, none⟩) hs1, hb1.cell (p := ⟨w.heap.size, 0, none⟩) (by simp)]
  simp [go_sem]
 have bx : B4 W w1.heap.size (.int .i64 1) (.int .i64 op) (.slice a1 ds.length c1) (.slice none 0 0) := by rw [hW]; exact box4
 rw [← hW]
 clear hW hb1W hB1 hb1 HOW HCP
 obtain ⟨hbo, ⟨o0, o1, o2, o3⟩, _⟩ := bx
 have hSW := HS.out.below hBW
 obtain ⟨b, bs0, rfl, rfl, hbl, ⟨h0, h1, h2, h3⟩, p1, h4, hlp1⟩ := hSW.link.cons
 obtain ⟨b2, bs', rfl, rfl, hbl2, ⟨g0, g1, g2, g3⟩, p, g4, hlp⟩ := hlp1.cons
 have hok := (MOk_iff _ _ _).1 (hSW.oks m (by simp))
 obtain ⟨pa, ca, hma⟩ := slice_of_owns hok.1
 obtain ⟨qa, da, hmk⟩ := slice_of_owns hok.2.1
 have hok2 := (MOk_iff _ _ _).1 (hSW.oks m2 (by simp))
 obtain ⟨pa2, ca2, hma2⟩ := slice_of_owns hok2.1
 obtain ⟨qa2, da2, hmk2⟩ := slice_of_owns hok2.2.1
 have hpp := hlp.ptr
 have hap := hSW.apart
 rw [mVals_cons, mVals_cons, List.pairwise_append, List.pairwise_append] at hap
 have hkv : m2.kv ∈ m2.vals := by rw [MNet.vals_eq]; simp
 have hmem : m2.kv ∈ mVals (m :: m2 :: r) := by rw [mVals_cons, mVals_cons]; exact List.mem_append_right _ (List.mem_append_left _ hkv)
 have hkb : m2.kv.ownBlock ≠ some b := (hSW.free b (by simp)).2.2 _ hmem
 have hkb2 : m2.kv.ownBlock ≠ some b2 := (hSW.free b2 (by simp)).2.2 _ hmem
 have HTG : Hid (∀ V, Below W.heap.size W V → Calls Tryz.prog 88 #[.int .i64 3, .agg #[.int .i64 m2.kind, .int .i64 m2.op, m2.av, m2.kv], .agg #[.int .i64 m.kind, .int .i64 m.op, m.av, m.kv]] V fun e w' => TogRet V w' base (m2.vals ++ m.vals) m2.kv.ownBlock (Stil.addNet 3 m2.net m.net) e) := fun V h => by
  have hsv := hSW.below h
  refine i_together 3 m2 m base V ⟨hsv.oks m2 (by simp), hap.2.1.1⟩ ⟨hsv.oks m (by simp), hap.1⟩ ?_ hsz hgd.1 (fun h0 => ?_) (Nat.le_trans hbase (Nat.le_trans hBW.size h.size))
  ·rw [List.pairwise_append]
   exact ⟨hap.2.1.1, hap.1, fun x hx y hy => (hap.2.2 y hy x (List.mem_append_left _ hx)).symm⟩
  ·exact hgd.2 (by rw [MNet.net_eq]; exact h0)
 have HFI : Hid (∀ (V w2 : World) (M : MNet) (t : TypeId), Below W.heap.size W V → V.grownBy w2 m2.kv.ownBlock → MOwn w2 base M → M.net = Stil.addNet 3 m2.net m.net → (∀ x ∈ M.vals, x ∈ m2.vals ++ m.vals ∨ x.ownBlock = m2.kv.ownBlock ∨ ∀ q, x.ownBlock = some q → V.heap.size ≤ q) → BehRet w (w2.alloc (.cells #[.int .i64 M.kind, .int .i64 M.op, M.av, M.kv, p] t)) base (Stil.doNet 5 ⟨op, ds⟩ ((m :: m2 :: r).map MNet.net)) (.returned (.pointer (some ⟨w2.heap.size, 0, none⟩)))) := fun V w2 M t h hg hM hn hv => by
  have hsv := hSW.below h
  obtain ⟨q1, q2, q3⟩ := tog_push2 hsv hg hM hv (hlp.below h)
  have hbs : base ≤ V.heap.size := Nat.le_trans hbase (Nat.le_trans hBW.size h.size)
  refine ⟨w2.heap.size, bs', M :: r, rfl, q1.push hM q2 q3 (Nat.le_trans hbs hg.size), ?_, ?_⟩
  ·rw [List.map_cons, hn]
   rfl
  ·have hB : Below base w V := (hBW.trans (h.mono hBW.size)).mono hbase
   exact (hB.trans ((Below.refl _ _).grown hg hbs (fun k hk => ((hSW.oks m2 (by simp)).lt m2 _ hkv k hk).1))).trans ((below_alloc w2 _).mono (Nat.le_trans hbs hg.size))
 have HYC : Hid (∀ V w2 : World, Below W.heap.size W V → V.grownBy w2 m2.kv.ownBlock → (b < w2.heap.size ∧ b2 < w2.heap.size) ∧ w2.cell? ⟨b, 0, none⟩ = some (.int .i64 m.kind) ∧ w2.cell? ⟨b, 1, none⟩ = some (.int .i64 m.op) ∧ w2.cell? ⟨b, 2, none⟩ = some m.av ∧ w2.cell? ⟨b, 3, none⟩ = some m.kv ∧ w2.cell? ⟨b, 4, none⟩ = some (.pointer (some ⟨b2, 0, none⟩)) ∧ w2.cell? ⟨b2, 0, none⟩ = some (.int .i64 m2.kind) ∧ w2.cell? ⟨b2, 1, none⟩ = some (.int .i64 m2.op) ∧ w2.cell? ⟨b2, 2, none⟩ = some m2.av ∧ w2.cell? ⟨b2, 3, none⟩ = some m2.kv ∧ w2.cell? ⟨b2, 4, none⟩ = some p) := fun V w2 h hg => by
  have hx : ∀ o u, W.cell? ⟨b, o, none⟩ = some u → w2.cell? ⟨b, o, none⟩ = some u := fun o u e => (grownO_cell hg (Nat.lt_of_lt_of_le hbl h.size) hkb).trans ((h.cell hbl).trans e)
  have hy : ∀ o u, W.cell? ⟨b2, o, none⟩ = some u → w2.cell? ⟨b2, o, none⟩ = some u := fun o u e => (grownO_cell hg (Nat.lt_of_lt_of_le hbl2 h.size) hkb2).trans ((h.cell hbl2).trans e)
  exact ⟨⟨Nat.lt_of_lt_of_le hbl (Nat.le_trans h.size hg.size), Nat.lt_of_lt_of_le hbl2 (Nat.le_trans h.size hg.size)⟩, hx _ _ h0, hx _ _ h1, hx _ _ h2, hx _ _ h3, hx _ _ h4, hy _ _ g0, hy _ _ g1, hy _ _ g2, hy _ _ g3, hy _ _ g4⟩
 obtain ⟨xk, xop, xds, xav, xkv, xks⟩ := m
 obtain ⟨yk, yop, yds, yav, ykv, yks⟩ := m2
 simp only at hma hmk hma2 hmk2 h0 h1 h2 h3 g0 g1 g2 g3 HTG HYC HFI hkb
 subst hma
 subst hmk
 subst hma2
 subst hmk2
 clear hok hok2 hap hkv hmem hlp hSW hgd hsz hkb hkb2 hlp1
 have HB0 : Hid (Below w.heap.size w W) := hBW
 obtain rfl | ⟨pb, rfl⟩ := hpp
 ·go_upto_region 12 with fail
  go_region_held3 (fun W' => (W'.cell? ⟨b, 0, none⟩ = some (.int .i64 xk) ∧ W'.cell? ⟨b, 1, none⟩ = some (.int .i64 xop) ∧ W'.cell? ⟨b, 2, none⟩ = some (.slice pa xds.length ca) ∧ W'.cell? ⟨b, 3, none⟩ = some (.slice qa xks.length da) ∧ W'.cell? ⟨b, 4, none⟩ = some (.pointer (some ⟨b2, 0, none⟩)) ∧ W'.cell? ⟨b2, 0, none⟩ = some (.int .i64 yk) ∧ W'.cell? ⟨b2, 1, none⟩ = some (.int .i64 yop) ∧ W'.cell? ⟨b2, 2, none⟩ = some (.slice pa2 yds.length ca2) ∧ W'.cell? ⟨b2, 3, none⟩ = some (.slice qa2 yks.length da2) ∧ W'.cell? ⟨b2, 4, none⟩ = some (.pointer none))) (first | with_reducible assumption | with_reducible exact ⟨cel_drew.trans h0, cel_drew.trans h1, cel_drew.trans h2, cel_drew.trans h3, cel_drew.trans h4, cel_drew.trans g0, cel_drew.trans g1, cel_drew.trans g2, cel_drew.trans g3, cel_drew.trans g4⟩ | with_reducible exact ⟨(cel_alloc hz1).trans hS2.1, (cel_alloc hz1).trans hS2.2.1, (cel_alloc hz1).trans hS2.2.2.1, (cel_alloc hz1).trans hS2.2.2.2.1, (cel_alloc hz1).trans hS2.2.2.2.2.1, (cel_alloc hz2).trans hS2.2.2.2.2.2.1, (cel_alloc hz2).trans hS2.2.2.2.2.2.2.1, (cel_alloc hz2).trans hS2.2.2.2.2.2.2.2.1, (cel_alloc hz2).trans hS2.2.2.2.2.2.2.2.2.1, (cel_alloc hz2).trans hS2.2.2.2.2.2.2.2.2.2⟩ | skip) (first | (go_at_call 88; refine (HTG.out _ (by exact (Below.refl _ _).drew)).mono ?_; rintro e w2 ⟨mk, mop, mds, s0, t0, s1, t1, mks, rfl, hmo, hmn, hmv, hg⟩; have HFJ : Hid (∀ t, BehRet w (w2.alloc (.cells #[.int .i64 mk, .int .i64 mop, .slice s0 mds.length t0, .slice s1 mks.length t1, _] t)) base _ (.returned (.pointer (some ⟨w2.heap.size, 0, none⟩)))) := (fun t => HFI.out _ w2 (MNet.mk mk mop mds (.slice s0 mds.length t0) (.slice s1 mks.length t1) mks) t (by exact (Below.refl _ _).drew) hg hmo hmn hmv); obtain ⟨⟨hz1, hz2⟩, hS2⟩ := HYC.out _ w2 (by exact (Below.refl _ _).drew) hg; clear hmo hmn hmv hg))
  all_goals
   go_wp2
   go_ret
   exact HFJ.out _
 ·go_upto_region 12 with fail
  go_region_held3 (fun W' => (W'.cell? ⟨b, 0, none⟩ = some (.int .i64 xk) ∧ W'.cell? ⟨b, 1, none⟩ = some (.int .i64 xop) ∧ W'.cell? ⟨b, 2, none⟩ = some (.slice pa xds.length ca) ∧ W'.cell? ⟨b, 3, none⟩ = some (.slice qa xks.length da) ∧ W'.cell? ⟨b, 4, none⟩ = some (.pointer (some ⟨b2, 0, none⟩)) ∧ W'.cell? ⟨b2, 0, none⟩ = some (.int .i64 yk) ∧ W'.cell? ⟨b2, 1, none⟩ = some (.int .i64 yop) ∧ W'.cell? ⟨b2, 2, none⟩ = some (.slice pa2 yds.length ca2) ∧ W'.cell? ⟨b2, 3, none⟩ = some (.slice qa2 yks.length da2) ∧ W'.cell? ⟨b2, 4, none⟩ = some (.pointer (some ⟨pb, 0, none⟩)))) (first | with_reducible assumption | with_reducible exact ⟨cel_drew.trans h0, cel_drew.trans h1, cel_drew.trans h2, cel_drew.trans h3, cel_drew.trans h4, cel_drew.trans g0, cel_drew.trans g1, cel_drew.trans g2, cel_drew.trans g3, cel_drew.trans g4⟩ | with_reducible exact ⟨(cel_alloc hz1).trans hS2.1, (cel_alloc hz1).trans hS2.2.1, (cel_alloc hz1).trans hS2.2.2.1, (cel_alloc hz1).trans hS2.2.2.2.1, (cel_alloc hz1).trans hS2.2.2.2.2.1, (cel_alloc hz2).trans hS2.2.2.2.2.2.1, (cel_alloc hz2).trans hS2.2.2.2.2.2.2.1, (cel_alloc hz2).trans hS2.2.2.2.2.2.2.2.1, (cel_alloc hz2).trans hS2.2.2.2.2.2.2.2.2.1, (cel_alloc hz2).trans hS2.2.2.2.2.2.2.2.2.2⟩ | skip) (first | (go_at_call 88; refine (HTG.out _ (by exact (Below.refl _ _).drew)).mono ?_; rintro e w2 ⟨mk, mop, mds, s0, t0, s1, t1, mks, rfl, hmo, hmn, hmv, hg⟩; have HFJ : Hid (∀ t, BehRet w (w2.alloc (.cells #[.int .i64 mk, .int .i64 mop, .slice s0 mds.length t0, .slice s1 mks.length t1, _] t)) base _ (.returned (.pointer (some ⟨w2.heap.size, 0, none⟩)))) := (fun t => HFI.out _ w2 (MNet.mk mk mop mds (.slice s0 mds.length t0) (.slice s1 mks.length t1) mks) t (by exact (Below.refl _ _).drew) hg hmo hmn hmv); obtain ⟨⟨hz1, hz2⟩, hS2⟩ := HYC.out _ w2 (by exact (Below.refl _ _).drew) hg; clear hmo hmn hmv hg))
  all_goals
   go_wp2
   go_ret
   exact HFJ.out _
theorem BehRet.drew {w w' : World} {base : Nat} {st : List Stil.Net} {e : Ending} (h : BehRet w w' base st e) : BehRet w w'.drew base st e := by
 obtain ⟨b, bs, ms, he, hs, hn, hb⟩ := h
 exact ⟨b, bs, ms, he, hs.below (Below.refl _ _).drew, hn, hb.drew⟩
theorem StackAt.tail {w : World} {base b : Nat} {bs : List Nat} {m : MNet} {r : List MNet} {v p : Value} (h : StackAt w base (b :: bs) (m :: r) v) (hp : LinkAt w bs r p) : StackAt w base bs r p := by
 have hap := h.apart
 rw [mVals_cons, List.pairwise_append] at hap
 exact ⟨hp, fun x hx => h.oks x (List.mem_cons_of_mem _ hx), hap.2.1, fun c hc => ⟨(h.free c (List.mem_cons_of_mem _ hc)).1, (h.free c (List.mem_cons_of_mem _ hc)).2.1, fun x hx => (h.free c (List.mem_cons_of_mem _ hc)).2.2 x (by rw [mVals_cons]; exact List.mem_append_right _ hx)⟩⟩
theorem stack_not {W : World} {base b : Nat} {bs : List Nat} {m : MNet} {r : List MNet} {v p : Value} (hst : StackAt W base (b :: bs) (m :: r) v) (hp : LinkAt W bs r p) (hb : base ≤ W.heap.size) (t : TypeId) :
  StackAt ((W.alloc (.cells #[.int .i64 m.kind, .int .i64 m.op, m.av, m.kv] 29)).alloc (.cells #[.int .i64 4, .int .i64 0, .slice none 0 0, .slice (some ⟨W.heap.size, 0, none⟩) 1 1, p] t)) base ((W.heap.size + 1) :: bs) (notM W.heap.size m :: r) (.pointer (some ⟨W.heap.size + 1, 0, none⟩)) := by
 have hap := hst.apart
 have hlow := hst.low
 rw [mVals_cons, List.pairwise_append] at hap
 have hM := notM_own (X := m) ⟨hst.oks m (by simp), hap.1⟩ hb
 have h1 := ((hst.tail hp).below (below_alloc W (.cells #[.int .i64 m.kind, .int .i64 m.op, m.av, m.kv] 29))).push (m := notM W.heap.size m) (t := t) hM (by
  rw [List.pairwise_append]
  refine ⟨hM.2, hap.2.1, fun x hx y hy => ?_⟩
  rcases notM_vals hx [] with h | h
  ·rw [List.append_nil] at h
   exact hap.2.2 x h y hy
  ·exact (aside_new (n := W.heap.size) (hlow y (by rw [mVals_cons]; exact List.mem_append_right _ hy)) h).symm) (fun c hc x hx e => by
  rcases notM_vals hx [] with h | h
  ·rw [List.append_nil] at h
   exact (hst.free c (List.mem_cons_of_mem _ hc)).2.2 x (by rw [mVals_cons]; exact List.mem_append_left _ h) e
  ·have := h _ e
   have := (hst.free c (List.mem_cons_of_mem _ hc)).2.1
   omega) (by simp; omega)
 simp only [World.size_alloc] at h1
 exact h1
theorem i_behind6 (i : Stil.Inst) (av : Value) (bs : List Nat) (m : MNet) (r : List MNet) (v : Value) (base : Nat) (w : World) (hst : StackAt w base bs (m :: r) v) (hav : DevsAt w av i.one.args) (hf : i.fits) (hcc : i.code = 6) (hbase : base ≤ w.heap.size) :
  Calls Tryz.prog 55 #[v, .agg #[.int .i64 i.code, .int .i64 i.one.op, av]] w fun e w' => BehRet w w' base (Stil.doNet i.code i.one ((m :: r).map MNet.net)) e := by
 have HCP : Hid (∀ W, Below w.heap.size w W → Calls Tryz.prog 87 #[.agg #[.int .i64 i.one.op, av]] W fun r w' => ∃ u, r = .returned (.agg #[.int .i64 i.one.op, u]) ∧ w'.ownsRow W.heap.size 117 3 u i.one.args.length (devsCells i.one.args) ∧ Below W.heap.size W w') := fun W h => i_normElem i.one.op av i.one.args W (hav.below h) hf.2.2.1
 obtain ⟨p0, r0, rfl, -⟩ := hav
 obtain ⟨c, op, ds⟩ := i
 simp only at HCP hcc ⊢
 subst hcc
 have HS : Hid (StackAt w base bs (m :: r) v) := hst
 clear hst hf
 go_enter Tryz.func55, Tryz.ntmps55
 go_upto_region 2 with (go_at_call 87; refine (HCP.out _ blA).mono ?_; rintro e w1 ⟨u1, rfl, hown, hb1⟩; obtain ⟨a1, c1, hu⟩ := slice_of_owns hown; subst hu; have HOW : Hid (w1.ownsRow (w.heap.size + 1) 117 3 (.slice a1 ds.length c1) ds.length (devsCells ds)) := (by have h := hown; simp only [World.size_alloc] at h; exact h); clear hown)
 have hB1 : Below w.heap.size w w1 := blA
 have hs1 : w.heap.size < w1.heap.size := by have := hb1.size; simp at this; omega
 obtain ⟨W, hW⟩ : ∃ W, W = w1.alloc (.cells #[.int .i64 1, .int .i64 op, .slice a1 ds.length c1, .slice none 0 0] 29) := ⟨_, rfl⟩
 have hb1W : Below w1.heap.size w1 W := by rw [hW]; exact below_alloc _ _
 have hBW : Below w.heap.size w W := bl_call hB1 hb1W
 have k0 : W.cell? ⟨w.heap.size, 0, none⟩ = some (.int .i64 6) := by
  rw [hb1W.cell (p := ⟨w.heap.size, 0, none⟩) hs1, hb1.cell (p := ⟨w.heap.size, 0, none⟩) (by simp)]
  simp [go_sem]
 have bx : B4 W w1.heap.size (.int .i64 1) (.int .i64 op) (.slice a1 ds.length c1) (.slice none 0 0) := by rw [hW]; exact box4
 rw [← hW]
 clear hW hb1W hB1 hb1 HOW HCP
 obtain ⟨hbo, ⟨o0, o1, o2, o3⟩, _⟩ := bx
 have hSW := HS.out.below hBW
 obtain ⟨b, bs', rfl, rfl, hbl, ⟨h0, h1, h2, h3⟩, p, h4, hlp⟩ := hSW.link.cons
 have hok := (MOk_iff _ _ _).1 (hSW.oks m (by simp))
 obtain ⟨pa, ca, hma⟩ := slice_of_owns hok.1
 obtain ⟨qa, da, hmk⟩ := slice_of_owns hok.2.1
 have hpp := hlp.ptr
 have HFI : Hid (∀ t, BehRet w ((W.alloc (.cells #[.int .i64 m.kind, .int .i64 m.op, m.av, m.kv] 29)).alloc (.cells #[.int .i64 4, .int .i64 0, .slice none 0 0, .slice (some ⟨W.heap.size, 0, none⟩) 1 1, p] t)) base (Stil.doNet 6 ⟨op, ds⟩ ((m :: r).map MNet.net)) (.returned (.pointer (some ⟨W.heap.size + 1, 0, none⟩)))) := fun t => by
  refine ⟨W.heap.size + 1, bs', notM W.heap.size m :: r, rfl, stack_not hSW hlp (Nat.le_trans hbase hBW.size) t, ?_, (bl_alloc (bl_alloc hBW _) _).mono hbase⟩
  rw [List.map_cons, notM_net]
  rfl
 obtain ⟨xk, xop, xds, xav, xkv, xks⟩ := m
 simp only at hma hmk h0 h1 h2 h3 HFI
 subst hma
 subst hmk
 clear hok hlp hSW
 have HB0 : Hid (Below w.heap.size w W) := hBW
 obtain rfl | ⟨pb, rfl⟩ := hpp
 all_goals
  go_upto_region 13 with fail
  go_region
  all_goals
   go_wp2
   go_ret
   exact (HFI.out _).drew
theorem i_netBehind (i : Stil.Inst) (av : Value) (bs : List Nat) (ms : List MNet) (v : Value) (base s : Nat) (w : World) (hst : StackAt w base bs ms v) (hav : DevsAt w av i.one.args) (hf : i.fits) (h1 : 1 ≤ i.code) (h6 : i.code < 7) (hn : Stil.needs i.code ≤ (ms.length : Int)) (hgd : Stil.stOk s (ms.map MNet.net)) (hs : s ≤ 800000) (hbase : base ≤ w.heap.size) :
  Calls Tryz.prog 55 #[v, .agg #[.int .i64 i.code, .int .i64 i.one.op, av]] w fun e w' => BehRet w w' base (Stil.doNet i.code i.one (ms.map MNet.net)) e := by
 obtain ⟨hg1, hg2⟩ := hgd
 by_cases e1 : i.code = 1
 ·exact i_behind1 i av bs ms v base w hst hav hf e1 hbase
 ·cases ms with
  | nil =>
   exfalso
   rcases (by omega : i.code = 2 ∨ i.code = 3 ∨ i.code = 4 ∨ i.code = 5 ∨ i.code = 6) with e | e | e | e | e <;> rw [e] at hn <;> exact absurd hn (by decide)
  | cons m r =>
   rw [List.map_cons, Stil.sizes_cons] at hg2
   have hm := hg1 m.net (by simp)
   by_cases e2 : i.code = 2
   ·exact i_behind2 i av bs m r v base w hst hav hf e2 hm (by omega) hbase
   by_cases e3 : i.code = 3
   ·exact i_behind3 i av bs m r v base w hst hav hf e3 hm (by omega) hbase
   by_cases e6 : i.code = 6
   ·exact i_behind6 i av bs m r v base w hst hav hf e6 hbase
   cases r with
   | nil =>
    exfalso
    rcases (by omega : i.code = 4 ∨ i.code = 5) with e | e <;> rw [e] at hn <;> exact absurd (show (2 : Int) ≤ 1 from hn) (by decide)
   | cons m2 r =>
    rw [List.map_cons, Stil.sizes_cons] at hg2
    have hm2 := hg1 m2.net (by simp)
    by_cases e4 : i.code = 4
    ·exact i_behind4 i av bs m m2 r v base w hst hav hf e4 hm2 (by omega) hbase
    ·exact i_behind5 i av bs m m2 r v base w hst hav hf (by omega) hm2 (by omega) hbase
end Go.Proofs.YtpaljcoojkbhnaaGreatDoor
