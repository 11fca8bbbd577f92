/- The specification's chapter 8: one instruction on a stack of nets. -/
import Derived.Test.YtpaljcoojkbhnaaGreatDoorKa
import Derived.Test.YtpaljcoojkbhnaaGreatDoorGm
import Derived.Test.YtpaljcoojkbhnaaGreatDoorGc
set_option maxHeartbeats 4000000
set_option maxRecDepth 100000
namespace Go.Proofs.YtpaljcoojkbhnaaGreatDoor
open Go.RowKit Go.Sort Go.BigFrame
theorem swap_pair {v : Value} {ms0 : List MNet} {vs : List Value} {m : MNet} {lo : Nat} (h : (v :: (mVals ms0 ++ vs)).Pairwise Aside) (hlow : ∀ x ∈ v :: mVals ms0, ∀ q, x.ownBlock = some q → q < lo) (hm : m.vals.Pairwise Aside) (hv : ∀ x ∈ m.vals, x ∈ vs ∨ ∀ q, x.ownBlock = some q → lo ≤ q) : (v :: mVals (ms0 ++ [m])).Pairwise Aside := by
 rw [mVals_append, mVals_one]
 rw [← List.cons_append] at h ⊢
 rw [List.pairwise_append] at h ⊢
 refine ⟨h.1, hm, fun x hx y hy => ?_⟩
 rcases hv y hy with h1 | h1
 ·exact h.2.2 x hx y h1
 ·exact aside_new (hlow x hx) h1
/-- The contact that an instruction brings. -/
def oneM (op : Int) (ds : List Stil.Dev) (a : Option Addr) (c : Nat) : MNet := ⟨1, op, ds, .slice a ds.length c, .slice none 0 0, []⟩
theorem oneM_net (op : Int) (ds : List Stil.Dev) (a : Option Addr) (c : Nat) : (oneM op ds a c).net = Stil.contactOf ⟨op, ds⟩ := by unfold oneM; rw [MNet.net_eq]; rfl
theorem oneM_own {w : World} {base : Nat} {op : Int} {ds : List Stil.Dev} {a : Option Addr} {c : Nat} (h : w.ownsRow base 117 3 (.slice a ds.length c) ds.length (devsCells ds)) : MOwn w base (oneM op ds a c) := (MRow.nil w base).net 1 op ds h (fun x hx => aside_nils _ x hx)
/-- What an instruction leaves of a stack of nets. -/
def DoRet (w w' : World) (base : Nat) (st : List Stil.Net) (e : Ending) : Prop := ∃ (a : Option Addr) (c : Nat) (ms : List MNet), e = .returned (.slice a ms.length c) ∧ MRow w' base (.slice a ms.length c) ms ∧ (ms.map MNet.net).reverse = st ∧ Below base w w'
/-- What is known behind the copy of the contact. -/
structure DoSt (w W : World) (base s1 : Nat) (ms : List MNet) (ra : Option Addr) (rc : Nat) (op : Int) (ds : List Stil.Dev) (a1 : Option Addr) (c1 : Nat) : Prop where
 row : MRow W base (.slice ra ms.length rc) ms
 one : MOwn W base (oneM op ds a1 c1)
 low : ∀ x ∈ Value.slice ra ms.length rc :: mVals ms, ∀ q, x.ownBlock = some q → q < w.heap.size
 high : ∀ x ∈ (oneM op ds a1 c1).vals, ∀ q, x.ownBlock = some q → w.heap.size ≤ q
 box : B4 W s1 (.int .i64 1) (.int .i64 op) (.slice a1 ds.length c1) (.slice none 0 0)
 at1 : w.heap.size < s1
 bel : Below w.heap.size w W
 bas : base ≤ w.heap.size
theorem DoSt.all {w W : World} {base s1 : Nat} {ms : List MNet} {ra : Option Addr} {rc : Nat} {op : Int} {ds : List Stil.Dev} {a1 : Option Addr} {c1 : Nat} (h : DoSt w W base s1 ms ra rc op ds a1 c1) : (Value.slice ra ms.length rc :: (mVals ms ++ mVals [oneM op ds a1 c1])).Pairwise Aside := by
 rw [← List.cons_append, List.pairwise_append]
 refine ⟨h.row.2.2, by rw [mVals_one]; exact h.one.2, fun x hx y hy => aside_new (h.low x hx) (h.high y (by rw [mVals_one] at hy; exact hy))⟩
theorem DoSt.below {w W W' : World} {base s1 : Nat} {ms : List MNet} {ra : Option Addr} {rc : Nat} {op : Int} {ds : List Stil.Dev} {a1 : Option Addr} {c1 : Nat} (h : DoSt w W base s1 ms ra rc op ds a1 c1) (hb : Below W.heap.size W W') : DoSt w W' base s1 ms ra rc op ds a1 c1 :=
 ⟨h.row.below hb, h.one.below hb, h.low, h.high, h.box.below hb h.box.1, h.at1, h.bel.trans (hb.mono h.bel.size), h.bas⟩
theorem last_set {ms : List MNet} {j : Nat} (h : ms.length = j + 1) (M : MNet) : ms.set j M = ms.take j ++ [M] := by
 rw [List.set_eq_take_append_cons_drop, if_pos (by omega), List.drop_of_length_le (by omega)]
theorem last_all {ms : List MNet} {j : Nat} (h : ms.length = j + 1) (hj : j < ms.length) : ms = ms.take j ++ [ms[j]] := by
 rw [← List.take_succ_eq_append_getElem hj, List.take_of_length_le (by omega)]
theorem do_last {c : Int} {e : Stil.Elem} {ms : List MNet} {j : Nat} (hc : c = 2 ∨ c = 3) (h : ms.length = j + 1) (hj : j < ms.length) {M : MNet} (hM : M.net = Stil.addNet c ms[j].net (Stil.contactOf e)) : ((ms.set j M).map MNet.net).reverse = Stil.doNet c e (ms.map MNet.net).reverse := by
 have h1 : (ms.map MNet.net).reverse = ms[j].net :: ((ms.take j).map MNet.net).reverse := by
  have e := congrArg (fun l : List MNet => (l.map MNet.net).reverse) (last_all h hj)
  simp only [List.map_append, List.map_cons, List.map_nil, List.reverse_append, List.reverse_cons, List.reverse_nil, List.nil_append, List.cons_append] at e
  exact e
 rw [last_set h, List.map_append, List.reverse_append, List.map_singleton, hM, h1]
 rcases hc with rfl | rfl <;> rfl
theorem bl4 {base g o1 o2 o3 o4 : Nat} {w W : World} {u1 u2 u3 u4 : Value} (h : Below base w W) (hg : base ≤ g) : Below base w ((((W.setCell ⟨g, o1, none⟩ u1).setCell ⟨g, o2, none⟩ u2).setCell ⟨g, o3, none⟩ u3).setCell ⟨g, o4, none⟩ u4) := (((h.setCell hg _).setCell hg _).setCell hg _).setCell hg _
theorem s_do1 (i : Stil.Inst) (av : Value) (ms : List MNet) (ra : Option Addr) (rc base : Nat) (w : World) (hrow : MRow w base (.slice ra ms.length rc) ms) (hav : DevsAt w av i.one.args) (hf : i.fits) (hcc : i.code = 1) (hn : Stil.needs i.code ≤ ms.length) (hs : Stil.sizes (ms.map MNet.net) ≤ 800000) (hbase : base ≤ w.heap.size) :
  Calls Tryz.prog 22 #[.slice ra ms.length rc, .agg #[.int .i64 i.code, .int .i64 i.one.op, av]] w fun e w' => DoRet w w' base (Stil.doNet i.code i.one (ms.map MNet.net).reverse) e := by
 have HCP : Hid (∀ W, Below w.heap.size w W → Calls Tryz.prog 48 #[.agg #[.int .i64 i.one.op, av]] W fun r w' => ∃ a c, r = .returned (.agg #[.int .i64 i.one.op, .slice a i.one.args.length c]) ∧ w'.ownsRow W.heap.size 117 3 (.slice a i.one.args.length c) i.one.args.length (devsCells i.one.args) ∧ Below W.heap.size W w') := fun W h => s_copy i.one av W (hav.below h) hf.2.2.1
 obtain ⟨p0, r0, rfl, -⟩ := hav
 obtain ⟨c, op, ds⟩ := i
 simp only at HCP hcc hn ⊢
 subst hcc
 have hlm : ms.length ≤ 800000 := by
  have := Stil.len_sizes (ms.map MNet.net)
  rw [List.length_map] at this
  omega
 have HS : Hid (Stil.sizes (ms.map MNet.net) ≤ 800000) := hs
 have HR : Hid (MRow w base (.slice ra ms.length rc) ms) := hrow
 clear hrow hs hf
 go_enter Tryz.func22, Tryz.ntmps22
 go_upto_region 3 with (go_at_call 48; refine (HCP.out _ blA).mono ?_; rintro e w1 ⟨a1, c1, rfl, hown, hb1⟩; have HOW : Hid (w1.ownsRow (w.heap.size + 1) 117 3 (.slice a1 ds.length c1) ds.length (devsCells ds)) := (by have h := hown; simp only [World.size_alloc] at h; exact h); clear hown)
 have hB1 : Below w.heap.size w w1 := blA
 have hs1 : w.heap.size < w1.heap.size := by have := hb1.size; simp at this; omega
 obtain ⟨W, hW⟩ : ∃ W, W = w1.alloc (.cells #[.int .i64 1, .int .i64 op, .slice a1 ds.length c1, .slice none 0 0] 29) := ⟨_, rfl⟩
 have hb1W : Below w1.heap.size w1 W := by rw [hW]; exact below_alloc _ _
 have hBW : Below w.heap.size w W := bl_call hB1 hb1W
 have HST : Hid (DoSt w W base w1.heap.size ms ra rc op ds a1 c1) := by
  refine ⟨HR.out.below hBW, ?_, fun x hx q hq => (HR.out.lt x hx q hq).2, fun x hx q hq => ?_, by rw [hW]; exact box4, hs1, hBW, hbase⟩
  ·exact ((oneM_own HOW.out).le (by omega)).below hb1W
  ·have := (MOk.lt _ (oneM_own (op := op) HOW.out).1 x hx q hq).1
   omega
 have k0 : W.cell? ⟨w.heap.size, 0, none⟩ = some (.int .i64 1) := by
  rw [hb1W.cell (p := ⟨w.heap.size, 0, none⟩) hs1, hb1.cell (p := ⟨w.heap.size, 0, none⟩) (by simp)]
  simp [go_sem]
 rw [← hW]
 clear hW hb1W hB1 hb1 HOW HCP HR
 obtain ⟨_, ⟨o0, o1, o2, o3⟩, _⟩ := HST.out.box
 have hzW : w1.heap.size < W.heap.size := HST.out.box.1
 go_wp2_with (at_builtin; refine wpList_append_nets rfl _ _ rfl base ra rc ms [oneM op ds a1 c1] (some ⟨W.heap.size, 0, none⟩) 1 rfl rfl (HST.out.row.below (below_alloc _ _)) (fun _ => ⟨_, rfl, by exact cells4⟩) (fun m hm => by rw [List.mem_singleton.1 hm]; exact HST.out.one.1.below (below_alloc _ _)) HST.out.all (by simp; omega) (by have := HST.out.bel.size; simp; omega) ?_; intro a6 c6 w6 hmr6 hb6; have HM6 : Hid (MRow w6 base (.slice a6 (ms.length + 1) c6) (ms ++ [oneM op ds a1 c1])) := hmr6; clear hmr6)
 go_ret
 refine ⟨a6, c6, ms ++ [oneM op ds a1 c1], by rw [List.length_append]; rfl, by rw [List.length_append]; exact HM6.out, ?_, ((bl_alloc HST.out.bel _).mono hbase).trans hb6⟩
 rw [List.map_append, List.reverse_append, List.map_singleton, oneM_net]
 rfl
theorem s_do2 (i : Stil.Inst) (av : Value) (ms : List MNet) (ra : Option Addr) (rc base : Nat) (w : World) (hrow : MRow w base (.slice ra ms.length rc) ms) (hav : DevsAt w av i.one.args) (hf : i.fits) (hcc : i.code = 2) (hn : Stil.needs i.code ≤ ms.length) (hs : Stil.sizes (ms.map MNet.net) ≤ 800000) (hbase : base ≤ w.heap.size) :
  Calls Tryz.prog 22 #[.slice ra ms.length rc, .agg #[.int .i64 i.code, .int .i64 i.one.op, av]] w fun e w' => DoRet w w' base (Stil.doNet i.code i.one (ms.map MNet.net).reverse) e := by
 have HCP : Hid (∀ W, Below w.heap.size w W → Calls Tryz.prog 48 #[.agg #[.int .i64 i.one.op, av]] W fun r w' => ∃ a c, r = .returned (.agg #[.int .i64 i.one.op, .slice a i.one.args.length c]) ∧ w'.ownsRow W.heap.size 117 3 (.slice a i.one.args.length c) i.one.args.length (devsCells i.one.args) ∧ Below W.heap.size W w') := fun W h => s_copy i.one av W (hav.below h) hf.2.2.1
 obtain ⟨p0, r0, rfl, -⟩ := hav
 obtain ⟨c, op, ds⟩ := i
 simp only at HCP hcc hn ⊢
 subst hcc
 have hlm : ms.length ≤ 800000 := by
  have := Stil.len_sizes (ms.map MNet.net)
  rw [List.length_map] at this
  omega
 have HS : Hid (Stil.sizes (ms.map MNet.net) ≤ 800000) := hs
 have HR : Hid (MRow w base (.slice ra ms.length rc) ms) := hrow
 clear hrow hs hf
 go_enter Tryz.func22, Tryz.ntmps22
 go_upto_region 3 with (go_at_call 48; refine (HCP.out _ blA).mono ?_; rintro e w1 ⟨a1, c1, rfl, hown, hb1⟩; have HOW : Hid (w1.ownsRow (w.heap.size + 1) 117 3 (.slice a1 ds.length c1) ds.length (devsCells ds)) := (by have h := hown; simp only [World.size_alloc] at h; exact h); clear hown)
 have hB1 : Below w.heap.size w w1 := blA
 have hs1 : w.heap.size < w1.heap.size := by have := hb1.size; simp at this; omega
 obtain ⟨W, hW⟩ : ∃ W, W = w1.alloc (.cells #[.int .i64 1, .int .i64 op, .slice a1 ds.length c1, .slice none 0 0] 29) := ⟨_, rfl⟩
 have hb1W : Below w1.heap.size w1 W := by rw [hW]; exact below_alloc _ _
 have hBW : Below w.heap.size w W := bl_call hB1 hb1W
 have HST : Hid (DoSt w W base w1.heap.size ms ra rc op ds a1 c1) := by
  refine ⟨HR.out.below hBW, ?_, fun x hx q hq => (HR.out.lt x hx q hq).2, fun x hx q hq => ?_, by rw [hW]; exact box4, hs1, hBW, hbase⟩
  ·exact ((oneM_own HOW.out).le (by omega)).below hb1W
  ·have := (MOk.lt _ (oneM_own (op := op) HOW.out).1 x hx q hq).1
   omega
 have k0 : W.cell? ⟨w.heap.size, 0, none⟩ = some (.int .i64 2) := by
  rw [hb1W.cell (p := ⟨w.heap.size, 0, none⟩) hs1, hb1.cell (p := ⟨w.heap.size, 0, none⟩) (by simp)]
  simp [go_sem]
 rw [← hW]
 clear hW hb1W hB1 hb1 HOW HCP HR
 obtain ⟨_, ⟨o0, o1, o2, o3⟩, _⟩ := HST.out.box
 have hzW : w1.heap.size < W.heap.size := HST.out.box.1
 obtain ⟨j, hml⟩ : ∃ j, ms.length = j + 1 := ⟨ms.length - 1, by simp [Stil.needs] at hn; omega⟩
 obtain ⟨g, cp, hv, hgb, hgl, _, hcell⟩ := ownsRow_cells HST.out.row.1 (by omega)
 have hjm : j < ms.length := by omega
 obtain ⟨x0, x1, x2, x3⟩ := mCells_get ms j hjm
 have y0 := hcell _ _ x0
 have y1 := hcell _ _ x1
 have y2 := hcell _ _ x2
 have y3 := hcell _ _ x3
 simp only [Value.slice.injEq] at hv
 obtain ⟨rfl, _, rfl⟩ := hv
 have hok := (MOk_iff _ _ _).1 (HST.out.row.2.1 ms[j] (List.getElem_mem hjm))
 obtain ⟨pa, ca, hxa⟩ := slice_of_owns hok.1
 obtain ⟨qa, da, hxk⟩ := slice_of_owns hok.2.1
 have HAD : Hid (∀ V, Below W.heap.size W V → Calls Tryz.prog 49 #[.int .i64 2, .agg #[.int .i64 ms[j].kind, .int .i64 ms[j].op, ms[j].av, ms[j].kv], .agg #[.int .i64 1, .int .i64 op, .slice a1 ds.length c1, .slice none 0 0]] V fun e w' => PutRet w' base (ms[j].vals ++ (oneM op ds a1 c1).vals) V.heap.size (Stil.addNet 2 ms[j].net (Stil.contactOf ⟨op, ds⟩)) e ∧ Below V.heap.size V w') := fun V h => by
  have hst := HST.out.below h
  have hal := hst.all
  have hsz := HS.out
  have he := last_all hml hjm
  rw [← oneM_net op ds a1 c1]
  refine s_add 2 ms[j] (oneM op ds a1 c1) base V (hst.row.2.1 _ (List.getElem_mem hjm)) hst.one.1 ?_ ?_ (Nat.le_trans hbase hst.bel.size)
  ·have h2 := (List.pairwise_cons.1 hal).2
   rw [he, mVals_append, mVals_one, mVals_one, List.append_assoc] at h2
   exact (List.pairwise_append.1 h2).2.1
  ·rw [oneM_net, Stil.contact_size]
   rw [he, List.map_append, Stil.sizes_append, List.map_singleton, Stil.sizes_cons] at hsz
   omega
 have HYC : Hid (∀ V, Below W.heap.size W V → (V.cell? ⟨g, j * 4, none⟩ = some (.int .i64 ms[j].kind) ∧ V.cell? ⟨g, j * 4 + 1, none⟩ = some (.int .i64 ms[j].op) ∧ V.cell? ⟨g, j * 4 + 2, none⟩ = some ms[j].av ∧ V.cell? ⟨g, j * 4 + 3, none⟩ = some ms[j].kv) ∧ V.frozen? ⟨g, j * 4, none⟩ = false ∧ V.frozen? ⟨g, j * 4 + 1, none⟩ = false ∧ V.frozen? ⟨g, j * 4 + 2, none⟩ = false ∧ V.frozen? ⟨g, j * 4 + 3, none⟩ = false) := fun V h =>
  ⟨⟨(h.cell hgl).trans y0, (h.cell hgl).trans y1, (h.cell hgl).trans y2, (h.cell hgl).trans y3⟩, (HST.out.below h).row.1.frozenAt _, (HST.out.below h).row.1.frozenAt _, (HST.out.below h).row.1.frozenAt _, (HST.out.below h).row.1.frozenAt _⟩
 have HML : Hid (ms.length = j + 1) := hml
 have HLV : Hid (∀ M : MNet, M.net = Stil.addNet 2 ms[j].net (Stil.contactOf ⟨op, ds⟩) → ((ms.set j M).map MNet.net).reverse = Stil.doNet 2 ⟨op, ds⟩ (ms.map MNet.net).reverse) := fun M hM => do_last (by simp) hml hjm hM
 have HPV : Hid (∀ (M : MNet) (lo : Nat), w.heap.size ≤ lo → M.vals.Pairwise Aside → (∀ x ∈ M.vals, x ∈ ms[j].vals ++ (oneM op ds a1 c1).vals ∨ ∀ q, x.ownBlock = some q → lo ≤ q) → (Value.slice (some ⟨g, 0, none⟩) ms.length rc :: mVals (ms.set j M)).Pairwise Aside) := fun M lo hlo hM hv => by
  have hal := HST.out.all
  have hlw := HST.out.low
  have he := last_all hml hjm
  rw [last_set hml]
  refine swap_pair (vs := ms[j].vals ++ (oneM op ds a1 c1).vals) (lo := lo) ?_ (fun x hx q hq => Nat.lt_of_lt_of_le (hlw x ?_ q hq) hlo) hM hv
  ·have e2 : mVals ms ++ mVals [oneM op ds a1 c1] = mVals (ms.take j) ++ (ms[j].vals ++ (oneM op ds a1 c1).vals) := by
    rw [mVals_one]
    have e3 := congrArg mVals he
    rw [mVals_append, mVals_one] at e3
    rw [e3, List.append_assoc]
   rw [← e2]
   exact hal
  ·rcases List.mem_cons.1 hx with rfl | hx
   ·exact List.mem_cons_self
   ·refine List.mem_cons_of_mem _ ?_
    rw [he, mVals_append]
    exact List.mem_append_left _ hx
 have e5 : ((j + 1 : Nat) : Int) - 1 = (j : Int) := by omega
 obtain ⟨X, hX⟩ : ∃ X, X = ms[j] := ⟨_, rfl⟩
 rw [← hX] at y0 y1 y2 y3 HAD HYC HLV HPV hxa hxk
 obtain ⟨xk, xop, xds, xav, xkv, xks⟩ := X
 simp only at hxa hxk y0 y1 y2 y3 HAD HYC
 subst hxa
 subst hxk
 rw [hml, e5]
 clear hX hcell x0 x1 x2 x3 hok hn
 have hjn : ¬ ((j : Int) < 0) := by omega
 go_upto_region 7 with fail
 go_region_with (go_at_call 49; refine (HAD.out _ blA).mono ?_; rintro e w2 ⟨⟨mk, mop, mds, s0, t0, s1, t1, mks, rfl, hmo, hmn, hmv⟩, hb2⟩; have HMO : Hid (MOwn w2 base ⟨mk, mop, mds, .slice s0 mds.length t0, .slice s1 mks.length t1, mks⟩) := hmo; have HMN : Hid ((MNet.mk mk mop mds (.slice s0 mds.length t0) (.slice s1 mks.length t1) mks).net = _) := hmn; have HMV : Hid (∀ x ∈ (MNet.mk mk mop mds (.slice s0 mds.length t0) (.slice s1 mks.length t1) mks).vals, _ ∨ ∀ q, x.ownBlock = some q → W.heap.size ≤ q) := hmv; clear hmo hmn hmv y0 y1 y2 y3; obtain ⟨⟨y0, y1, y2, y3⟩, f0, f1, f2, f3⟩ := HYC.out w2 blA; have hB2 : Below W.heap.size W w2 := blA; have HB2 : Hid (Below W.heap.size W w2) := hB2; clear hB2)
 all_goals
  have hp := HPV.out (MNet.mk mk mop mds (.slice s0 mds.length t0) (.slice s1 mks.length t1) mks) W.heap.size HST.out.bel.size HMO.out.2 HMV.out
  have hr := (HST.out.below HB2.out).row.stored (m := (MNet.mk mk mop mds (.slice s0 mds.length t0) (.slice s1 mks.length t1) mks)) hjm HMO.out.1 hp
  have hB := (HST.out.bel.trans (HB2.out.mono HST.out.bel.size)).mono hbase
  have hB4 := bl4 (o1 := j * 4) (o2 := j * 4 + 1) (o3 := j * 4 + 2) (o4 := j * 4 + 3) (u1 := .int .i64 mk) (u2 := .int .i64 mop) (u3 := .slice s0 mds.length t0) (u4 := .slice s1 mks.length t1) hB hgb
  have hlv := HLV.out (MNet.mk mk mop mds (.slice s0 mds.length t0) (.slice s1 mks.length t1) mks) HMN.out
  simp only at hr
  have HR9 : Hid (MRow _ base (.slice (some ⟨g, 0, none⟩) ms.length rc) (ms.set j (MNet.mk mk mop mds (.slice s0 mds.length t0) (.slice s1 mks.length t1) mks))) := hr
  have HB9 : Hid (Below base w _) := hB4
  have HL9 : Hid (((ms.set j (MNet.mk mk mop mds (.slice s0 mds.length t0) (.slice s1 mks.length t1) mks)).map MNet.net).reverse = _) := hlv
  clear hp hr hB hB4 hlv
  go_wp2
  go_ret
  refine ⟨some ⟨g, 0, none⟩, rc, ms.set j (MNet.mk mk mop mds (.slice s0 mds.length t0) (.slice s1 mks.length t1) mks), by rw [List.length_set, HML.out]; rfl, ?_, HL9.out, HB9.out⟩
  rw [List.length_set]
  exact HR9.out
theorem s_do3 (i : Stil.Inst) (av : Value) (ms : List MNet) (ra : Option Addr) (rc base : Nat) (w : World) (hrow : MRow w base (.slice ra ms.length rc) ms) (hav : DevsAt w av i.one.args) (hf : i.fits) (hcc : i.code = 3) (hn : Stil.needs i.code ≤ ms.length) (hs : Stil.sizes (ms.map MNet.net) ≤ 800000) (hbase : base ≤ w.heap.size) :
  Calls Tryz.prog 22 #[.slice ra ms.length rc, .agg #[.int .i64 i.code, .int .i64 i.one.op, av]] w fun e w' => DoRet w w' base (Stil.doNet i.code i.one (ms.map MNet.net).reverse) e := by
 have HCP : Hid (∀ W, Below w.heap.size w W → Calls Tryz.prog 48 #[.agg #[.int .i64 i.one.op, av]] W fun r w' => ∃ a c, r = .returned (.agg #[.int .i64 i.one.op, .slice a i.one.args.length c]) ∧ w'.ownsRow W.heap.size 117 3 (.slice a i.one.args.length c) i.one.args.length (devsCells i.one.args) ∧ Below W.heap.size W w') := fun W h => s_copy i.one av W (hav.below h) hf.2.2.1
 obtain ⟨p0, r0, rfl, -⟩ := hav
 obtain ⟨c, op, ds⟩ := i
 simp only at HCP hcc hn ⊢
 subst hcc
 have hlm : ms.length ≤ 800000 := by
  have := Stil.len_sizes (ms.map MNet.net)
  rw [List.length_map] at this
  omega
 have HS : Hid (Stil.sizes (ms.map MNet.net) ≤ 800000) := hs
 have HR : Hid (MRow w base (.slice ra ms.length rc) ms) := hrow
 clear hrow hs hf
 go_enter Tryz.func22, Tryz.ntmps22
 go_upto_region 3 with (go_at_call 48; refine (HCP.out _ blA).mono ?_; rintro e w1 ⟨a1, c1, rfl, hown, hb1⟩; have HOW : Hid (w1.ownsRow (w.heap.size + 1) 117 3 (.slice a1 ds.length c1) ds.length (devsCells ds)) := (by have h := hown; simp only [World.size_alloc] at h; exact h); clear hown)
 have hB1 : Below w.heap.size w w1 := blA
 have hs1 : w.heap.size < w1.heap.size := by have := hb1.size; simp at this; omega
 obtain ⟨W, hW⟩ : ∃ W, W = w1.alloc (.cells #[.int .i64 1, .int .i64 op, .slice a1 ds.length c1, .slice none 0 0] 29) := ⟨_, rfl⟩
 have hb1W : Below w1.heap.size w1 W := by rw [hW]; exact below_alloc _ _
 have hBW : Below w.heap.size w W := bl_call hB1 hb1W
 have HST : Hid (DoSt w W base w1.heap.size ms ra rc op ds a1 c1) := by
  refine ⟨HR.out.below hBW, ?_, fun x hx q hq => (HR.out.lt x hx q hq).2, fun x hx q hq => ?_, by rw [hW]; exact box4, hs1, hBW, hbase⟩
  ·exact ((oneM_own HOW.out).le (by omega)).below hb1W
  ·have := (MOk.lt _ (oneM_own (op := op) HOW.out).1 x hx q hq).1
   omega
 have k0 : W.cell? ⟨w.heap.size, 0, none⟩ = some (.int .i64 3) := by
  rw [hb1W.cell (p := ⟨w.heap.size, 0, none⟩) hs1, hb1.cell (p := ⟨w.heap.size, 0, none⟩) (by simp)]
  simp [go_sem]
 rw [← hW]
 clear hW hb1W hB1 hb1 HOW HCP HR
 obtain ⟨_, ⟨o0, o1, o2, o3⟩, _⟩ := HST.out.box
 have hzW : w1.heap.size < W.heap.size := HST.out.box.1
 obtain ⟨j, hml⟩ : ∃ j, ms.length = j + 1 := ⟨ms.length - 1, by simp [Stil.needs] at hn; omega⟩
 obtain ⟨g, cp, hv, hgb, hgl, _, hcell⟩ := ownsRow_cells HST.out.row.1 (by omega)
 have hjm : j < ms.length := by omega
 obtain ⟨x0, x1, x2, x3⟩ := mCells_get ms j hjm
 have y0 := hcell _ _ x0
 have y1 := hcell _ _ x1
 have y2 := hcell _ _ x2
 have y3 := hcell _ _ x3
 simp only [Value.slice.injEq] at hv
 obtain ⟨rfl, _, rfl⟩ := hv
 have hok := (MOk_iff _ _ _).1 (HST.out.row.2.1 ms[j] (List.getElem_mem hjm))
 obtain ⟨pa, ca, hxa⟩ := slice_of_owns hok.1
 obtain ⟨qa, da, hxk⟩ := slice_of_owns hok.2.1
 have HAD : Hid (∀ V, Below W.heap.size W V → Calls Tryz.prog 49 #[.int .i64 3, .agg #[.int .i64 ms[j].kind, .int .i64 ms[j].op, ms[j].av, ms[j].kv], .agg #[.int .i64 1, .int .i64 op, .slice a1 ds.length c1, .slice none 0 0]] V fun e w' => PutRet w' base (ms[j].vals ++ (oneM op ds a1 c1).vals) V.heap.size (Stil.addNet 3 ms[j].net (Stil.contactOf ⟨op, ds⟩)) e ∧ Below V.heap.size V w') := fun V h => by
  have hst := HST.out.below h
  have hal := hst.all
  have hsz := HS.out
  have he := last_all hml hjm
  rw [← oneM_net op ds a1 c1]
  refine s_add 3 ms[j] (oneM op ds a1 c1) base V (hst.row.2.1 _ (List.getElem_mem hjm)) hst.one.1 ?_ ?_ (Nat.le_trans hbase hst.bel.size)
  ·have h2 := (List.pairwise_cons.1 hal).2
   rw [he, mVals_append, mVals_one, mVals_one, List.append_assoc] at h2
   exact (List.pairwise_append.1 h2).2.1
  ·rw [oneM_net, Stil.contact_size]
   rw [he, List.map_append, Stil.sizes_append, List.map_singleton, Stil.sizes_cons] at hsz
   omega
 have HYC : Hid (∀ V, Below W.heap.size W V → (V.cell? ⟨g, j * 4, none⟩ = some (.int .i64 ms[j].kind) ∧ V.cell? ⟨g, j * 4 + 1, none⟩ = some (.int .i64 ms[j].op) ∧ V.cell? ⟨g, j * 4 + 2, none⟩ = some ms[j].av ∧ V.cell? ⟨g, j * 4 + 3, none⟩ = some ms[j].kv) ∧ V.frozen? ⟨g, j * 4, none⟩ = false ∧ V.frozen? ⟨g, j * 4 + 1, none⟩ = false ∧ V.frozen? ⟨g, j * 4 + 2, none⟩ = false ∧ V.frozen? ⟨g, j * 4 + 3, none⟩ = false) := fun V h =>
  ⟨⟨(h.cell hgl).trans y0, (h.cell hgl).trans y1, (h.cell hgl).trans y2, (h.cell hgl).trans y3⟩, (HST.out.below h).row.1.frozenAt _, (HST.out.below h).row.1.frozenAt _, (HST.out.below h).row.1.frozenAt _, (HST.out.below h).row.1.frozenAt _⟩
 have HML : Hid (ms.length = j + 1) := hml
 have HLV : Hid (∀ M : MNet, M.net = Stil.addNet 3 ms[j].net (Stil.contactOf ⟨op, ds⟩) → ((ms.set j M).map MNet.net).reverse = Stil.doNet 3 ⟨op, ds⟩ (ms.map MNet.net).reverse) := fun M hM => do_last (by simp) hml hjm hM
 have HPV : Hid (∀ (M : MNet) (lo : Nat), w.heap.size ≤ lo → M.vals.Pairwise Aside → (∀ x ∈ M.vals, x ∈ ms[j].vals ++ (oneM op ds a1 c1).vals ∨ ∀ q, x.ownBlock = some q → lo ≤ q) → (Value.slice (some ⟨g, 0, none⟩) ms.length rc :: mVals (ms.set j M)).Pairwise Aside) := fun M lo hlo hM hv => by
  have hal := HST.out.all
  have hlw := HST.out.low
  have he := last_all hml hjm
  rw [last_set hml]
  refine swap_pair (vs := ms[j].vals ++ (oneM op ds a1 c1).vals) (lo := lo) ?_ (fun x hx q hq => Nat.lt_of_lt_of_le (hlw x ?_ q hq) hlo) hM hv
  ·have e2 : mVals ms ++ mVals [oneM op ds a1 c1] = mVals (ms.take j) ++ (ms[j].vals ++ (oneM op ds a1 c1).vals) := by
    rw [mVals_one]
    have e3 := congrArg mVals he
    rw [mVals_append, mVals_one] at e3
    rw [e3, List.append_assoc]
   rw [← e2]
   exact hal
  ·rcases List.mem_cons.1 hx with rfl | hx
   ·exact List.mem_cons_self
   ·refine List.mem_cons_of_mem _ ?_
    rw [he, mVals_append]
    exact List.mem_append_left _ hx
 have e5 : ((j + 1 : Nat) : Int) - 1 = (j : Int) := by omega
 obtain ⟨X, hX⟩ : ∃ X, X = ms[j] := ⟨_, rfl⟩
 rw [← hX] at y0 y1 y2 y3 HAD HYC HLV HPV hxa hxk
 obtain ⟨xk, xop, xds, xav, xkv, xks⟩ := X
 simp only at hxa hxk y0 y1 y2 y3 HAD HYC
 subst hxa
 subst hxk
 rw [hml, e5]
 clear hX hcell x0 x1 x2 x3 hok hn
 have hjn : ¬ ((j : Int) < 0) := by omega
 go_upto_region 9 with fail
 go_region_with (go_at_call 49; refine (HAD.out _ blA).mono ?_; rintro e w2 ⟨⟨mk, mop, mds, s0, t0, s1, t1, mks, rfl, hmo, hmn, hmv⟩, hb2⟩; have HMO : Hid (MOwn w2 base ⟨mk, mop, mds, .slice s0 mds.length t0, .slice s1 mks.length t1, mks⟩) := hmo; have HMN : Hid ((MNet.mk mk mop mds (.slice s0 mds.length t0) (.slice s1 mks.length t1) mks).net = _) := hmn; have HMV : Hid (∀ x ∈ (MNet.mk mk mop mds (.slice s0 mds.length t0) (.slice s1 mks.length t1) mks).vals, _ ∨ ∀ q, x.ownBlock = some q → W.heap.size ≤ q) := hmv; clear hmo hmn hmv y0 y1 y2 y3; obtain ⟨⟨y0, y1, y2, y3⟩, f0, f1, f2, f3⟩ := HYC.out w2 blA; have hB2 : Below W.heap.size W w2 := blA; have HB2 : Hid (Below W.heap.size W w2) := hB2; clear hB2)
 all_goals
  have hp := HPV.out (MNet.mk mk mop mds (.slice s0 mds.length t0) (.slice s1 mks.length t1) mks) W.heap.size HST.out.bel.size HMO.out.2 HMV.out
  have hr := (HST.out.below HB2.out).row.stored (m := (MNet.mk mk mop mds (.slice s0 mds.length t0) (.slice s1 mks.length t1) mks)) hjm HMO.out.1 hp
  have hB := (HST.out.bel.trans (HB2.out.mono HST.out.bel.size)).mono hbase
  have hB4 := bl4 (o1 := j * 4) (o2 := j * 4 + 1) (o3 := j * 4 + 2) (o4 := j * 4 + 3) (u1 := .int .i64 mk) (u2 := .int .i64 mop) (u3 := .slice s0 mds.length t0) (u4 := .slice s1 mks.length t1) hB hgb
  have hlv := HLV.out (MNet.mk mk mop mds (.slice s0 mds.length t0) (.slice s1 mks.length t1) mks) HMN.out
  simp only at hr
  have HR9 : Hid (MRow _ base (.slice (some ⟨g, 0, none⟩) ms.length rc) (ms.set j (MNet.mk mk mop mds (.slice s0 mds.length t0) (.slice s1 mks.length t1) mks))) := hr
  have HB9 : Hid (Below base w _) := hB4
  have HL9 : Hid (((ms.set j (MNet.mk mk mop mds (.slice s0 mds.length t0) (.slice s1 mks.length t1) mks)).map MNet.net).reverse = _) := hlv
  clear hp hr hB hB4 hlv
  go_wp2
  go_ret
  refine ⟨some ⟨g, 0, none⟩, rc, ms.set j (MNet.mk mk mop mds (.slice s0 mds.length t0) (.slice s1 mks.length t1) mks), by rw [List.length_set, HML.out]; rfl, ?_, HL9.out, HB9.out⟩
  rw [List.length_set]
  exact HR9.out
end Go.Proofs.YtpaljcoojkbhnaaGreatDoor
