/- D31, D32, D33: texts put together. -/
import Derived.Test.YtipdjmbgbehkaaaGreatDoorHi
import Derived.Maps.AppendAt
import Derived.Deep.RegionLaw
import Derived.Great.Walk
/- Contracts of the specification's draws: a list that plays; what it puts. -/
namespace Go.Proofs.YtipdjmbgbehkaaaGreatDoor
open Go.RowKit Go.Sort Go.BigFrame
/-- The variable of a list that is being drawn. -/
def PBox (w : World) (p g : Nat) (v : Value) (bits forks : Int) (ba fr : Bool) : Prop := p < w.heap.size ∧ (w.cell? ⟨p, 0, none⟩ = some (.pointer (some ⟨g, 0, none⟩)) ∧ w.cell? ⟨p, 1, none⟩ = some v ∧ w.cell? ⟨p, 2, none⟩ = some (.int .i64 bits) ∧ w.cell? ⟨p, 3, none⟩ = some (.int .i64 forks) ∧ w.cell? ⟨p, 4, none⟩ = some (.bool ba) ∧ w.cell? ⟨p, 5, none⟩ = some (.bool fr)) ∧ w.frozen? ⟨p, 0, none⟩ = false ∧ w.frozen? ⟨p, 1, none⟩ = false ∧ w.frozen? ⟨p, 2, none⟩ = false ∧ w.frozen? ⟨p, 3, none⟩ = false ∧ w.frozen? ⟨p, 4, none⟩ = false ∧ w.frozen? ⟨p, 5, none⟩ = false
theorem PBox.grown {w w' : World} {p g : Nat} {v : Value} {bits forks : Int} {ba fr : Bool} {r : Option Nat} (h : PBox w p g v bits forks ba fr) (hg : w.grownBy w' r) (hr : r ≠ some p) : PBox w' p g v bits forks ba fr := by
  obtain ⟨h0, h1⟩ := h
  have e : w'.heap[p]? = w.heap[p]? := hg.block p h0 (fun x => hr x.symm)
  have hc : ∀ o, w'.cell? ⟨p, o, none⟩ = w.cell? ⟨p, o, none⟩ := fun o => by unfold World.cell?; rw [e]
  have hf : ∀ o, w'.frozen? ⟨p, o, none⟩ = w.frozen? ⟨p, o, none⟩ := fun o => by unfold World.frozen?; rw [e]
  refine ⟨Nat.lt_of_lt_of_le h0 hg.size, ?_⟩
  simp only [hc, hf]
  exact h1
theorem PBox.out {w : World} {p g : Nat} {v u : Value} {bits forks : Int} {ba fr : Bool} (h : PBox w p g v bits forks ba fr) : PBox (w.setCell ⟨p, 1, none⟩ u) p g u bits forks ba fr := by
  obtain ⟨h0, ⟨h1, h2, h3, h4, h5, h6⟩, h7⟩ := h
  refine ⟨by simpa using h0, ⟨(cell_set_off (by omega)).trans h1, cell_set_at h2, (cell_set_off (by omega)).trans h3, (cell_set_off (by omega)).trans h4, (cell_set_off (by omega)).trans h5, (cell_set_off (by omega)).trans h6⟩, ?_⟩
  simp only [frozen_set]
  exact h7
theorem PBox.bits {w : World} {p g : Nat} {v : Value} {bits forks : Int} {ba fr : Bool} (h : PBox w p g v bits forks ba fr) (u : Int) : PBox (w.setCell ⟨p, 2, none⟩ (.int .i64 u)) p g v u forks ba fr := by
  obtain ⟨h0, ⟨h1, h2, h3, h4, h5, h6⟩, h7⟩ := h
  refine ⟨by simpa using h0, ⟨(cell_set_off (by omega)).trans h1, (cell_set_off (by omega)).trans h2, cell_set_at h3, (cell_set_off (by omega)).trans h4, (cell_set_off (by omega)).trans h5, (cell_set_off (by omega)).trans h6⟩, ?_⟩
  simp only [frozen_set]
  exact h7
theorem PBox.forks {w : World} {p g : Nat} {v : Value} {bits forks : Int} {ba fr : Bool} (h : PBox w p g v bits forks ba fr) (u : Int) : PBox (w.setCell ⟨p, 3, none⟩ (.int .i64 u)) p g v bits u ba fr := by
  obtain ⟨h0, ⟨h1, h2, h3, h4, h5, h6⟩, h7⟩ := h
  refine ⟨by simpa using h0, ⟨(cell_set_off (by omega)).trans h1, (cell_set_off (by omega)).trans h2, (cell_set_off (by omega)).trans h3, cell_set_at h4, (cell_set_off (by omega)).trans h5, (cell_set_off (by omega)).trans h6⟩, ?_⟩
  simp only [frozen_set]
  exact h7
theorem PBox.base {w : World} {p g : Nat} {v : Value} {bits forks : Int} {ba fr : Bool} (h : PBox w p g v bits forks ba fr) (u : Bool) : PBox (w.setCell ⟨p, 4, none⟩ (.bool u)) p g v bits forks u fr := by
  obtain ⟨h0, ⟨h1, h2, h3, h4, h5, h6⟩, h7⟩ := h
  refine ⟨by simpa using h0, ⟨(cell_set_off (by omega)).trans h1, (cell_set_off (by omega)).trans h2, (cell_set_off (by omega)).trans h3, (cell_set_off (by omega)).trans h4, cell_set_at h5, (cell_set_off (by omega)).trans h6⟩, ?_⟩
  simp only [frozen_set]
  exact h7
theorem PBox.fresh {w : World} {p g : Nat} {v : Value} {bits forks : Int} {ba fr : Bool} (h : PBox w p g v bits forks ba fr) (u : Bool) : PBox (w.setCell ⟨p, 5, none⟩ (.bool u)) p g v bits forks ba u := by
  obtain ⟨h0, ⟨h1, h2, h3, h4, h5, h6⟩, h7⟩ := h
  refine ⟨by simpa using h0, ⟨(cell_set_off (by omega)).trans h1, (cell_set_off (by omega)).trans h2, (cell_set_off (by omega)).trans h3, (cell_set_off (by omega)).trans h4, (cell_set_off (by omega)).trans h5, cell_set_at h6⟩, ?_⟩
  simp only [frozen_set]
  exact h7
/-- A row of instructions of its own, beyond p. -/
def OutRow (w : World) (p k n : Nat) (v : Value) : Prop := ∃ (out : List Stil.Inst) (xs : List Value), w.ownsRow (p + 1) 31 3 v out.length xs ∧ RowOf 3 (InstC (Off p v) w) xs out ∧ (∀ i ∈ out, ITame i ∧ i.one.args.length ≤ 3) ∧ k ≤ out.length ∧ out.length ≤ n
/-- A list that is being drawn: the variable in block p, the reader in block g ahead of it, its row in memory of its own behind. -/
def PlayAt (w : World) (p g P k n : Nat) (bits forks : Int) (ba fr : Bool) : Prop := g < p ∧ (∃ v, PBox w p g v bits forks ba fr ∧ OutRow w p k n v) ∧ RdAt w g P
theorem bg_own {g : Nat} {w a b : World} {r : Option Nat} (h : Below g w a) (k : a.grownBy b r) (hr : ∀ j, r = some j → g ≤ j) (hz : g ≤ w.heap.size) : Below g w b := by
  have h1 : Below g a b := ⟨k.os, k.tape, k.output, k.size, fun i hi => k.block i (by have := h.size; omega) (fun e => by have := hr i e.symm; omega)⟩
  exact h.trans h1
end Go.Proofs.YtipdjmbgbehkaaaGreatDoor
/- Contracts of the specification's draws: a list that plays: put. -/
namespace Go.Proofs.YtipdjmbgbehkaaaGreatDoor
open Go.RowKit Go.Sort Go.BigFrame
set_option maxHeartbeats 2000000 in
set_option maxRecDepth 100000 in
theorem s_put (code : Int) (hc : 1 ≤ code ∧ code ≤ 11) (p g P k n : Nat) (bits forks : Int) (ba fr : Bool) (w : World) (h : PlayAt w p g P k n bits forks ba fr) (hP : P ≤ 10000000) (hn : n ≤ 90000) :
    Calls Tryz.prog 114 #[.pointer (some ⟨p, 0, none⟩), .int .i64 code] w fun e w' => (∃ v, e = .returned v) ∧ PlayAt w' p g (P + 50) (k + 1) (n + 1) bits forks (ba || code == 10 || code == 7) (code == 10) ∧ Below g w w' := by
  obtain ⟨i0, hi, hy0, hy1, hy2⟩ := info_parts info_inst
  obtain ⟨hgp, ⟨v, hpb, out, xs, hown, hrow, htm, hkl, hln⟩, hrd⟩ := h
  obtain ⟨a, c, hvv, -⟩ := own_open hown
  subst hvv
  have HOW : Hid (w.ownsRow (p + 1) 31 3 (.slice a out.length c) out.length xs) := hown
  have HROW : Hid (RowOf 3 (InstC (Off p (.slice a out.length c)) w) xs out) := hrow
  have HTM : Hid (∀ i ∈ out, ITame i ∧ i.one.args.length ≤ 3) := htm
  have HPB : Hid (∀ W, w.grownBy W (some g) → PBox W p g (.slice a out.length c) bits forks ba fr) := fun W h => hpb.grown h (by simp only [ne_eq, Option.some.injEq]; omega)
  obtain ⟨hpz, ⟨x0, x1, x2, x3, x4, x5⟩, f0, f1, f2, f3, f4, f5⟩ := hpb
  have hgz := rd_lt hrd
  clear hown hrow htm
  obtain ⟨BA, hBA⟩ : ∃ BA, BA = (ba || code == 10 || code == 7) := ⟨_, rfl⟩
  rw [← hBA]
  obtain ⟨FR, hFR⟩ : ∃ FR, FR = (code == 10) := ⟨_, rfl⟩
  rw [← hFR]
  have HBA : Hid (BA = (ba || code == 10 || code == 7)) := hBA
  have HFR : Hid (FR = (code == 10)) := hFR
  clear hBA hFR
  by_cases h3 : code ≤ 3
  · have EC10 : Hid ((code == 10) = false) := by show _ = _; rw [beq_eq_false_iff_ne]; omega
    have EC7 : Hid ((code == 7) = false) := by show _ = _; rw [beq_eq_false_iff_ne]; omega
    go_enter Tryz.func114, Tryz.ntmps114
    go_upto_region 5 with (go_at_call 75; refine (s_l2Contact g _ _ (by (repeat (first | with_reducible assumption | with_reducible apply rd_alloc | with_reducible apply rd_drewN | with_reducible apply rd_drew | (with_reducible apply rd_set'; first | omega | (simp; omega))))) (by omega)).mono ?_; rintro e w1 ⟨op, av, ds, rfl, hop, hav, hsd, hdl, hrd1, hgr1⟩; have hs1 : w.heap.size < w1.heap.size := (by have := hgr1.size; simp at this; omega); have hpb1 := HPB.out w1 (gr_call (gr_alloc (grown_refl _ _) _) hgr1); obtain ⟨hp1, ⟨x0, x1, x2, x3, x4, x5⟩, f0, f1, f2, f3, f4, f5⟩ := id hpb1; have hz1 : w1.cell? ⟨w.heap.size, 0, none⟩ = some (.int .i64 code) ∧ w1.cell? ⟨w.heap.size, 1, none⟩ = some (.int .i64 0) ∧ w1.cell? ⟨w.heap.size, 2, none⟩ = some (.slice none 0 0) ∧ w1.frozen? ⟨w.heap.size, 1, none⟩ = false ∧ w1.frozen? ⟨w.heap.size, 2, none⟩ = false := (by refine ⟨(grown_cell hgr1 (by simp) (by omega)).trans (by simp [go_sem]), (grown_cell hgr1 (by simp) (by omega)).trans (by simp [go_sem]), (grown_cell hgr1 (by simp) (by omega)).trans (by simp [go_sem]), (grown_frozen hgr1 (by simp) (by omega)).trans (by simp [go_sem]), (grown_frozen hgr1 (by simp) (by omega)).trans (by simp [go_sem])⟩); obtain ⟨z0, z1, z2, zf1, zf2⟩ := hz1; have HAV1 : Hid (DevsIn (fun b => w.heap.size < b) w1 av ds) := (devs_of_el hav).mono (fun b _ hb => (by simp at hb; omega)); obtain ⟨b1, c1, rfl, -⟩ := hav)
    obtain ⟨wq, hwq⟩ : ∃ wq, wq = (w1.setCell ⟨w.heap.size, 1, none⟩ (.int .i64 op)).setCell ⟨w.heap.size, 2, none⟩ (.slice b1 ds.length c1) := ⟨_, rfl⟩
    have hgrq : w.grownBy wq (some g) := by rw [hwq]; (repeat (first | with_reducible exact grown_refl _ _ | with_reducible assumption | with_reducible refine gr_set (by first | exact Nat.le_refl _ | (simp; done) | (simp; omega) | omega) ?_ _ | with_reducible refine gr_alloc ?_ _ | with_reducible refine gr_drewN ?_ _ | with_reducible refine gr_drew ?_ | with_reducible refine gr_call ?_ (by with_reducible assumption)))
    have hzq : wq.cell? ⟨w.heap.size, 0, none⟩ = some (.int .i64 code) ∧ wq.cell? ⟨w.heap.size, 1, none⟩ = some (.int .i64 op) ∧ wq.cell? ⟨w.heap.size, 2, none⟩ = some (.slice b1 ds.length c1) := by
      rw [hwq]
      exact ⟨(cell_set_off (by omega)).trans ((cell_set_off (by omega)).trans z0), (cell_set_off (by omega)).trans (cell_set_at z1), cell_set_at ((cell_set_off (by omega)).trans z2)⟩
    have haq : DevsIn (fun b => w.heap.size < b) wq (.slice b1 ds.length c1) ds := by
      rw [hwq]
      exact HAV1.out.keep ((KeepsIn.set (by omega) _).trans (KeepsIn.set (by omega) _))
    have hdq : RdAt wq g (P + 40) := by rw [hwq]; exact rd_mono (rd_set (rd_set hrd1 (by omega) _) (by omega) _) (by omega)
    have htq : ITame ⟨code, ⟨op, ds⟩⟩ ∧ ds.length ≤ 3 := ⟨⟨by simp only; omega, hop, hsd, by simp only; omega⟩, hdl⟩
    have hbz : w.heap.size < wq.heap.size := by rw [hwq]; simp; omega
    rw [← hwq]
    clear hwq hrd1 hgr1 z0 z1 z2 zf1 zf2 x0 x1 x2 x3 x4 x5 f0 f1 f2 f3 f4 f5 hp1 hpb1 HAV1
    have HAQ : Hid (DevsIn (fun b => w.heap.size < b) wq (.slice b1 ds.length c1) ds) := haq
    have HDQ : Hid (RdAt wq g (P + 40)) := hdq
    have HTQ : Hid (ITame ⟨code, ⟨op, ds⟩⟩ ∧ ds.length ≤ 3) := htq
    have HGQ : Hid (w.grownBy wq (some g)) := hgrq
    have hszq := hgrq.size
    have hpq := HPB.out wq hgrq
    have HPQ : Hid (PBox wq p g (.slice a out.length c) bits forks ba fr) := hpq
    have HOQ : Hid (wq.ownsRow (p + 1) 31 3 (.slice a out.length c) out.length xs) := own_grown HOW.out hgrq (by omega)
    have HRQ : Hid (RowOf 3 (InstC (Off p (.slice a out.length c)) wq) xs out) := HROW.out.imp fun _ _ _ h => h.keep (KeepsIn.of_grown hgrq fun b hb e => by have := hb.1; simp only [Option.some.injEq] at e; omega)
    obtain ⟨hpzq, ⟨x0, x1, x2, x3, x4, x5⟩, f0, f1, f2, f3, f4, f5⟩ := hpq
    obtain ⟨z0, z1, z2⟩ := hzq
    clear haq hdq htq hgrq
    go_region_law (first | (refine step_append_at rfl _ _ 23 rfl (p + 1) 31 i0 (.agg #[.int .i64 0, .int .i64 0, .slice none 0 0]) 3 40 Tryz.underlying23 hi hy0 hy1 hy2 rfl (by decide) _ _ _ rfl (HOQ.out.alloc _) _ _ _ [.int .i64 code, .int .i64 op, .slice b1 ds.length c1] rfl rfl (by exact cells_new _ _ _ _ (by simp)) (by intro u hu; simp at hu; rcases hu with rfl | rfl | rfl <;> rfl) (by unfold maxLen; omega) (by omega) (by simp; omega) ?_; intro v' w6 hown6 hgr6 hat6; obtain ⟨av6, vc6, hv6, _⟩ := own_open hown6; subst hv6; have hg6 : wq.grownBy w6 (Value.slice a out.length c).ownBlock := gr_call (by (repeat (first | with_reducible exact grown_refl _ _ | with_reducible assumption | with_reducible refine gr_set (by first | exact Nat.le_refl _ | (simp; done) | (simp; omega) | omega) ?_ _ | with_reducible refine gr_alloc ?_ _ | with_reducible refine gr_drewN ?_ _ | with_reducible refine gr_drew ?_ | with_reducible refine gr_call ?_ (by with_reducible assumption)))) hgr6; have hlo6 : ∀ k, (Value.slice a out.length c).ownBlock = some k → p + 1 ≤ k := (fun k hk => (HOQ.out.lt k hk).1); have hp6 : PBox w6 p g (.slice a out.length c) bits forks ba fr := HPQ.out.grown hg6 (fun e => (by have := hlo6 _ e; omega)); have HP6 : Hid (PBox w6 p g (.slice a out.length c) bits forks ba fr) := hp6; obtain ⟨hz6, ⟨x0, x1, x2, x3, x4, x5⟩, f0, f1, f2, f3, f4, f5⟩ := hp6))
    all_goals
      have HD6 : Hid (RdAt w6 g (P + 40)) := rd_grown HDQ.out hg6 (fun k hk => by have := hlo6 k hk; omega)
      have HB6 : Hid (Below g w w6) := bg_own (bg_own (Below.refl _ _) HGQ.out (fun j hj => by simp only [Option.some.injEq] at hj; omega) (by omega)) hg6 (fun j hj => by have := hlo6 j hj; omega) (by omega)
      have HO6 : Hid (w6.ownsRow (p + 1) 31 3 (.slice av6 (out.length + 1) vc6) (out.length + 1) (xs ++ [.int .i64 code, .int .i64 op, .slice b1 ds.length c1])) := hown6
      have HR6 : Hid (RowOf 3 (InstC (Off p (.slice av6 (out.length + 1) vc6)) w6) (xs ++ [.int .i64 code, .int .i64 op, .slice b1 ds.length c1]) (out ++ [⟨code, ⟨op, ds⟩⟩])) := by
        have hkA : ∀ R, KeepsIn R wq ((wq.alloc (.cells #[.int .i64 code, .int .i64 op, .slice b1 ds.length c1] 31)).drew) := fun R => KeepsIn.of_below (by (repeat (first | with_reducible exact Below.refl _ _ | with_reducible assumption | with_reducible refine bl_set (by first | exact Nat.le_refl _ | (simp; done) | (simp; omega) | omega) ?_ _ | with_reducible refine bl_alloc ?_ _ | with_reducible refine bl_drewN ?_ _ | with_reducible refine bl_drew ?_ | with_reducible refine bl_grow ?_ _ _ | with_reducible refine bl_call ?_ (by assumption))))
        refine insts_append (HRQ.out.imp fun _ _ _ h => h.keep (hkA _)) ⟨_, rfl, (HAQ.out.keep (hkA _)).mono fun b hb h => ⟨by omega, fun e => ?_⟩⟩ rfl hgr6 hat6
        have := (HOW.out.lt b e).2
        omega
      have HFIN : Hid (∀ W, PBox W p g (.slice av6 (out.length + 1) vc6) bits forks BA FR → KeepsIn (fun b => p < b) w6 W → W.ownsRow (p + 1) 31 3 (.slice av6 (out.length + 1) vc6) (out.length + 1) (xs ++ [.int .i64 code, .int .i64 op, .slice b1 ds.length c1]) → RdAt W g (P + 40) → Below g w6 W → PlayAt W p g (P + 50) (k + 1) (n + 1) bits forks BA FR ∧ Below g w W) := by
        intro W h1 h2 h3 h4 h5
        refine ⟨⟨hgp, ⟨_, h1, out ++ [⟨code, ⟨op, ds⟩⟩], xs ++ [.int .i64 code, .int .i64 op, .slice b1 ds.length c1], by simpa using h3, HR6.out.imp fun _ _ _ h => h.keep (keep_mono h2 fun b _ hb => hb.1), fun i hi => ?_, by simp; omega, by simp; omega⟩, rd_mono h4 (by omega)⟩, HB6.out.trans h5⟩
        rcases List.mem_append.1 hi with h | h
        · exact HTM.out i h
        · rw [List.mem_singleton.1 h]; exact HTQ.out
      clear hg6 hlo6 hat6 hgr6 hown6
      go_wp2
      go_end0
      exact ⟨⟨_, rfl⟩, HFIN.out _ (by rw [HBA.out, HFR.out, EC10.out, EC7.out]; simp only [Bool.or_false]; exact (HP6.out.out).fresh false) ((KeepsIn.set (by omega) _).trans (KeepsIn.set (by omega) _)) (ownsRow_setCell_below (ownsRow_setCell_below HO6.out (Nat.lt_succ_self _) _) (Nat.lt_succ_self _) _) (rd_set (rd_set HD6.out hgp _) hgp _) (((Below.refl _ _).setCell (Nat.le_of_lt hgp) _).setCell (Nat.le_of_lt hgp) _)⟩
  · by_cases h10 : code = 10
    · subst h10
      have EC10 : Hid (((10 : Int) == 10) = true) := by show _ = _; rfl
      have EC7 : Hid (((10 : Int) == 7) = false) := by show _ = _; rfl
      go_enter Tryz.func114, Tryz.ntmps114
      go_upto_region 5 with (go_at_call 76; refine (s_l2Coil g _ _ (by (repeat (first | with_reducible assumption | with_reducible apply rd_alloc | with_reducible apply rd_drewN | with_reducible apply rd_drew | (with_reducible apply rd_set'; first | omega | (simp; omega))))) (by omega)).mono ?_; rintro e w1 ⟨op, av, ds, rfl, hop, hav, hsd, hdl, hrd1, hgr1⟩; have hs1 : w.heap.size < w1.heap.size := (by have := hgr1.size; simp at this; omega); have hpb1 := HPB.out w1 (gr_call (gr_alloc (grown_refl _ _) _) hgr1); obtain ⟨hp1, ⟨x0, x1, x2, x3, x4, x5⟩, f0, f1, f2, f3, f4, f5⟩ := id hpb1; have hz1 : w1.cell? ⟨w.heap.size, 0, none⟩ = some (.int .i64 (10 : Int)) ∧ w1.cell? ⟨w.heap.size, 1, none⟩ = some (.int .i64 0) ∧ w1.cell? ⟨w.heap.size, 2, none⟩ = some (.slice none 0 0) ∧ w1.frozen? ⟨w.heap.size, 1, none⟩ = false ∧ w1.frozen? ⟨w.heap.size, 2, none⟩ = false := (by refine ⟨(grown_cell hgr1 (by simp) (by omega)).trans (by simp [go_sem]), (grown_cell hgr1 (by simp) (by omega)).trans (by simp [go_sem]), (grown_cell hgr1 (by simp) (by omega)).trans (by simp [go_sem]), (grown_frozen hgr1 (by simp) (by omega)).trans (by simp [go_sem]), (grown_frozen hgr1 (by simp) (by omega)).trans (by simp [go_sem])⟩); obtain ⟨z0, z1, z2, zf1, zf2⟩ := hz1; have HAV1 : Hid (DevsIn (fun b => w.heap.size < b) w1 av ds) := (devs_of_el hav).mono (fun b _ hb => (by simp at hb; omega)); obtain ⟨b1, c1, rfl, -⟩ := hav)
      obtain ⟨wq, hwq⟩ : ∃ wq, wq = (w1.setCell ⟨w.heap.size, 1, none⟩ (.int .i64 op)).setCell ⟨w.heap.size, 2, none⟩ (.slice b1 ds.length c1) := ⟨_, rfl⟩
      have hgrq : w.grownBy wq (some g) := by rw [hwq]; (repeat (first | with_reducible exact grown_refl _ _ | with_reducible assumption | with_reducible refine gr_set (by first | exact Nat.le_refl _ | (simp; done) | (simp; omega) | omega) ?_ _ | with_reducible refine gr_alloc ?_ _ | with_reducible refine gr_drewN ?_ _ | with_reducible refine gr_drew ?_ | with_reducible refine gr_call ?_ (by with_reducible assumption)))
      have hzq : wq.cell? ⟨w.heap.size, 0, none⟩ = some (.int .i64 (10 : Int)) ∧ wq.cell? ⟨w.heap.size, 1, none⟩ = some (.int .i64 op) ∧ wq.cell? ⟨w.heap.size, 2, none⟩ = some (.slice b1 ds.length c1) := by
        rw [hwq]
        exact ⟨(cell_set_off (by omega)).trans ((cell_set_off (by omega)).trans z0), (cell_set_off (by omega)).trans (cell_set_at z1), cell_set_at ((cell_set_off (by omega)).trans z2)⟩
      have haq : DevsIn (fun b => w.heap.size < b) wq (.slice b1 ds.length c1) ds := by
        rw [hwq]
        exact HAV1.out.keep ((KeepsIn.set (by omega) _).trans (KeepsIn.set (by omega) _))
      have hdq : RdAt wq g (P + 40) := by rw [hwq]; exact rd_mono (rd_set (rd_set hrd1 (by omega) _) (by omega) _) (by omega)
      have htq : ITame ⟨(10 : Int), ⟨op, ds⟩⟩ ∧ ds.length ≤ 3 := ⟨⟨by simp only; omega, hop, hsd, by simp only; omega⟩, hdl⟩
      have hbz : w.heap.size < wq.heap.size := by rw [hwq]; simp; omega
      rw [← hwq]
      clear hwq hrd1 hgr1 z0 z1 z2 zf1 zf2 x0 x1 x2 x3 x4 x5 f0 f1 f2 f3 f4 f5 hp1 hpb1 HAV1
      have HAQ : Hid (DevsIn (fun b => w.heap.size < b) wq (.slice b1 ds.length c1) ds) := haq
      have HDQ : Hid (RdAt wq g (P + 40)) := hdq
      have HTQ : Hid (ITame ⟨(10 : Int), ⟨op, ds⟩⟩ ∧ ds.length ≤ 3) := htq
      have HGQ : Hid (w.grownBy wq (some g)) := hgrq
      have hszq := hgrq.size
      have hpq := HPB.out wq hgrq
      have HPQ : Hid (PBox wq p g (.slice a out.length c) bits forks ba fr) := hpq
      have HOQ : Hid (wq.ownsRow (p + 1) 31 3 (.slice a out.length c) out.length xs) := own_grown HOW.out hgrq (by omega)
      have HRQ : Hid (RowOf 3 (InstC (Off p (.slice a out.length c)) wq) xs out) := HROW.out.imp fun _ _ _ h => h.keep (KeepsIn.of_grown hgrq fun b hb e => by have := hb.1; simp only [Option.some.injEq] at e; omega)
      obtain ⟨hpzq, ⟨x0, x1, x2, x3, x4, x5⟩, f0, f1, f2, f3, f4, f5⟩ := hpq
      obtain ⟨z0, z1, z2⟩ := hzq
      clear haq hdq htq hgrq
      go_region_law (first | (refine step_append_at rfl _ _ 23 rfl (p + 1) 31 i0 (.agg #[.int .i64 0, .int .i64 0, .slice none 0 0]) 3 40 Tryz.underlying23 hi hy0 hy1 hy2 rfl (by decide) _ _ _ rfl (HOQ.out.alloc _) _ _ _ [.int .i64 (10 : Int), .int .i64 op, .slice b1 ds.length c1] rfl rfl (by exact cells_new _ _ _ _ (by simp)) (by intro u hu; simp at hu; rcases hu with rfl | rfl | rfl <;> rfl) (by unfold maxLen; omega) (by omega) (by simp; omega) ?_; intro v' w6 hown6 hgr6 hat6; obtain ⟨av6, vc6, hv6, _⟩ := own_open hown6; subst hv6; have hg6 : wq.grownBy w6 (Value.slice a out.length c).ownBlock := gr_call (by (repeat (first | with_reducible exact grown_refl _ _ | with_reducible assumption | with_reducible refine gr_set (by first | exact Nat.le_refl _ | (simp; done) | (simp; omega) | omega) ?_ _ | with_reducible refine gr_alloc ?_ _ | with_reducible refine gr_drewN ?_ _ | with_reducible refine gr_drew ?_ | with_reducible refine gr_call ?_ (by with_reducible assumption)))) hgr6; have hlo6 : ∀ k, (Value.slice a out.length c).ownBlock = some k → p + 1 ≤ k := (fun k hk => (HOQ.out.lt k hk).1); have hp6 : PBox w6 p g (.slice a out.length c) bits forks ba fr := HPQ.out.grown hg6 (fun e => (by have := hlo6 _ e; omega)); have HP6 : Hid (PBox w6 p g (.slice a out.length c) bits forks ba fr) := hp6; obtain ⟨hz6, ⟨x0, x1, x2, x3, x4, x5⟩, f0, f1, f2, f3, f4, f5⟩ := hp6))
      all_goals
        have HD6 : Hid (RdAt w6 g (P + 40)) := rd_grown HDQ.out hg6 (fun k hk => by have := hlo6 k hk; omega)
        have HB6 : Hid (Below g w w6) := bg_own (bg_own (Below.refl _ _) HGQ.out (fun j hj => by simp only [Option.some.injEq] at hj; omega) (by omega)) hg6 (fun j hj => by have := hlo6 j hj; omega) (by omega)
        have HO6 : Hid (w6.ownsRow (p + 1) 31 3 (.slice av6 (out.length + 1) vc6) (out.length + 1) (xs ++ [.int .i64 (10 : Int), .int .i64 op, .slice b1 ds.length c1])) := hown6
        have HR6 : Hid (RowOf 3 (InstC (Off p (.slice av6 (out.length + 1) vc6)) w6) (xs ++ [.int .i64 (10 : Int), .int .i64 op, .slice b1 ds.length c1]) (out ++ [⟨(10 : Int), ⟨op, ds⟩⟩])) := by
          have hkA : ∀ R, KeepsIn R wq ((wq.alloc (.cells #[.int .i64 (10 : Int), .int .i64 op, .slice b1 ds.length c1] 31)).drew) := fun R => KeepsIn.of_below (by (repeat (first | with_reducible exact Below.refl _ _ | with_reducible assumption | with_reducible refine bl_set (by first | exact Nat.le_refl _ | (simp; done) | (simp; omega) | omega) ?_ _ | with_reducible refine bl_alloc ?_ _ | with_reducible refine bl_drewN ?_ _ | with_reducible refine bl_drew ?_ | with_reducible refine bl_grow ?_ _ _ | with_reducible refine bl_call ?_ (by assumption))))
          refine insts_append (HRQ.out.imp fun _ _ _ h => h.keep (hkA _)) ⟨_, rfl, (HAQ.out.keep (hkA _)).mono fun b hb h => ⟨by omega, fun e => ?_⟩⟩ rfl hgr6 hat6
          have := (HOW.out.lt b e).2
          omega
        have HFIN : Hid (∀ W, PBox W p g (.slice av6 (out.length + 1) vc6) bits forks BA FR → KeepsIn (fun b => p < b) w6 W → W.ownsRow (p + 1) 31 3 (.slice av6 (out.length + 1) vc6) (out.length + 1) (xs ++ [.int .i64 (10 : Int), .int .i64 op, .slice b1 ds.length c1]) → RdAt W g (P + 40) → Below g w6 W → PlayAt W p g (P + 50) (k + 1) (n + 1) bits forks BA FR ∧ Below g w W) := by
          intro W h1 h2 h3 h4 h5
          refine ⟨⟨hgp, ⟨_, h1, out ++ [⟨(10 : Int), ⟨op, ds⟩⟩], xs ++ [.int .i64 (10 : Int), .int .i64 op, .slice b1 ds.length c1], by simpa using h3, HR6.out.imp fun _ _ _ h => h.keep (keep_mono h2 fun b _ hb => hb.1), fun i hi => ?_, by simp; omega, by simp; omega⟩, rd_mono h4 (by omega)⟩, HB6.out.trans h5⟩
          rcases List.mem_append.1 hi with h | h
          · exact HTM.out i h
          · rw [List.mem_singleton.1 h]; exact HTQ.out
        clear hg6 hlo6 hat6 hgr6 hown6
        go_wp2
        go_end0
        exact ⟨⟨_, rfl⟩, HFIN.out _ (by rw [HBA.out, HFR.out, EC10.out, EC7.out]; simp only [Bool.or_false, Bool.or_true]; exact ((HP6.out.out).fresh true).base true) (((KeepsIn.set (by omega) _).trans (KeepsIn.set (by omega) _)).trans (KeepsIn.set (by omega) _)) (ownsRow_setCell_below (ownsRow_setCell_below (ownsRow_setCell_below HO6.out (Nat.lt_succ_self _) _) (Nat.lt_succ_self _) _) (Nat.lt_succ_self _) _) (rd_set (rd_set (rd_set HD6.out hgp _) hgp _) hgp _) ((((Below.refl _ _).setCell (Nat.le_of_lt hgp) _).setCell (Nat.le_of_lt hgp) _).setCell (Nat.le_of_lt hgp) _)⟩
    · by_cases h7 : code = 7
      · subst h7
        have EC10 : Hid (((7 : Int) == 10) = false) := by show _ = _; rfl
        have EC7 : Hid (((7 : Int) == 7) = true) := by show _ = _; rfl
        go_enter Tryz.func114, Tryz.ntmps114
        go_upto_region 5 with fail
        obtain ⟨wq, hwq⟩ : ∃ wq, wq = w.alloc (.cells #[.int .i64 (7 : Int), .int .i64 0, .slice none 0 0] 31) := ⟨_, rfl⟩
        obtain ⟨op, hop0⟩ : ∃ op : Int, op = 0 := ⟨_, rfl⟩
        obtain ⟨ds, hds0⟩ : ∃ ds : List Stil.Dev, ds = [] := ⟨_, rfl⟩
        obtain ⟨b1, hb10⟩ : ∃ b1 : Option Addr, b1 = none := ⟨_, rfl⟩
        obtain ⟨c1, hc10⟩ : ∃ c1 : Nat, c1 = 0 := ⟨_, rfl⟩
        have hgrq : w.grownBy wq (some g) := by rw [hwq]; (repeat (first | with_reducible exact grown_refl _ _ | with_reducible assumption | with_reducible refine gr_set (by first | exact Nat.le_refl _ | (simp; done) | (simp; omega) | omega) ?_ _ | with_reducible refine gr_alloc ?_ _ | with_reducible refine gr_drewN ?_ _ | with_reducible refine gr_drew ?_ | with_reducible refine gr_call ?_ (by with_reducible assumption)))
        have hzq : wq.cell? ⟨w.heap.size, 0, none⟩ = some (.int .i64 (7 : Int)) ∧ wq.cell? ⟨w.heap.size, 1, none⟩ = some (.int .i64 op) ∧ wq.cell? ⟨w.heap.size, 2, none⟩ = some (.slice b1 ds.length c1) := by
          rw [hwq, hop0, hds0, hb10, hc10]
          exact ⟨by simp [go_sem], by simp [go_sem], by simp [go_sem]⟩
        have haq : DevsIn (fun b => w.heap.size < b) wq (.slice b1 ds.length c1) ds := by rw [hds0, hb10, hc10]; exact devs_nil _ _
        have hdq : RdAt wq g (P + 40) := by rw [hwq]; exact rd_mono (rd_alloc hrd _) (by omega)
        have htq : ITame ⟨(7 : Int), ⟨op, ds⟩⟩ ∧ ds.length ≤ 3 := by rw [hop0, hds0]; exact ⟨⟨by simp only; omega, by simp, fun _ h => (by cases h), by simp⟩, by simp⟩
        have hbz : w.heap.size < wq.heap.size := by rw [hwq]; simp
        rw [← hwq]
        clear hwq x0 x1 x2 x3 x4 x5 f0 f1 f2 f3 f4 f5 hop0 hds0 hb10 hc10
        have HAQ : Hid (DevsIn (fun b => w.heap.size < b) wq (.slice b1 ds.length c1) ds) := haq
        have HDQ : Hid (RdAt wq g (P + 40)) := hdq
        have HTQ : Hid (ITame ⟨(7 : Int), ⟨op, ds⟩⟩ ∧ ds.length ≤ 3) := htq
        have HGQ : Hid (w.grownBy wq (some g)) := hgrq
        have hszq := hgrq.size
        have hpq := HPB.out wq hgrq
        have HPQ : Hid (PBox wq p g (.slice a out.length c) bits forks ba fr) := hpq
        have HOQ : Hid (wq.ownsRow (p + 1) 31 3 (.slice a out.length c) out.length xs) := own_grown HOW.out hgrq (by omega)
        have HRQ : Hid (RowOf 3 (InstC (Off p (.slice a out.length c)) wq) xs out) := HROW.out.imp fun _ _ _ h => h.keep (KeepsIn.of_grown hgrq fun b hb e => by have := hb.1; simp only [Option.some.injEq] at e; omega)
        obtain ⟨hpzq, ⟨x0, x1, x2, x3, x4, x5⟩, f0, f1, f2, f3, f4, f5⟩ := hpq
        obtain ⟨z0, z1, z2⟩ := hzq
        clear haq hdq htq hgrq
        go_region_law (first | (refine step_append_at rfl _ _ 23 rfl (p + 1) 31 i0 (.agg #[.int .i64 0, .int .i64 0, .slice none 0 0]) 3 40 Tryz.underlying23 hi hy0 hy1 hy2 rfl (by decide) _ _ _ rfl (HOQ.out.alloc _) _ _ _ [.int .i64 (7 : Int), .int .i64 op, .slice b1 ds.length c1] rfl rfl (by exact cells_new _ _ _ _ (by simp)) (by intro u hu; simp at hu; rcases hu with rfl | rfl | rfl <;> rfl) (by unfold maxLen; omega) (by omega) (by simp; omega) ?_; intro v' w6 hown6 hgr6 hat6; obtain ⟨av6, vc6, hv6, _⟩ := own_open hown6; subst hv6; have hg6 : wq.grownBy w6 (Value.slice a out.length c).ownBlock := gr_call (by (repeat (first | with_reducible exact grown_refl _ _ | with_reducible assumption | with_reducible refine gr_set (by first | exact Nat.le_refl _ | (simp; done) | (simp; omega) | omega) ?_ _ | with_reducible refine gr_alloc ?_ _ | with_reducible refine gr_drewN ?_ _ | with_reducible refine gr_drew ?_ | with_reducible refine gr_call ?_ (by with_reducible assumption)))) hgr6; have hlo6 : ∀ k, (Value.slice a out.length c).ownBlock = some k → p + 1 ≤ k := (fun k hk => (HOQ.out.lt k hk).1); have hp6 : PBox w6 p g (.slice a out.length c) bits forks ba fr := HPQ.out.grown hg6 (fun e => (by have := hlo6 _ e; omega)); have HP6 : Hid (PBox w6 p g (.slice a out.length c) bits forks ba fr) := hp6; obtain ⟨hz6, ⟨x0, x1, x2, x3, x4, x5⟩, f0, f1, f2, f3, f4, f5⟩ := hp6))
        all_goals
          have HD6 : Hid (RdAt w6 g (P + 40)) := rd_grown HDQ.out hg6 (fun k hk => by have := hlo6 k hk; omega)
          have HB6 : Hid (Below g w w6) := bg_own (bg_own (Below.refl _ _) HGQ.out (fun j hj => by simp only [Option.some.injEq] at hj; omega) (by omega)) hg6 (fun j hj => by have := hlo6 j hj; omega) (by omega)
          have HO6 : Hid (w6.ownsRow (p + 1) 31 3 (.slice av6 (out.length + 1) vc6) (out.length + 1) (xs ++ [.int .i64 (7 : Int), .int .i64 op, .slice b1 ds.length c1])) := hown6
          have HR6 : Hid (RowOf 3 (InstC (Off p (.slice av6 (out.length + 1) vc6)) w6) (xs ++ [.int .i64 (7 : Int), .int .i64 op, .slice b1 ds.length c1]) (out ++ [⟨(7 : Int), ⟨op, ds⟩⟩])) := by
            have hkA : ∀ R, KeepsIn R wq ((wq.alloc (.cells #[.int .i64 (7 : Int), .int .i64 op, .slice b1 ds.length c1] 31)).drew) := fun R => KeepsIn.of_below (by (repeat (first | with_reducible exact Below.refl _ _ | with_reducible assumption | with_reducible refine bl_set (by first | exact Nat.le_refl _ | (simp; done) | (simp; omega) | omega) ?_ _ | with_reducible refine bl_alloc ?_ _ | with_reducible refine bl_drewN ?_ _ | with_reducible refine bl_drew ?_ | with_reducible refine bl_grow ?_ _ _ | with_reducible refine bl_call ?_ (by assumption))))
            refine insts_append (HRQ.out.imp fun _ _ _ h => h.keep (hkA _)) ⟨_, rfl, (HAQ.out.keep (hkA _)).mono fun b hb h => ⟨by omega, fun e => ?_⟩⟩ rfl hgr6 hat6
            have := (HOW.out.lt b e).2
            omega
          have HFIN : Hid (∀ W, PBox W p g (.slice av6 (out.length + 1) vc6) bits forks BA FR → KeepsIn (fun b => p < b) w6 W → W.ownsRow (p + 1) 31 3 (.slice av6 (out.length + 1) vc6) (out.length + 1) (xs ++ [.int .i64 (7 : Int), .int .i64 op, .slice b1 ds.length c1]) → RdAt W g (P + 40) → Below g w6 W → PlayAt W p g (P + 50) (k + 1) (n + 1) bits forks BA FR ∧ Below g w W) := by
            intro W h1 h2 h3 h4 h5
            refine ⟨⟨hgp, ⟨_, h1, out ++ [⟨(7 : Int), ⟨op, ds⟩⟩], xs ++ [.int .i64 (7 : Int), .int .i64 op, .slice b1 ds.length c1], by simpa using h3, HR6.out.imp fun _ _ _ h => h.keep (keep_mono h2 fun b _ hb => hb.1), fun i hi => ?_, by simp; omega, by simp; omega⟩, rd_mono h4 (by omega)⟩, HB6.out.trans h5⟩
            rcases List.mem_append.1 hi with h | h
            · exact HTM.out i h
            · rw [List.mem_singleton.1 h]; exact HTQ.out
          clear hg6 hlo6 hat6 hgr6 hown6
          go_wp2
          go_end0
          exact ⟨⟨_, rfl⟩, HFIN.out _ (by rw [HBA.out, HFR.out, EC10.out, EC7.out]; simp only [Bool.or_false, Bool.or_true]; exact ((HP6.out.out).fresh false).base true) (((KeepsIn.set (by omega) _).trans (KeepsIn.set (by omega) _)).trans (KeepsIn.set (by omega) _)) (ownsRow_setCell_below (ownsRow_setCell_below (ownsRow_setCell_below HO6.out (Nat.lt_succ_self _) _) (Nat.lt_succ_self _) _) (Nat.lt_succ_self _) _) (rd_set (rd_set (rd_set HD6.out hgp _) hgp _) hgp _) ((((Below.refl _ _).setCell (Nat.le_of_lt hgp) _).setCell (Nat.le_of_lt hgp) _).setCell (Nat.le_of_lt hgp) _)⟩
      · have EC10 : Hid ((code == 10) = false) := by show _ = _; rw [beq_eq_false_iff_ne]; omega
        have EC7 : Hid ((code == 7) = false) := by show _ = _; rw [beq_eq_false_iff_ne]; omega
        go_enter Tryz.func114, Tryz.ntmps114
        go_upto_region 5 with fail
        obtain ⟨wq, hwq⟩ : ∃ wq, wq = w.alloc (.cells #[.int .i64 code, .int .i64 0, .slice none 0 0] 31) := ⟨_, rfl⟩
        obtain ⟨op, hop0⟩ : ∃ op : Int, op = 0 := ⟨_, rfl⟩
        obtain ⟨ds, hds0⟩ : ∃ ds : List Stil.Dev, ds = [] := ⟨_, rfl⟩
        obtain ⟨b1, hb10⟩ : ∃ b1 : Option Addr, b1 = none := ⟨_, rfl⟩
        obtain ⟨c1, hc10⟩ : ∃ c1 : Nat, c1 = 0 := ⟨_, rfl⟩
        have hgrq : w.grownBy wq (some g) := by rw [hwq]; (repeat (first | with_reducible exact grown_refl _ _ | with_reducible assumption | with_reducible refine gr_set (by first | exact Nat.le_refl _ | (simp; done) | (simp; omega) | omega) ?_ _ | with_reducible refine gr_alloc ?_ _ | with_reducible refine gr_drewN ?_ _ | with_reducible refine gr_drew ?_ | with_reducible refine gr_call ?_ (by with_reducible assumption)))
        have hzq : wq.cell? ⟨w.heap.size, 0, none⟩ = some (.int .i64 code) ∧ wq.cell? ⟨w.heap.size, 1, none⟩ = some (.int .i64 op) ∧ wq.cell? ⟨w.heap.size, 2, none⟩ = some (.slice b1 ds.length c1) := by
          rw [hwq, hop0, hds0, hb10, hc10]
          exact ⟨by simp [go_sem], by simp [go_sem], by simp [go_sem]⟩
        have haq : DevsIn (fun b => w.heap.size < b) wq (.slice b1 ds.length c1) ds := by rw [hds0, hb10, hc10]; exact devs_nil _ _
        have hdq : RdAt wq g (P + 40) := by rw [hwq]; exact rd_mono (rd_alloc hrd _) (by omega)
        have htq : ITame ⟨code, ⟨op, ds⟩⟩ ∧ ds.length ≤ 3 := by rw [hop0, hds0]; exact ⟨⟨by simp only; omega, by simp, fun _ h => (by cases h), by simp⟩, by simp⟩
        have hbz : w.heap.size < wq.heap.size := by rw [hwq]; simp
        rw [← hwq]
        clear hwq x0 x1 x2 x3 x4 x5 f0 f1 f2 f3 f4 f5 hop0 hds0 hb10 hc10
        have HAQ : Hid (DevsIn (fun b => w.heap.size < b) wq (.slice b1 ds.length c1) ds) := haq
        have HDQ : Hid (RdAt wq g (P + 40)) := hdq
        have HTQ : Hid (ITame ⟨code, ⟨op, ds⟩⟩ ∧ ds.length ≤ 3) := htq
        have HGQ : Hid (w.grownBy wq (some g)) := hgrq
        have hszq := hgrq.size
        have hpq := HPB.out wq hgrq
        have HPQ : Hid (PBox wq p g (.slice a out.length c) bits forks ba fr) := hpq
        have HOQ : Hid (wq.ownsRow (p + 1) 31 3 (.slice a out.length c) out.length xs) := own_grown HOW.out hgrq (by omega)
        have HRQ : Hid (RowOf 3 (InstC (Off p (.slice a out.length c)) wq) xs out) := HROW.out.imp fun _ _ _ h => h.keep (KeepsIn.of_grown hgrq fun b hb e => by have := hb.1; simp only [Option.some.injEq] at e; omega)
        obtain ⟨hpzq, ⟨x0, x1, x2, x3, x4, x5⟩, f0, f1, f2, f3, f4, f5⟩ := hpq
        obtain ⟨z0, z1, z2⟩ := hzq
        clear haq hdq htq hgrq
        go_region_law (first | (refine step_append_at rfl _ _ 23 rfl (p + 1) 31 i0 (.agg #[.int .i64 0, .int .i64 0, .slice none 0 0]) 3 40 Tryz.underlying23 hi hy0 hy1 hy2 rfl (by decide) _ _ _ rfl (HOQ.out.alloc _) _ _ _ [.int .i64 code, .int .i64 op, .slice b1 ds.length c1] rfl rfl (by exact cells_new _ _ _ _ (by simp)) (by intro u hu; simp at hu; rcases hu with rfl | rfl | rfl <;> rfl) (by unfold maxLen; omega) (by omega) (by simp; omega) ?_; intro v' w6 hown6 hgr6 hat6; obtain ⟨av6, vc6, hv6, _⟩ := own_open hown6; subst hv6; have hg6 : wq.grownBy w6 (Value.slice a out.length c).ownBlock := gr_call (by (repeat (first | with_reducible exact grown_refl _ _ | with_reducible assumption | with_reducible refine gr_set (by first | exact Nat.le_refl _ | (simp; done) | (simp; omega) | omega) ?_ _ | with_reducible refine gr_alloc ?_ _ | with_reducible refine gr_drewN ?_ _ | with_reducible refine gr_drew ?_ | with_reducible refine gr_call ?_ (by with_reducible assumption)))) hgr6; have hlo6 : ∀ k, (Value.slice a out.length c).ownBlock = some k → p + 1 ≤ k := (fun k hk => (HOQ.out.lt k hk).1); have hp6 : PBox w6 p g (.slice a out.length c) bits forks ba fr := HPQ.out.grown hg6 (fun e => (by have := hlo6 _ e; omega)); have HP6 : Hid (PBox w6 p g (.slice a out.length c) bits forks ba fr) := hp6; obtain ⟨hz6, ⟨x0, x1, x2, x3, x4, x5⟩, f0, f1, f2, f3, f4, f5⟩ := hp6))
        all_goals
          have HD6 : Hid (RdAt w6 g (P + 40)) := rd_grown HDQ.out hg6 (fun k hk => by have := hlo6 k hk; omega)
          have HB6 : Hid (Below g w w6) := bg_own (bg_own (Below.refl _ _) HGQ.out (fun j hj => by simp only [Option.some.injEq] at hj; omega) (by omega)) hg6 (fun j hj => by have := hlo6 j hj; omega) (by omega)
          have HO6 : Hid (w6.ownsRow (p + 1) 31 3 (.slice av6 (out.length + 1) vc6) (out.length + 1) (xs ++ [.int .i64 code, .int .i64 op, .slice b1 ds.length c1])) := hown6
          have HR6 : Hid (RowOf 3 (InstC (Off p (.slice av6 (out.length + 1) vc6)) w6) (xs ++ [.int .i64 code, .int .i64 op, .slice b1 ds.length c1]) (out ++ [⟨code, ⟨op, ds⟩⟩])) := by
            have hkA : ∀ R, KeepsIn R wq ((wq.alloc (.cells #[.int .i64 code, .int .i64 op, .slice b1 ds.length c1] 31)).drew) := fun R => KeepsIn.of_below (by (repeat (first | with_reducible exact Below.refl _ _ | with_reducible assumption | with_reducible refine bl_set (by first | exact Nat.le_refl _ | (simp; done) | (simp; omega) | omega) ?_ _ | with_reducible refine bl_alloc ?_ _ | with_reducible refine bl_drewN ?_ _ | with_reducible refine bl_drew ?_ | with_reducible refine bl_grow ?_ _ _ | with_reducible refine bl_call ?_ (by assumption))))
            refine insts_append (HRQ.out.imp fun _ _ _ h => h.keep (hkA _)) ⟨_, rfl, (HAQ.out.keep (hkA _)).mono fun b hb h => ⟨by omega, fun e => ?_⟩⟩ rfl hgr6 hat6
            have := (HOW.out.lt b e).2
            omega
          have HFIN : Hid (∀ W, PBox W p g (.slice av6 (out.length + 1) vc6) bits forks BA FR → KeepsIn (fun b => p < b) w6 W → W.ownsRow (p + 1) 31 3 (.slice av6 (out.length + 1) vc6) (out.length + 1) (xs ++ [.int .i64 code, .int .i64 op, .slice b1 ds.length c1]) → RdAt W g (P + 40) → Below g w6 W → PlayAt W p g (P + 50) (k + 1) (n + 1) bits forks BA FR ∧ Below g w W) := by
            intro W h1 h2 h3 h4 h5
            refine ⟨⟨hgp, ⟨_, h1, out ++ [⟨code, ⟨op, ds⟩⟩], xs ++ [.int .i64 code, .int .i64 op, .slice b1 ds.length c1], by simpa using h3, HR6.out.imp fun _ _ _ h => h.keep (keep_mono h2 fun b _ hb => hb.1), fun i hi => ?_, by simp; omega, by simp; omega⟩, rd_mono h4 (by omega)⟩, HB6.out.trans h5⟩
            rcases List.mem_append.1 hi with h | h
            · exact HTM.out i h
            · rw [List.mem_singleton.1 h]; exact HTQ.out
          clear hg6 hlo6 hat6 hgr6 hown6
          go_wp2
          go_end0
          exact ⟨⟨_, rfl⟩, HFIN.out _ (by rw [HBA.out, HFR.out, EC10.out, EC7.out]; simp only [Bool.or_false]; exact (HP6.out.out).fresh false) ((KeepsIn.set (by omega) _).trans (KeepsIn.set (by omega) _)) (ownsRow_setCell_below (ownsRow_setCell_below HO6.out (Nat.lt_succ_self _) _) (Nat.lt_succ_self _) _) (rd_set (rd_set HD6.out hgp _) hgp _) (((Below.refl _ _).setCell (Nat.le_of_lt hgp) _).setCell (Nat.le_of_lt hgp) _)⟩
end Go.Proofs.YtipdjmbgbehkaaaGreatDoor
/- Contracts of the specification's draws: a list that plays: close. -/
namespace Go.Proofs.YtipdjmbgbehkaaaGreatDoor
open Go.RowKit Go.Sort Go.BigFrame
theorem PlayAt.later {w : World} {p g P P' k k' n n' : Nat} {bits forks : Int} {ba fr : Bool} (h : PlayAt w p g P k n bits forks ba fr) (h1 : P ≤ P') (h2 : k' ≤ k) (h3 : n ≤ n') : PlayAt w p g P' k' n' bits forks ba fr := by
  obtain ⟨a, ⟨v, b, out, xs, c, d, e, f, i⟩, j⟩ := h
  exact ⟨a, ⟨v, b, out, xs, c, d, e, by omega, by omega⟩, rd_mono j h1⟩
theorem PlayAt.grown {w w' : World} {p g P P' k n : Nat} {bits forks : Int} {ba fr : Bool} (h : PlayAt w p g P k n bits forks ba fr) (hg : w.grownBy w' (some g)) (hr : RdAt w' g P') : PlayAt w' p g P' k n bits forks ba fr := by
  obtain ⟨a, ⟨v, b, out, xs, c, d, e⟩, j⟩ := h
  refine ⟨a, ⟨v, b.grown hg (by simp only [ne_eq, Option.some.injEq]; omega), out, xs, own_grown c hg (by omega), d.imp fun _ _ _ h => h.keep (KeepsIn.of_grown hg fun b hb e => by have := hb.1; simp only [Option.some.injEq] at e; omega), e⟩, hr⟩
theorem PlayAt.bits {w : World} {p g P k n : Nat} {bits forks : Int} {ba fr : Bool} (h : PlayAt w p g P k n bits forks ba fr) (u : Int) : PlayAt (w.setCell ⟨p, 2, none⟩ (.int .i64 u)) p g P k n u forks ba fr := by
  obtain ⟨a, ⟨v, b, out, xs, c, d, e⟩, j⟩ := h
  exact ⟨a, ⟨v, b.bits u, out, xs, ownsRow_setCell_below c (Nat.lt_succ_self _) _, d.imp fun _ _ _ h => h.keep (keep_mono (KeepsIn.set (P := fun b => p < b) (by omega) _) fun b _ hb => hb.1), e⟩, rd_set j a _⟩
theorem PlayAt.forks {w : World} {p g P k n : Nat} {bits forks : Int} {ba fr : Bool} (h : PlayAt w p g P k n bits forks ba fr) (u : Int) : PlayAt (w.setCell ⟨p, 3, none⟩ (.int .i64 u)) p g P k n bits u ba fr := by
  obtain ⟨a, ⟨v, b, out, xs, c, d, e⟩, j⟩ := h
  exact ⟨a, ⟨v, b.forks u, out, xs, ownsRow_setCell_below c (Nat.lt_succ_self _) _, d.imp fun _ _ _ h => h.keep (keep_mono (KeepsIn.set (P := fun b => p < b) (by omega) _) fun b _ hb => hb.1), e⟩, rd_set j a _⟩
theorem PlayAt.base {w : World} {p g P k n : Nat} {bits forks : Int} {ba fr : Bool} (h : PlayAt w p g P k n bits forks ba fr) (u : Bool) : PlayAt (w.setCell ⟨p, 4, none⟩ (.bool u)) p g P k n bits forks u fr := by
  obtain ⟨a, ⟨v, b, out, xs, c, d, e⟩, j⟩ := h
  exact ⟨a, ⟨v, b.base u, out, xs, ownsRow_setCell_below c (Nat.lt_succ_self _) _, d.imp fun _ _ _ h => h.keep (keep_mono (KeepsIn.set (P := fun b => p < b) (by omega) _) fun b _ hb => hb.1), e⟩, rd_set j a _⟩
theorem PlayAt.box {w : World} {p g P k n : Nat} {bits forks : Int} {ba fr : Bool} (h : PlayAt w p g P k n bits forks ba fr) : ∃ a c, ∃ m : Nat, PBox w p g (.slice a m c) bits forks ba fr := by
  obtain ⟨a, ⟨v, b, out, xs, c, d, e⟩, j⟩ := h
  obtain ⟨a', c', hv, -⟩ := own_open c
  subst hv
  exact ⟨a', c', out.length, b⟩
/-- A list that is being drawn, its heights in their bounds. -/
def PlayR (w : World) (p g P k n : Nat) : Prop := ∃ (bits forks : Int) (ba fr : Bool), PlayAt w p g P k n bits forks ba fr ∧ 0 ≤ bits ∧ bits ≤ 16 ∧ 0 ≤ forks ∧ forks ≤ 8
/-- A list that is being drawn, a coil at its end. -/
def PlayC (w : World) (p g P k n : Nat) (bits forks : Int) : Prop := ∃ ba', PlayAt w p g P k n bits forks ba' true
set_option maxHeartbeats 2000000 in
set_option maxRecDepth 100000 in
theorem s_close (p g P k n : Nat) (bits forks : Int) (ba fr : Bool) (w : World) (h : PlayAt w p g P k n bits forks ba fr) (hb0 : 0 ≤ bits) (hb1 : bits ≤ 16) (hP : P ≤ 9000000) (hn : n ≤ 80000) :
    Calls Tryz.prog 116 #[.pointer (some ⟨p, 0, none⟩)] w fun e w' => (∃ v, e = .returned v) ∧ PlayC w' p g (P + 1000) k (n + 20) (if 1 < bits then 1 else bits) forks ∧ Below g w w' := by
  have HPL : Hid (PlayAt w p g P k n bits forks ba fr) := h
  have hgp := h.1
  clear h
  obtain ⟨FB, hFB⟩ : ∃ FB : Int, FB = (if 1 < bits then 1 else bits) := ⟨_, rfl⟩
  rw [← hFB]
  have HFB0 : Hid (FB = (if 1 < bits then 1 else bits)) := hFB
  clear hFB
  go_enter Tryz.func116, Tryz.ntmps116
  go_wp2
  go_loopg [] bits.toNat (fun m wr => ∃ (b : Int) (ba' fr' : Bool) (j : Nat), PlayAt wr p g (P + 60 * j) k (n + j) b forks ba' fr' ∧ 0 ≤ b ∧ b + j = bits ∧ (1 < bits ∨ j = 0) ∧ (j = 0 ∨ 1 ≤ b) ∧ b.toNat ≤ m ∧ Below g w wr)
  case atStart => exact ⟨bits, ba, fr, 0, HPL.out.later (by omega) (Nat.le_refl _) (by omega), hb0, by omega, .inr rfl, .inl rfl, Nat.le_refl _, Below.refl _ _⟩
  case round =>
    obtain ⟨b, ba', fr', j, hpl, hb, hbj, hx, hy, hm, hB⟩ := hrel
    have HPJ : Hid (PlayAt wr p g (P + 60 * j) k (n + j) b forks ba' fr') := hpl
    have hgz := rd_lt hpl.2.2
    have hgw : g ≤ w.heap.size := by have := rd_lt HPL.out.2.2; omega
    obtain ⟨a, c, m, hpz, ⟨x0, x1, x2, x3, x4, x5⟩, f0, f1, f2, f3, f4, f5⟩ := hpl.box
    have hk1 : IntKind.i64.wrap (b - 1) = b - 1 := by rw [IntKind.wrap_i64]; omega
    clear hpl
    by_cases h1 : 1 < b
    · cases ba'
      · go_wp2_with (first | (go_at_call 35; refine (s_pick g _ _ _ HPJ.out.2.2 (by omega) (by omega) (by omega)).mono ?_; rintro e w1 ⟨x, rfl, hx0, hx1, hrd1, hgr1⟩; have HP1 : Hid (PlayAt w1 p g (P + 60 * j + 1) k (n + j) b forks false fr') := HPJ.out.grown hgr1 hrd1; have HB1 : Hid (Below g w w1) := bg_own hB hgr1 (fun q hq => (by simp only [Option.some.injEq] at hq; omega)) (by omega)) | (go_at_call 114; refine (s_put _ (by omega) p g _ k _ b forks _ _ _ HP1.out (by omega) (by omega)).mono ?_; rintro e w2 ⟨⟨v2, rfl⟩, hpl2, hb2⟩; have HP2 := hpl2.later (Nat.le_refl _) (Nat.le_refl _) (Nat.le_refl _); obtain ⟨a2, c2, m2, hpz2, ⟨y0, y1, y2, y3, y4, y5⟩, g0, g1, g2, g3, g4, g5⟩ := hpl2.box; have HB2 : Hid (Below g w w2) := (HB1.out).trans hb2))
        all_goals
          go_roundg (b - 1).toNat
          rotate_left
          · omega
          · exact ⟨b - 1, _, _, j + 1, (HP2.bits (b - 1)).later (by omega) (by omega) (by omega), by omega, by omega, by omega, by omega, Nat.le_refl _, (HB2.out).setCell (Nat.le_of_lt hgp) _⟩
      · by_cases h2 : b = 2
        · subst h2
          go_wp2_with (go_at_call 114; refine (s_put _ (by omega) p g _ k _ 2 forks _ _ _ HPJ.out (by omega) (by omega)).mono ?_; rintro e w2 ⟨⟨v2, rfl⟩, hpl2, hb2⟩; have HP2 := hpl2.later (Nat.le_refl _) (Nat.le_refl _) (Nat.le_refl _); obtain ⟨a2, c2, m2, hpz2, ⟨y0, y1, y2, y3, y4, y5⟩, g0, g1, g2, g3, g4, g5⟩ := hpl2.box; have HB2 : Hid (Below g w w2) := (hB).trans hb2)
          all_goals
            go_roundg ((2 : Int) - 1).toNat
            rotate_left
            · omega
            · exact ⟨(2 : Int) - 1, _, _, j + 1, (show PlayAt _ p g _ _ _ ((2 : Int) - 1) forks _ _ from HP2.bits 1).later (by omega) (by omega) (by omega), by omega, by omega, by omega, by omega, Nat.le_refl _, (HB2.out).setCell (Nat.le_of_lt hgp) _⟩
        · go_wp2_with (first | (go_at_call 35; refine (s_pick g _ _ _ HPJ.out.2.2 (by omega) (by omega) (by omega)).mono ?_; rintro e w1 ⟨x, rfl, hx0, hx1, hrd1, hgr1⟩; have HP1 : Hid (PlayAt w1 p g (P + 60 * j + 1) k (n + j) b forks true fr') := HPJ.out.grown hgr1 hrd1; have HB1 : Hid (Below g w w1) := bg_own hB hgr1 (fun q hq => (by simp only [Option.some.injEq] at hq; omega)) (by omega)) | (go_at_call 114; refine (s_put _ (by omega) p g _ k _ b forks _ _ _ HP1.out (by omega) (by omega)).mono ?_; rintro e w2 ⟨⟨v2, rfl⟩, hpl2, hb2⟩; have HP2 := hpl2.later (Nat.le_refl _) (Nat.le_refl _) (Nat.le_refl _); obtain ⟨a2, c2, m2, hpz2, ⟨y0, y1, y2, y3, y4, y5⟩, g0, g1, g2, g3, g4, g5⟩ := hpl2.box; have HB2 : Hid (Below g w w2) := (HB1.out).trans hb2))
          all_goals
            go_roundg (b - 1).toNat
            rotate_left
            · omega
            · exact ⟨b - 1, _, _, j + 1, (HP2.bits (b - 1)).later (by omega) (by omega) (by omega), by omega, by omega, by omega, by omega, Nat.le_refl _, (HB2.out).setCell (Nat.le_of_lt hgp) _⟩
    · obtain rfl : FB = b := by
        rw [HFB0.out]
        split <;> omega
      cases fr'
      · go_wp2_with (go_at_call 114; refine (s_put _ (by omega) p g _ k _ FB forks _ _ _ HPJ.out (by omega) (by omega)).mono ?_; rintro e w2 ⟨⟨v2, rfl⟩, hpl2, hb2⟩)
        go_end0
        exact ⟨⟨_, rfl⟩, ⟨_, hpl2.later (by omega) (by omega) (by omega)⟩, hB.trans hb2⟩
      · go_wp2
        go_end0
        exact ⟨⟨_, rfl⟩, ⟨_, HPJ.out.later (by omega) (by omega) (by omega)⟩, hB⟩
end Go.Proofs.YtipdjmbgbehkaaaGreatDoor
