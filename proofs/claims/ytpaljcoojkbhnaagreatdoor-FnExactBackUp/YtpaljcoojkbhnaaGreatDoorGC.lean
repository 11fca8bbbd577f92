/- S2g, S2h, S2i, S2j, S2k, S2l, L1: texts put together. -/
import Derived.Test.YtpaljcoojkbhnaaGreatDoorGB
import Derived.Lib.SmallJoins
import Derived.Deep.RegionLaw
import Derived.Deep.DeepCutAuto
set_option maxHeartbeats 4000000
set_option maxRecDepth 100000
/- Contracts of the specification's chapter 2, seventh part: ElemText. -/
namespace Go.Proofs.YtpaljcoojkbhnaaGreatDoor
open Go.RowKit Go.Sort Go.BigFrame
theorem info_dev : (Tryz.prog.info? 117).map (fun i => (i.zero, i.size, i.bytes)) = some (some (.agg #[.int .i64 0, .int .i64 0, .int .i64 0]), 3, 24) := by kernel_rfl
def devCells (d : Stil.Dev) : List Value := [.int .i64 d.kind, .int .i64 d.n, .int .i64 d.p]
def devsCells (ds : List Stil.Dev) : List Value := ds.flatMap devCells
theorem devsCells_length (ds : List Stil.Dev) : (devsCells ds).length = ds.length * 3 := by
 induction ds with
 | nil => rfl
 | cons d r ih => simp [devsCells, devCells] at ih ⊢; omega
theorem devsCells_snoc (ds : List Stil.Dev) (d : Stil.Dev) : devsCells (ds ++ [d]) = devsCells ds ++ devCells d := by simp [devsCells]
theorem devsCells_get (ds : List Stil.Dev) : ∀ (i : Nat) (h : i < ds.length), (devsCells ds)[i * 3]? = some (.int .i64 ds[i].kind) ∧ (devsCells ds)[i * 3 + 1]? = some (.int .i64 ds[i].n) ∧ (devsCells ds)[i * 3 + 2]? = some (.int .i64 ds[i].p) := by
 induction ds with
 | nil => intro i h; simp at h
 | cons d r ih =>
  intro i h
  have e : devsCells (d :: r) = .int .i64 d.kind :: .int .i64 d.n :: .int .i64 d.p :: devsCells r := rfl
  cases i with
  | zero => rw [e]; simp
  | succ i =>
   have h' : i < r.length := by simpa using h
   rw [e]
   have := ih i h'
   have e0 : (i + 1) * 3 = i * 3 + 3 := by omega
   rw [e0]
   simpa using this
theorem add_plain (g j : Nat) : (⟨g, 0, none⟩ : Addr).add j = ⟨g, j, none⟩ := by unfold Addr.add; split <;> simp_all
theorem ownsRow_cells {w : World} {base : Nat} {e : TypeId} {size : Nat} {v : Value} {n : Nat} {xs : List Value} (h : w.ownsRow base e size v n xs) (hn : 0 < n) : ∃ g cap, v = .slice (some ⟨g, 0, none⟩) n cap ∧ base ≤ g ∧ g < w.heap.size ∧ n ≤ cap ∧ ∀ j u, xs[j]? = some u → w.cell? ⟨g, j, none⟩ = some u := by
 have h2 := h.2
 rcases h2 with ⟨_, h0⟩ | ⟨g, cap, cur, hv, hg, _, hc, _⟩
 ·omega
 ·refine ⟨g, cap, hv, hg, (h.lt g (by rw [hv]; rfl)).2, hc, fun j u hu => ?_⟩
  have := h.cells (g := g) (by rw [hv]; rfl) j u hu
  rwa [add_plain] at this
theorem ownsRow_below {w w' : World} {base : Nat} {e : TypeId} {size : Nat} {v : Value} {n : Nat} {xs : List Value} (h : w.ownsRow base e size v n xs) (hb : Below w.heap.size w w') : w'.ownsRow base e size v n xs := by
 refine ⟨h.1, ?_⟩
 rcases h.2 with h0 | ⟨g, cap, cur, hv, hg, hh, hr⟩
 ·exact Or.inl h0
 ·have := (h.lt g (by rw [hv]; rfl)).2
  exact Or.inr ⟨g, cap, cur, hv, hg, by rw [hb.block g this]; exact hh, hr⟩
theorem devsCells_one (ds : List Stil.Dev) : ∀ u ∈ devsCells ds, u.oneCell' = true := by
 intro u hu
 simp only [devsCells, List.mem_flatMap, devCells] at hu
 obtain ⟨d, _, hd⟩ := hu
 simp at hd
 rcases hd with rfl | rfl | rfl <;> rfl
def szL (left : Int) (len : Nat) : Int := if left - len < 0 then -1 else left - len
theorem l_szDevs (a : Option Addr) (len cap : Nat) (left : Int) (w : World) (h1 : 0 ≤ left) (h2 : left ≤ 1048576) (hl : len ≤ 9223372036854775807) :
  Calls Tryz.prog 73 #[.slice a len cap, .int .i64 left] w fun e w' => e = .returned (.int .i64 (szL left len)) ∧ w' = w := by
 unfold szL
 by_cases h : left - len < 0
 ·rw [if_pos h]
  go_enter Tryz.func73, Tryz.ntmps73
  go_wp2
  go_ret
  exact ⟨rfl, rfl⟩
 ·rw [if_neg h]
  go_enter Tryz.func73, Tryz.ntmps73
  go_wp2
  go_ret
  exact ⟨rfl, rfl⟩
theorem l_szElem (op : Int) (a : Option Addr) (len cap : Nat) (left : Int) (w : World) (h1 : 0 ≤ left) (h2 : left ≤ 1048576) (hl : len ≤ 9223372036854775807) :
  Calls Tryz.prog 45 #[.agg #[.int .i64 op, .slice a len cap], .int .i64 left] w fun e w' => e = .returned (.int .i64 (szL left len)) ∧ Below w.heap.size w w' := by
 by_cases h : left - len < 0
 ·have HQ : Hid (szL left len = -1) := by show _ = _; unfold szL; rw [if_pos h]
  clear h
  go_enter Tryz.func45, Tryz.ntmps45
  go_wp2_with (go_at_call 73; refine (l_szDevs _ _ _ _ _ h1 h2 hl).mono ?_; rw [HQ.out]; rintro e w1 ⟨rfl, rfl⟩)
  go_ret
  exact ⟨ret_int (by rw [HQ.out]), below_alloc _ _⟩
 ·obtain ⟨q, hq⟩ : ∃ q, q = left - len := ⟨_, rfl⟩
  have hq0 : 0 ≤ q := by omega
  have HQ : Hid (szL left len = q) := by show _ = _; unfold szL; rw [if_neg h, hq]
  clear h hq
  go_enter Tryz.func45, Tryz.ntmps45
  go_wp2_with (go_at_call 73; refine (l_szDevs _ _ _ _ _ h1 h2 hl).mono ?_; rw [HQ.out]; rintro e w1 ⟨rfl, rfl⟩)
  go_ret
  exact ⟨ret_int (by rw [HQ.out]), below_alloc _ _⟩
theorem l_toDev (k n p : Int) (w : World) :
  Calls Tryz.prog 105 #[.agg #[.int .i64 k, .int .i64 n, .int .i64 p]] w fun e w' => e = .returned (.agg #[.int .i64 k, .int .i64 n, .int .i64 p]) ∧ Below w.heap.size w w' := by
 go_enter Tryz.func105, Tryz.ntmps105
 go_wp2
 refine bodyPost_ret (v := .agg #[.int .i64 k, .int .i64 n, .int .i64 p]) (by simp [results, Tryz.results105, go_sem]) rfl ⟨rfl, ?_⟩
 (repeat (first | exact Below.refl _ _ | assumption | refine bl_alloc ?_ _ | refine bl_drewN ?_ _ | refine bl_drew ?_ | refine bl_grow ?_ _ _ | refine bl_set (Nat.le_refl _) ?_ _ | refine bl_call ?_ (by assumption)))
theorem dev_eta (d e : Stil.Dev) : (d = e) ↔ (d.kind = e.kind ∧ d.n = e.n ∧ d.p = e.p) := by
 cases d; cases e; simp
open Classical in
theorem l_eqDev (d f : Stil.Dev) (w : World) :
  Calls Tryz.prog 93 #[.agg #[.int .i64 d.kind, .int .i64 d.n, .int .i64 d.p], .agg #[.int .i64 f.kind, .int .i64 f.n, .int .i64 f.p]] w fun e w' => e = .returned (.bool (decide (d = f))) ∧ Below w.heap.size w w' := by
 go_enter Tryz.func93, Tryz.ntmps93
 go_wp2
 all_goals go_ret
 all_goals (refine ⟨ret_bool ?_, blB⟩)
 all_goals go_light
 all_goals simp only [bne_iff_ne, bne_eq_false_iff_eq] at *
 all_goals (rw [Bool.eq_iff_iff]; simp [dev_eta, *])
theorem take_set3 (xs : List Value) (k : Nat) (a b c : Value) (h : k * 3 + 3 ≤ xs.length) : (((xs.set (k * 3) a).set (k * 3 + 1) b).set (k * 3 + 2) c).take ((k + 1) * 3) = xs.take (k * 3) ++ [a, b, c] := by
 apply List.ext_getElem?
 intro i
 simp only [List.getElem?_take, List.getElem?_append, List.length_take, List.getElem?_set, List.length_set]
 have e0 : min (k * 3) xs.length = k * 3 := by omega
 rw [e0]
 by_cases h1 : i < k * 3
 ·rw [if_pos (by omega), if_neg (by omega), if_neg (by omega), if_neg (by omega), if_pos h1, if_pos h1]
 ·rw [if_neg h1]
  by_cases h2 : i = k * 3
  ·subst h2; rw [if_pos (by omega), if_neg (by omega), if_neg (by omega), if_pos rfl, if_pos (by omega)]; simp
  ·by_cases h3 : i = k * 3 + 1
   ·subst h3; rw [if_pos (by omega), if_neg (by omega), if_pos rfl, if_pos (by omega)]; simp
   ·by_cases h4 : i = k * 3 + 2
    ·subst h4; rw [if_pos (by omega), if_pos rfl, if_pos (by omega)]; simp
    ·rw [if_neg (by omega)]; simp; omega
theorem row3 {w : World} {base g cap n : Nat} {e : TypeId} {xs : List Value} (h : w.ownsRow base e 3 (.slice (some ⟨g, 0, none⟩) n cap) n xs) (k : Nat) (hk : k < n) :
  (∃ u, w.cell? ⟨g, k * 3, none⟩ = some u) ∧ (∃ u, w.cell? ⟨g, k * 3 + 1, none⟩ = some u) ∧ (∃ u, w.cell? ⟨g, k * 3 + 2, none⟩ = some u) := by
 have hl := h.1
 refine ⟨?_, ?_, ?_⟩
 ·rw [h.cellAt (k * 3) (by omega), List.getElem?_eq_getElem (by omega)]; exact ⟨_, rfl⟩
 ·rw [h.cellAt (k * 3 + 1) (by omega), List.getElem?_eq_getElem (by omega)]; exact ⟨_, rfl⟩
 ·rw [h.cellAt (k * 3 + 2) (by omega), List.getElem?_eq_getElem (by omega)]; exact ⟨_, rfl⟩
theorem froz3 {w : World} {base g cap n : Nat} {e : TypeId} {xs : List Value} (h : w.ownsRow base e 3 (.slice (some ⟨g, 0, none⟩) n cap) n xs) (k : Nat) :
  w.frozen? ⟨g, k * 3, none⟩ = false ∧ w.frozen? ⟨g, k * 3 + 1, none⟩ = false ∧ w.frozen? ⟨g, k * 3 + 2, none⟩ = false := ⟨h.frozenAt _, h.frozenAt _, h.frozenAt _⟩
theorem l_toDevs (a : Option Addr) (cap : Nat) (ds : List Stil.Dev) (w : World) (hat : DevsAt w (.slice a ds.length cap) ds) (hl : ds.length ≤ 1048576) :
  Calls Tryz.prog 82 #[.slice a ds.length cap] w fun e w' => e = .returned (.slice (some ⟨w.heap.size, 0, none⟩) ds.length ds.length) ∧ w'.ownsRow w.heap.size 117 3 (.slice (some ⟨w.heap.size, 0, none⟩) ds.length ds.length) ds.length (devsCells ds) ∧ Below w.heap.size w w' := by
 obtain ⟨i0, hi, hz0, hz1, hz2⟩ := info_parts info_dev
 have HA : Hid (∀ i (h : i < ds.length), ∃ b o, a = some ⟨b, o, none⟩ ∧ b < w.heap.size ∧ DevAt w b (o + i * 3) ds[i]) := by
  obtain ⟨a', cap', hv, hc⟩ := hat
  simp only [Value.slice.injEq] at hv
  obtain ⟨rfl, _, _⟩ := hv
  exact hc
 clear hat
 go_enter Tryz.func82, Tryz.ntmps82
 go_wp2_with (at_make; refine wpList_make_full _ rfl _ _ 24 rfl w.heap.size 117 i0 (.agg #[.int .i64 0, .int .i64 0, .int .i64 0]) 3 Tryz.underlying24 hi hz0 hz1 _ _ _ _ ds.length rfl rfl rfl rfl ?c1 ?c2 (Nat.le_refl _) ?_)
 case c1 => rw [hz2]; omega
 case c2 => unfold maxLen; omega
 intro w1 hown1 hgr1
 have hb1 : Below w.heap.size w w1 := (Below.refl _ _).grown hgr1 (Nat.le_refl _) (fun _ h => by cases h)
 go_wp2
 go_loopw [4] (fun i wr => ∃ (k : Nat) (xs : List Value), k ≤ ds.length ∧ i = .int .i64 k ∧ wr.ownsRow w.heap.size 117 3 (.slice (some ⟨w.heap.size, 0, none⟩) ds.length ds.length) ds.length xs ∧ xs.take (k * 3) = devsCells (ds.take k) ∧ Below w.heap.size w wr) (fun i _ => ds.length - (intOf i).toNat)
 case atStart => exact ⟨0, _, by omega, rfl, hown1, by simp [devsCells], hb1⟩
 case round =>
  clear hown1 hgr1 hb1
  obtain ⟨k, xs, hk, rfl, hown, hxs, hb⟩ := hrel
  have HX : Hid (xs.take (k * 3) = devsCells (ds.take k)) := hxs
  clear hxs
  by_cases hlt : k < ds.length
  ·obtain ⟨b, o, rfl, hbl, hd⟩ := HA.out k hlt
   obtain ⟨x0, x1, x2⟩ := hd.below hb hbl
   have HD : Hid (devsCells (ds.take (k + 1)) = devsCells (ds.take k) ++ devCells ds[k]) := by
    show _ = _
    rw [List.take_succ_eq_append_getElem hlt, devsCells_snoc]
   obtain ⟨x, hx⟩ : ∃ x, x = ds[k] := ⟨_, rfl⟩
   rw [← hx] at x0 x1 x2 HD
   clear hx hd
   go_wp2_with (go_at_call 105; refine (l_toDev _ _ _ _).mono ?_; rintro e w2 ⟨rfl, hb2⟩; have hown2 := ownsRow_below hown hb2; obtain ⟨⟨v0, q0⟩, ⟨v1, q1⟩, ⟨v2, q2⟩⟩ := row3 hown2 k hlt; obtain ⟨f0, f1, f2⟩ := froz3 hown2 k)
   have r1 := (hown2.stored (k * 3) (.int .i64 x.kind)).1
   have r2 := (r1.stored (k * 3 + 1) (.int .i64 x.n)).1
   have r3 := (r2.stored (k * 3 + 2) (.int .i64 x.p)).1
   have hlen := hown2.1
   refine ⟨⟨k + 1, _, by omega, by go_num, r3, ?_, bl_set (Nat.le_refl _) (bl_set (Nat.le_refl _) (bl_set (Nat.le_refl _) (bl_call hb hb2) _) _) _⟩, by simp [intOf]; omega⟩
   rw [take_set3 xs k _ _ _ (by omega), HX.out, HD.out]; rfl
  ·go_wp2
   go_ret
   refine ⟨rfl, ?_, hb⟩
   have e : xs = devsCells ds := by
    have h1 := HX.out
    have h2 := hown.1
    rw [List.take_of_length_le (by omega), List.take_of_length_le (by omega)] at h1
    exact h1
   rw [← e]; exact hown
theorem l_toElem (op : Int) (v : Value) (ds : List Stil.Dev) (w : World) (hat : DevsAt w v ds) (hl : ds.length ≤ 1048576) :
  Calls Tryz.prog 50 #[.agg #[.int .i64 op, v]] w fun e w' => ∃ u, e = .returned (.agg #[.int .i64 op, u]) ∧ w'.ownsRow w.heap.size 117 3 u ds.length (devsCells ds) ∧ Below w.heap.size w w' := by
 have HA : Hid (∀ W, Below w.heap.size w W → DevsAt W v ds) := fun W hW => hat.below hW
 obtain ⟨a, cap, rfl, _⟩ := hat
 go_enter Tryz.func50, Tryz.ntmps50
 go_wp2_with (go_at_call 82; refine (l_toDevs a cap ds _ (HA.out _ blB) hl).mono ?_; rintro e w1 ⟨rfl, hown, hb⟩; obtain ⟨hc, hf⟩ := bcell hb)
 have b0 : w1.cell? ⟨w.heap.size + 1, 0, none⟩ = some (.int .i64 0) := by rw [hc _ _ (by simp)]; simp [go_sem]
 have b1 : w1.cell? ⟨w.heap.size + 1, 1, none⟩ = some (.slice none 0 0) := by rw [hc _ _ (by simp)]; simp [go_sem]
 refine bodyPost_ret (v := .agg #[.int .i64 op, .slice (some ⟨w.heap.size + 1 + 1 + 1, 0, none⟩) ds.length ds.length]) (by simp [results, Tryz.results50, go_sem, b0, b1]) rfl ⟨_, rfl, ?_, ?_⟩
 ·simp only [World.alloc, Array.size_push] at hown
  exact Joins.ownsRow_le (ownsRow_setCell_below (ownsRow_setCell_below (ownsRow_setCell_below hown (by simp) _) (by simp) _) (by simp) _) (by omega)
 ·have hbw : Below w.heap.size w w1 := blB
  exact ((hbw.setCell (by simp; omega) _).setCell (by simp) _).setCell (by simp) _
open Classical in
theorem l_eqDevs (v u : Value) (ds fs : List Stil.Dev) (w : World) (hat : DevsAt w v ds) (hau : DevsAt w u fs) (hl : ds.length ≤ 1048576) (hk : fs.length ≤ 1048576) :
  Calls Tryz.prog 61 #[v, u] w fun e w' => e = .returned (.bool (decide (ds = fs))) ∧ Below w.heap.size w w' := by
 obtain ⟨a, cap, rfl, hc1⟩ := hat
 obtain ⟨b, cap2, rfl, hc2⟩ := hau
 by_cases hlen : ds.length = fs.length
 ·have HA : Hid (∀ i (h : i < ds.length), ∃ b o, a = some ⟨b, o, none⟩ ∧ b < w.heap.size ∧ DevAt w b (o + i * 3) ds[i]) := hc1
  have HB : Hid (∀ i (h : i < fs.length), ∃ b' o, b = some ⟨b', o, none⟩ ∧ b' < w.heap.size ∧ DevAt w b' (o + i * 3) fs[i]) := hc2
  clear hc1 hc2
  have hlb : ((ds.length : Int) != (fs.length : Int)) = false := by rw [bne_eq_false_iff_eq]; omega
  have HL : Hid (ds.length = fs.length) := hlen
  have hl1 : ds.length ≤ fs.length := by omega
  have hl2 : fs.length ≤ ds.length := by omega
  clear hlen
  go_enter Tryz.func61, Tryz.ntmps61
  go_wp2
  go_loopw [5] (fun i wr => ∃ k : Nat, k ≤ ds.length ∧ i = .int .i64 k ∧ ds.take k = fs.take k ∧ Below w.heap.size w wr) (fun i _ => ds.length - (intOf i).toNat)
  case atStart => exact ⟨0, by omega, rfl, by simp, Below.refl _ _⟩
  case round =>
   obtain ⟨k, hk, rfl, heq, hb⟩ := hrel
   have HE : Hid (ds.take k = fs.take k) := heq
   clear heq
   by_cases hlt : k < ds.length
   ·have hlt2 : k < fs.length := by omega
    obtain ⟨b1, o1, rfl, hbl1, hd1⟩ := HA.out k hlt
    obtain ⟨b2, o2, rfl, hbl2, hd2⟩ := HB.out k hlt2
    obtain ⟨x0, x1, x2⟩ := hd1.below hb hbl1
    obtain ⟨y0, y1, y2⟩ := hd2.below hb hbl2
    by_cases hxy : ds[k] = fs[k]
    ·have HXY : Hid (ds.take (k + 1) = fs.take (k + 1)) := by
      show _ = _
      rw [List.take_succ_eq_append_getElem hlt, List.take_succ_eq_append_getElem hlt2, HE.out, hxy]
     have hdec : decide (ds[k] = fs[k]) = true := by simpa using hxy
     obtain ⟨x, hx⟩ : ∃ x, x = ds[k] := ⟨_, rfl⟩
     obtain ⟨y, hy⟩ : ∃ y, y = fs[k] := ⟨_, rfl⟩
     rw [← hx] at x0 x1 x2
     rw [← hy] at y0 y1 y2
     rw [← hx, ← hy] at hdec
     clear hx hy hxy hd1 hd2
     have r0 := cell_regrown x0
     have r1 := cell_regrown x1
     have r2 := cell_regrown x2
     have r3 := cell_regrown y0
     have r4 := cell_regrown y1
     have r5 := cell_regrown y2
     go_wp2
     refine wp_region_quiet_below (by kernel_rfl) (by kernel_rfl) ?_
     repeat (go_big_quiet_step ((exact Calls.regrown_of (l_eqDev x y _))))
     refine wpQuiet_nil ?_
     intro _ hw'
     obtain ⟨⟨dq, osq⟩, hw''⟩ := hw'
     subst hw''
     go_wp2
     exact ⟨⟨k + 1, by omega, by go_num, HXY.out, bl_grow hb _ _⟩, by simp [intOf]; omega⟩
    ·have HXY : Hid (¬ ds = fs) := by
      show ¬ _
      intro h; subst h; exact hxy rfl
     have hdec : decide (ds[k] = fs[k]) = false := by simpa using hxy
     obtain ⟨x, hx⟩ : ∃ x, x = ds[k] := ⟨_, rfl⟩
     obtain ⟨y, hy⟩ : ∃ y, y = fs[k] := ⟨_, rfl⟩
     rw [← hx] at x0 x1 x2
     rw [← hy] at y0 y1 y2
     rw [← hx, ← hy] at hdec
     clear hx hy hxy hd1 hd2
     have r0 := cell_regrown x0
     have r1 := cell_regrown x1
     have r2 := cell_regrown x2
     have r3 := cell_regrown y0
     have r4 := cell_regrown y1
     have r5 := cell_regrown y2
     go_wp2
     refine wp_region_quiet_below (by kernel_rfl) (by kernel_rfl) ?_
     repeat (go_big_quiet_step ((exact Calls.regrown_of (l_eqDev x y _))))
     refine wpQuiet_nil ?_
     intro _ hw'
     obtain ⟨⟨dq, osq⟩, hw''⟩ := hw'
     subst hw''
     go_wp2
     go_ret
     exact ⟨ret_bool (by rw [decide_eq_false HXY.out]), bl_grow hb _ _⟩
   ·go_wp2
    go_ret
    have e : ds = fs := by
     have := HE.out
     rwa [List.take_of_length_le (by omega), List.take_of_length_le (by omega)] at this
    exact ⟨ret_bool (by rw [decide_eq_true e]), hb⟩
 ·have hlb : ((ds.length : Int) != (fs.length : Int)) = true := by rw [bne_iff_ne]; omega
  have HN : Hid (¬ ds = fs) := by show ¬ _; intro h; exact hlen (by rw [h])
  clear hlen hc1 hc2
  go_enter Tryz.func61, Tryz.ntmps61
  go_wp2
  go_ret
  exact ⟨ret_bool (by rw [decide_eq_false HN.out]), Below.refl _ _⟩
open Classical in
theorem l_eqElem (op oq : Int) (v u : Value) (ds fs : List Stil.Dev) (w : World) (hat : DevsAt w v ds) (hau : DevsAt w u fs) (hl : ds.length ≤ 1048576) (hk : fs.length ≤ 1048576) :
  Calls Tryz.prog 27 #[.agg #[.int .i64 op, v], .agg #[.int .i64 oq, u]] w fun e w' => e = .returned (.bool (decide (op = oq ∧ ds = fs))) ∧ Below w.heap.size w w' := by
 have heqs : ∀ W, Below w.heap.size w W → Calls Tryz.prog 61 #[v, u] W fun e w' => e = .returned (.bool (decide (ds = fs))) ∧ Below W.heap.size W w' := fun W hW => l_eqDevs v u ds fs W (hat.below hW) (hau.below hW) hl hk
 obtain ⟨a, cap, rfl, _⟩ := hat
 obtain ⟨b, cap2, rfl, _⟩ := hau
 have HQ : Hid (∀ W, Below w.heap.size w W → Calls Tryz.prog 61 #[.slice a ds.length cap, .slice b fs.length cap2] W fun e w' => e = .returned (.bool (decide (ds = fs))) ∧ Below W.heap.size W w') := heqs
 clear heqs
 by_cases ho : op = oq
 ·have hob : (op != oq) = false := by rw [bne_eq_false_iff_eq]; exact ho
  have HO : Hid (op = oq) := ho
  clear ho
  cases hd : decide (ds = fs)
  ·have HD : Hid (¬ (op = oq ∧ ds = fs)) := by show ¬ _; simp at hd; exact fun h => hd h.2
   go_enter Tryz.func27, Tryz.ntmps27
   go_wp2_with (go_at_call 61; refine (HQ.out _ blB).mono ?_; rw [hd]; rintro e w1 ⟨rfl, hb⟩)
   go_ret
   exact ⟨ret_bool (by rw [decide_eq_false HD.out]), blB⟩
  ·have HD : Hid (op = oq ∧ ds = fs) := by show _ ∧ _; simp at hd; exact ⟨HO.out, hd⟩
   go_enter Tryz.func27, Tryz.ntmps27
   go_wp2_with (go_at_call 61; refine (HQ.out _ blB).mono ?_; rw [hd]; rintro e w1 ⟨rfl, hb⟩)
   go_ret
   exact ⟨ret_bool (by rw [decide_eq_true HD.out]), blB⟩
 ·have hob : (op != oq) = true := by rw [bne_iff_ne]; exact ho
  have HD : Hid (¬ (op = oq ∧ ds = fs)) := by show ¬ _; exact fun h => ho h.1
  clear ho
  go_enter Tryz.func27, Tryz.ntmps27
  go_wp2
  go_ret
  exact ⟨ret_bool (by rw [decide_eq_false HD.out]), blB⟩
end Go.Proofs.YtpaljcoojkbhnaaGreatDoor
