/- The law on the parts of a ladder: the walk. -/
import Derived.Test.YtenoanhonjdpjaaGreatDoorLWL
import Derived.Test.YtenoanhonjdpjaaGreatDoorHg
import Derived.Test.YtenoanhonjdpjaaGreatDoorM18
import Derived.Deep.RegionWith
import Derived.Deep.RegionLaw
import Derived.Deep.RegionHeld3
import Derived.Lib.QuietBelow
namespace Go.Proofs.YtenoanhonjdpjaaGreatDoor
open Go.RowKit Go.Sort Go.BigFrame
def LadCap2 (N k : Nat) (w : World) (e : Ending) (w' : World) : Prop := ∃ (l : List Stil.Arm) (a : Option Addr) (c : Nat), e = .returned (.slice a l.length c) ∧ l.length ≤ c ∧ ArmsAt w' (.slice a l.length c) l ∧ (∀ a ∈ l, ATame a ∧ Stil.armSz a ≤ N) ∧ l.length ≤ k ∧ Below w.heap.size w w'
theorem fault_fld2 (x y : Value) (w : World) : Sem.run Tryz.prog (Instr.field 26 (.agg #[x, y]) 0) w = .ok x w := by kernel_rfl
theorem one_at {W : World} {b : Nat} {x : Stil.Arm} {av nv cv kv : Value} (hb : b < W.heap.size)
    (b0 : W.cell? ⟨b, 0, none⟩ = some (.int .i64 x.net.kind)) (b1 : W.cell? ⟨b, 1, none⟩ = some (.int .i64 x.net.one.op)) (b2 : W.cell? ⟨b, 2, none⟩ = some av) (b3 : W.cell? ⟨b, 3, none⟩ = some nv)
    (b4 : W.cell? ⟨b, 4, none⟩ = some cv) (b5 : W.cell? ⟨b, 5, none⟩ = some kv)
    (hav : DevsAt W av x.net.one.args) (hnv : NetsAt W nv x.net.kids) (hcv : ElemsAt W cv x.coils) (hkv : ArmsAt W kv x.kids) : ArmsAt W (.slice (some ⟨b, 0, none⟩) 1 1) [x] := by
  refine ⟨_, _, rfl, fun i hi => ?_⟩
  obtain rfl : i = 0 := by simpa using hi
  refine ⟨b, 0, rfl, hb, ?_⟩
  show ArmAt W b (0 + 0 * 6) x
  obtain ⟨⟨k, e, kids⟩, cs, ks⟩ := x
  rw [ArmAt_eq]
  obtain ⟨a, c, rfl, h⟩ := hkv
  exact ⟨(NetAt_iff _ _ _ _ _ _).2 ⟨b0, b1, ⟨_, b2, hav⟩, _, b3, hnv⟩, ⟨_, b4, hcv⟩, a, c, b5, h⟩
theorem lad_one {w W : World} {v u : Value} {l : List Stil.Arm} {j : Nat} (h : Lad w v l) (hj : j < l.length) (hu : ArmsAt W u [l[j]]) : Lad W u [l[j]] := by
  obtain ⟨_, h2, h3, h4, h5⟩ := h
  refine ⟨hu, fun x hx => by rw [List.mem_singleton.1 hx]; exact h2 _ (List.getElem_mem hj), by simp, ?_, fun d => ?_⟩
  · have := Stil.size_one l j hj
    omega
  · have h6 : Stil.treeUses d [l[j]] ≤ Stil.treeUses d l := by
      have e : Stil.treeUses d [l[j]] = Stil.armUses d l[j] := by simp [Stil.treeUses]
      rw [e]
      exact Stil.mem_le_sum (Stil.armUses d) l _ (List.getElem_mem hj)
    have := h5 d
    omega
theorem lad_take {w : World} {a : Option Addr} {c : Nat} {l : List Stil.Arm} {j : Nat} (h : Lad w (.slice a l.length c) l) (hj : j ≤ l.length) : Lad w (.slice a j c) (l.take j) := by
  obtain ⟨⟨a', c', e, h1⟩, h2, h3, h4, h5⟩ := h
  cases e
  have hl : (l.take j).length = j := by rw [List.length_take]; omega
  refine ⟨⟨a, c, by rw [hl], fun i hi => ?_⟩, fun x hx => h2 x (List.mem_of_mem_take hx), by omega, ?_, fun d => ?_⟩
  · have hi2 : i < l.length := by omega
    obtain ⟨b, o, e1, e2, e3⟩ := h1 i hi2
    exact ⟨b, o, e1, e2, by rw [List.getElem_take]; exact e3⟩
  · have := Stil.size_take l j
    omega
  · have h6 : Stil.treeUses d (l.take j) ≤ Stil.treeUses d l := by
      unfold Stil.treeUses
      have h : l = l.take j ++ l.drop j := (List.take_append_drop j l).symm
      conv => rhs; rw [h, List.map_append, List.sum_append]
      omega
    have := h5 d
    omega
theorem s_check2 {w W : World} {v : Value} {l : List Stil.Arm} (h1 : LadF w v l) (hb : Below w.heap.size w W) : Calls Tryz.prog 11 #[v] W fun e w' => e = .returned (.agg #[.int .i64 (Stil.treeCheck l).1, .int .i64 (Stil.treeCheck l).2]) ∧ Below W.heap.size W w' :=
  have h := h1 W hb
  s_treeCheck l v W h.1 h.2.2.1 h.2.2.2.1 h.2.1
set_option maxHeartbeats 4000000 in
set_option maxRecDepth 100000 in
theorem law_treeParts (HD : ∀ u w, BytesAt w u → Calls Tryz.prog 9 #[u] w (LadCap2 6000 104 w)) (u : Value) (w : World) (hrow : RowsAt w) (herr : ErrTypeAt w) (hu : BytesAt w u) :
    Calls Tryz.prog 3 #[u] w fun e w' => e = .returned (.bool true) ∧ Below w.heap.size w w' := by
  have HR0 : Hid (∀ W, Below w.heap.size w W → RowsAt W ∧ ErrTypeAt W) := fun W h => ⟨hrow.below h, herr.below h⟩
  have HDR : Hid (Calls Tryz.prog 9 #[u] w (LadCap2 6000 104 w)) := HD u w hu
  obtain ⟨ua, ul, uc, rfl, -, -, -⟩ := hu
  clear hrow herr HD
  by_cases hbig : 1048576 < ul
  · go_enter Tryz.func3, Tryz.ntmps3
    go_wp2
    go_ret
    exact ⟨rfl, Below.refl _ _⟩
  go_enter Tryz.func3, Tryz.ntmps3
  go_upto_region 4 with (go_at_call 9; refine HDR.out.mono ?_; rintro e w1 ⟨l, a1, c1, rfl, hcap, hva, hta, hla, hb1⟩; have HL : Hid (LadF w1 (.slice a1 l.length c1) l) := ladF (lad_of hva hta hla (by omega) (by omega)); clear hta hva)
  have HR : Hid (∀ W, Below w1.heap.size w1 W → RowsAt W ∧ ErrTypeAt W) := fun W h => HR0.out W (hb1.trans (h.mono hb1.size))
  have HFIN : Hid (∀ W, Below w1.heap.size w1 W → Below w.heap.size w W) := fun W h => hb1.trans (h.mono hb1.size)
  have hff := fault_fld2
  have HP : Hid (_) := Stil.check_parts l
  obtain ⟨f1, hf1⟩ : ∃ f1, f1 = (Stil.treeCheck l).1 := ⟨_, rfl⟩
  obtain ⟨f2, hf2⟩ : ∃ f2, f2 = (Stil.treeCheck l).2 := ⟨_, rfl⟩
  have HCK : Hid (Stil.treeCheck l = (f1, f2)) := by rw [hf1, hf2]; exact rfl
  clear hf1 hf2 hb1 HR0 HDR hbig
  go_upto_region 5 with (first | (go_at_call 10; refine (i_checkG (w := w1) HR.out HL.out (by (repeat with_reducible first | exact Below.refl _ _ | assumption | refine bl_set (by first | exact Nat.le_refl _ | (simp; done) | (simp; omega) | omega) ?_ _ | refine bl_alloc ?_ _ | refine bl_drewN ?_ _ | refine bl_drew ?_ | refine bl_grow ?_ _ _ | refine bl_call ?_ (by assumption)))).mono ?_; rw [HCK.out]; rintro e w2 ⟨rfl, hb2⟩))
  obtain ⟨W2, hW2⟩ : ∃ W2, W2 = w2.alloc (.cells #[.int .i64 f1, .int .i64 f2] 26) := ⟨_, rfl⟩
  have hb2' : Below w1.heap.size w1 W2 := by rw [hW2]; (repeat with_reducible first | exact Below.refl _ _ | assumption | refine bl_set (by first | exact Nat.le_refl _ | (simp; done) | (simp; omega) | omega) ?_ _ | refine bl_alloc ?_ _ | refine bl_drewN ?_ _ | refine bl_drew ?_ | refine bl_grow ?_ _ _ | refine bl_call ?_ (by assumption))
  have HF : Hid (∀ W, Below W2.heap.size W2 W → w2.heap.size < W.heap.size ∧ W.cell? ⟨w2.heap.size, 0, none⟩ = some (.int .i64 f1) ∧ W.cell? ⟨w2.heap.size, 1, none⟩ = some (.int .i64 f2)) := by
    intro W h
    rw [hW2] at h
    exact ⟨Nat.lt_of_lt_of_le (by simp) h.size, (h.cell (p := ⟨w2.heap.size, 0, none⟩) (by simp)).trans (by simp [go_sem]), (h.cell (p := ⟨w2.heap.size, 1, none⟩) (by simp)).trans (by simp [go_sem])⟩
  rw [← hW2]
  have HL2 : Hid (LadF W2 (.slice a1 l.length c1) l) := HL.out.later hb2'
  have HR2 : Hid (∀ W, Below W2.heap.size W2 W → RowsAt W ∧ ErrTypeAt W) := fun W h => HR.out W (hb2'.trans (h.mono hb2'.size))
  have HFIN2 : Hid (∀ W, Below W2.heap.size W2 W → Below w.heap.size w W) := fun W h => HFIN.out W (hb2'.trans (h.mono hb2'.size))
  have HSC : Hid (∀ W, Below W2.heap.size W2 W → Calls Tryz.prog 11 #[.slice a1 l.length c1] W fun e w' => e = .returned (.agg #[.int .i64 f1, .int .i64 f2]) ∧ Below W.heap.size W w') := fun W h => by
    have := s_check2 HL2.out h
    rw [HCK.out] at this
    exact this
  clear hW2 hb2 hb2' HL HR HFIN
  obtain ⟨hz, x0, x1⟩ := HF.out W2 (Below.refl _ _)
  have k0 := cell_regrown x0
  have k1 := cell_regrown x1
  clear x0 x1
  refine wp_region_quiet_below (by kernel_rfl) (by kernel_rfl) ?_
  repeat (go_big_quiet_step ((exact Calls.regrown_of (HSC.out _ (bl_grow (Below.refl _ _) _ _)))))
  refine wpQuiet_nil ?_
  intro _ hw'
  obtain ⟨⟨dq, osq⟩, hw''⟩ := hw'
  subst hw''
  go_wp2
  go_loopw [5, 6] (fun sz i wr => ∃ j : Nat, j ≤ l.length ∧ i = .int .i64 j ∧ sz = .int .i64 (Stil.treeSize (l.take j)) ∧ Below W2.heap.size W2 wr) (fun _ i _ => l.length - (intOf i).toNat)
  case atStart => exact ⟨0, by omega, rfl, by simp [Stil.treeSize], bl_grow (Below.refl _ _) _ _⟩
  case round =>
    obtain ⟨j, hj, rfl, rfl, hB⟩ := hrel
    obtain ⟨hzr, f0, f1c⟩ := HF.out wr hB
    by_cases hlt : j < l.length
    · obtain ⟨⟨a', c', e', hat⟩, hrest⟩ := HL2.out wr hB
      cases e'
      obtain ⟨b, o, rfl, hbl, hn⟩ := hat j hlt
      have HLr : Hid (Lad wr (.slice (some ⟨b, o, none⟩) l.length c1) l) := HL2.out wr hB
      obtain ⟨hna, cv, kv, x4, x5, hcv, hkv⟩ := hn.open
      obtain ⟨x0, x1, av, nv, x2, x3, hav, hnv⟩ := hna.open
      have HSP : Hid (Stil.treeSize (l.take (j + 1)) = Stil.treeSize (l.take j) + Stil.treeSize [l[j]]) := Stil.size_split l j hlt
      have hs1 := Stil.size_take l (j + 1)
      rw [HSP.out] at hs1
      have hs2 := hrest.2.2.1
      obtain ⟨S0, hS0⟩ : ∃ S0, S0 = Stil.treeSize (l.take j) := ⟨_, rfl⟩
      obtain ⟨S1, hS1⟩ : ∃ S1, S1 = Stil.treeSize [l[j]] := ⟨_, rfl⟩
      rw [← hS0, ← hS1] at HSP hs1
      have hsum : S0 + S1 ≤ 1000000000 := by omega
      have HS1 : Hid (Stil.treeSize [l[j]] = S1) := hS1.symm
      rw [← hS0]
      have HAV : Hid (∀ W, Below wr.heap.size wr W → DevsAt W av l[j].net.one.args ∧ NetsAt W nv l[j].net.kids ∧ ElemsAt W cv l[j].coils ∧ ArmsAt W kv l[j].kids) := fun W h => ⟨hav.below h, hnv.below h, hcv.below h, hkv.below h⟩
      obtain ⟨q1, q2, rfl, -⟩ := hav
      obtain ⟨q3, q4, rfl, -⟩ := hnv
      obtain ⟨q5, q6, rfl, -⟩ := hcv
      obtain ⟨q7, q8, rfl, -⟩ := hkv
      obtain ⟨x, hx⟩ : ∃ x, x = l[j] := ⟨_, rfl⟩
      have HX : Hid (l[j] = x) := hx.symm
      rw [← hx] at HAV HS1
      rw [← hx] at x0 x1 x2 x3 x4 x5
      clear hna hn hat hrest hs1 hs2 hS0 hS1 hx
      go_upto_region 12 with fail
      obtain ⟨WB, hWB⟩ : ∃ WB, WB = wr.alloc (.cells #[.int .i64 x.net.kind, .int .i64 x.net.one.op, .slice q1 x.net.one.args.length q2, .slice q3 x.net.kids.length q4, .slice q5 x.coils.length q6, .slice q7 x.kids.length q8] 36) := ⟨_, rfl⟩
      have hbB : Below wr.heap.size wr WB := by rw [hWB]; exact below_alloc _ _
      have HO : Hid (LadF WB (.slice (some ⟨wr.heap.size, 0, none⟩) 1 1) [x]) := by
        obtain ⟨k1, k2, k3, k4⟩ := HAV.out WB hbB
        have h := one_at (W := WB) (b := wr.heap.size) (x := x) (by rw [hWB]; simp) (by rw [hWB]; simp [go_sem]) (by rw [hWB]; simp [go_sem]) (by rw [hWB]; simp [go_sem]) (by rw [hWB]; simp [go_sem]) (by rw [hWB]; simp [go_sem]) (by rw [hWB]; simp [go_sem]) k1 k2 k3 k4
        rw [← HX.out] at h ⊢
        exact ladF (lad_one HLr.out hlt h)
      rw [← hWB]
      have hBB : Below W2.heap.size W2 WB := hB.trans (hbB.mono hB.size)
      have HBW : Hid (∀ W, Below WB.heap.size WB W → Below W2.heap.size W2 W) := fun W h => hBB.trans (h.mono hBB.size)
      have HRB : Hid (∀ W, Below WB.heap.size WB W → RowsAt W ∧ ErrTypeAt W) := fun W h => HR2.out W (HBW.out W h)
      have HLT : Hid (∀ W, Below WB.heap.size WB W → Calls Tryz.prog 10 #[.slice (some ⟨b, o, none⟩) (j + 1) c1] W fun e w' => e = .returned (.agg #[.int .i64 (Stil.treeCheck (l.take (j + 1))).1, .int .i64 (Stil.treeCheck (l.take (j + 1))).2]) ∧ Below W.heap.size W w') := fun W h => by
        have hl1 : Lad W (.slice (some ⟨b, o, none⟩) (j + 1) c1) (l.take (j + 1)) := lad_take (HL2.out W (HBW.out W h)) (by omega)
        exact i_check (HRB.out W h).1 (HRB.out W h).2 hl1
      have HG : Hid (∀ W, Below WB.heap.size WB W → Calls Tryz.prog 10 #[.slice (some ⟨wr.heap.size, 0, none⟩) 1 1] W fun e w' => e = .returned (.agg #[.int .i64 (Stil.treeCheck [x]).1, .int .i64 (Stil.treeCheck [x]).2]) ∧ Below W.heap.size W w') := fun W h => i_checkG (w := WB) HRB.out HO.out h
      have HCASE : Hid (f1 = 0 ∧ Stil.treeCheck [x] = (0, 0) ∧ (Stil.treeCheck (l.take (j + 1))).1 = 0 ∨ f1 = 1 ∨ (0 < f1 ∧ f1 ≠ 1 ∧ (j < f2 ∧ Stil.treeCheck [x] = (0, 0) ∧ (Stil.treeCheck (l.take (j + 1))).1 = 0 ∨ j = f2 ∧ Stil.treeCheck [x] = (f1, 0) ∨ f2 < j))) := by
        have hp := HP.out
        have e1 : (Stil.treeCheck l).1 = f1 := by rw [HCK.out]
        have e2 : (Stil.treeCheck l).2 = f2 := by rw [HCK.out]
        rw [← HX.out]
        rcases hp with ⟨h1, h2⟩ | h1 | ⟨h1, h2, h3, h4, h5⟩
        · exact .inl ⟨e1.symm.trans h1, h2 j hlt⟩
        · exact .inr (.inl (e1.symm.trans h1))
        · refine .inr (.inr ⟨by omega, by omega, ?_⟩)
          rcases Nat.lt_trichotomy j f2 with h6 | h6 | h6
          · exact .inl ⟨h6, h5 j (by omega) hlt⟩
          · refine .inr (.inl ⟨h6, ?_⟩)
            have e3 : l[j] = l[(Stil.treeCheck l).2] := by congr 1; omega
            rw [e3, h4, e1]
          · exact .inr (.inr h6)
      clear hWB hbB x0 x1 x2 x3 x4 x5 HLr HAV f0 f1c
      go_upto_region 13 with (go_at_call 12; refine (i_sizeG (w := WB) HO.out (by (repeat with_reducible first | exact Below.refl _ _ | assumption | refine bl_set (by first | exact Nat.le_refl _ | (simp; done) | (simp; omega) | omega) ?_ _ | refine bl_alloc ?_ _ | refine bl_drewN ?_ _ | refine bl_drew ?_ | refine bl_grow ?_ _ _ | refine bl_call ?_ (by assumption)))).mono ?_; rw [HS1.out]; rintro e w4 ⟨rfl, hb4⟩; obtain ⟨hz4, g0, g1⟩ := HF.out w4 (HBW.out _ hb4))
      clear hBB hB
      have hj2 : j < 1000 := by omega
      have hcap2 : (j : Int) + 1 ≤ c1 := by omega
      have hw1 : IntKind.i64.wrap ((j : Int) + 1) = j + 1 := by rw [IntKind.wrap_i64]; omega
      rcases HCASE.out with ⟨h1, h2, h3⟩ | h1 | ⟨h1, h2, ⟨h3, h4, h5⟩ | ⟨h3, h4⟩ | h3⟩
      · subst h1
        have HG1 := HG
        rw [h2] at HG1
        have HG2 := HLT
        rw [h3] at HG2
        clear h2 h3
        go_upto_region 16 with (go_at_call 10; refine (HG1.out _ (by (repeat with_reducible first | exact Below.refl _ _ | assumption | refine bl_set (by first | exact Nat.le_refl _ | (simp; done) | (simp; omega) | omega) ?_ _ | refine bl_alloc ?_ _ | refine bl_drewN ?_ _ | refine bl_drew ?_ | refine bl_grow ?_ _ _ | refine bl_call ?_ (by assumption)))).mono ?_; rintro e w5 ⟨rfl, hb5⟩; obtain ⟨hz5, g0, g1⟩ := HF.out w5 (HBW.out _ (by (repeat with_reducible first | exact Below.refl _ _ | assumption | refine bl_set (by first | exact Nat.le_refl _ | (simp; done) | (simp; omega) | omega) ?_ _ | refine bl_alloc ?_ _ | refine bl_drewN ?_ _ | refine bl_drew ?_ | refine bl_grow ?_ _ _ | refine bl_call ?_ (by assumption)))))
        go_wp2_with (go_at_call 10; refine (HG2.out _ (by (repeat with_reducible first | exact Below.refl _ _ | assumption | refine bl_set (by first | exact Nat.le_refl _ | (simp; done) | (simp; omega) | omega) ?_ _ | refine bl_alloc ?_ _ | refine bl_drewN ?_ _ | refine bl_drew ?_ | refine bl_grow ?_ _ _ | refine bl_call ?_ (by assumption)))).mono ?_; rintro e w6 ⟨rfl, hb6⟩)
        all_goals exact ⟨⟨j + 1, by omega, by first | go_num | (simp; done) | omega, by rw [HSP.out]; first | go_num | (simp; done) | omega, HBW.out _ (by (repeat with_reducible first | exact Below.refl _ _ | assumption | refine bl_set (by first | exact Nat.le_refl _ | (simp; done) | (simp; omega) | omega) ?_ _ | refine bl_alloc ?_ _ | refine bl_drewN ?_ _ | refine bl_drew ?_ | refine bl_grow ?_ _ _ | refine bl_call ?_ (by assumption)))⟩, by simp [intOf]; omega⟩
      · subst h1
        go_wp2
        all_goals exact ⟨⟨j + 1, by omega, by first | go_num | (simp; done) | omega, by rw [HSP.out]; first | go_num | (simp; done) | omega, HBW.out _ (by (repeat with_reducible first | exact Below.refl _ _ | assumption | refine bl_set (by first | exact Nat.le_refl _ | (simp; done) | (simp; omega) | omega) ?_ _ | refine bl_alloc ?_ _ | refine bl_drewN ?_ _ | refine bl_drew ?_ | refine bl_grow ?_ _ _ | refine bl_call ?_ (by assumption)))⟩, by simp [intOf]; omega⟩
      · have HG1 := HG
        rw [h4] at HG1
        have HG2 := HLT
        rw [h5] at HG2
        have n1 : ¬ f1 = 0 := by omega
        have n2 : (j : Int) ≤ f2 := by omega
        have n3 : (j : Int) < f2 := by omega
        clear h4 h5
        go_upto_region 16 with (go_at_call 10; refine (HG1.out _ (by (repeat with_reducible first | exact Below.refl _ _ | assumption | refine bl_set (by first | exact Nat.le_refl _ | (simp; done) | (simp; omega) | omega) ?_ _ | refine bl_alloc ?_ _ | refine bl_drewN ?_ _ | refine bl_drew ?_ | refine bl_grow ?_ _ _ | refine bl_call ?_ (by assumption)))).mono ?_; rintro e w5 ⟨rfl, hb5⟩; obtain ⟨hz5, g0, g1⟩ := HF.out w5 (HBW.out _ (by (repeat with_reducible first | exact Below.refl _ _ | assumption | refine bl_set (by first | exact Nat.le_refl _ | (simp; done) | (simp; omega) | omega) ?_ _ | refine bl_alloc ?_ _ | refine bl_drewN ?_ _ | refine bl_drew ?_ | refine bl_grow ?_ _ _ | refine bl_call ?_ (by assumption)))))
        go_wp2_with (go_at_call 10; refine (HG2.out _ (by (repeat with_reducible first | exact Below.refl _ _ | assumption | refine bl_set (by first | exact Nat.le_refl _ | (simp; done) | (simp; omega) | omega) ?_ _ | refine bl_alloc ?_ _ | refine bl_drewN ?_ _ | refine bl_drew ?_ | refine bl_grow ?_ _ _ | refine bl_call ?_ (by assumption)))).mono ?_; rintro e w6 ⟨rfl, hb6⟩)
        all_goals exact ⟨⟨j + 1, by omega, by first | go_num | (simp; done) | omega, by rw [HSP.out]; first | go_num | (simp; done) | omega, HBW.out _ (by (repeat with_reducible first | exact Below.refl _ _ | assumption | refine bl_set (by first | exact Nat.le_refl _ | (simp; done) | (simp; omega) | omega) ?_ _ | refine bl_alloc ?_ _ | refine bl_drewN ?_ _ | refine bl_drew ?_ | refine bl_grow ?_ _ _ | refine bl_call ?_ (by assumption)))⟩, by simp [intOf]; omega⟩
      · have HG1 := HG
        rw [h4] at HG1
        have n1 : ¬ f1 = 0 := by omega
        subst h3
        clear h4
        go_wp2_with (go_at_call 10; refine (HG1.out _ (by (repeat with_reducible first | exact Below.refl _ _ | assumption | refine bl_set (by first | exact Nat.le_refl _ | (simp; done) | (simp; omega) | omega) ?_ _ | refine bl_alloc ?_ _ | refine bl_drewN ?_ _ | refine bl_drew ?_ | refine bl_grow ?_ _ _ | refine bl_call ?_ (by assumption)))).mono ?_; rintro e w5 ⟨rfl, hb5⟩; obtain ⟨hz5, g0, g1⟩ := HF.out w5 (HBW.out _ (by (repeat with_reducible first | exact Below.refl _ _ | assumption | refine bl_set (by first | exact Nat.le_refl _ | (simp; done) | (simp; omega) | omega) ?_ _ | refine bl_alloc ?_ _ | refine bl_drewN ?_ _ | refine bl_drew ?_ | refine bl_grow ?_ _ _ | refine bl_call ?_ (by assumption)))))
        all_goals exact ⟨⟨j + 1, by omega, by first | go_num | (simp; done) | omega, by rw [HSP.out]; first | go_num | (simp; done) | omega, HBW.out _ (by (repeat with_reducible first | exact Below.refl _ _ | assumption | refine bl_set (by first | exact Nat.le_refl _ | (simp; done) | (simp; omega) | omega) ?_ _ | refine bl_alloc ?_ _ | refine bl_drewN ?_ _ | refine bl_drew ?_ | refine bl_grow ?_ _ _ | refine bl_call ?_ (by assumption)))⟩, by simp [intOf]; omega⟩
      · have n1 : ¬ f1 = 0 := by omega
        have n2 : ¬ (j : Int) ≤ f2 := by omega
        go_wp2
        all_goals exact ⟨⟨j + 1, by omega, by first | go_num | (simp; done) | omega, by rw [HSP.out]; first | go_num | (simp; done) | omega, HBW.out _ (by (repeat with_reducible first | exact Below.refl _ _ | assumption | refine bl_set (by first | exact Nat.le_refl _ | (simp; done) | (simp; omega) | omega) ?_ _ | refine bl_alloc ?_ _ | refine bl_drewN ?_ _ | refine bl_drew ?_ | refine bl_grow ?_ _ _ | refine bl_call ?_ (by assumption)))⟩, by simp [intOf]; omega⟩
    · have e : l.take j = l := List.take_of_length_le (by omega)
      have e2 : j = l.length := by omega
      rw [e]
      clear e
      go_wp2_with (go_at_call 12; refine (i_sizeG (w := W2) HL2.out (by (repeat with_reducible first | exact Below.refl _ _ | assumption | refine bl_set (by first | exact Nat.le_refl _ | (simp; done) | (simp; omega) | omega) ?_ _ | refine bl_alloc ?_ _ | refine bl_drewN ?_ _ | refine bl_drew ?_ | refine bl_grow ?_ _ _ | refine bl_call ?_ (by assumption)))).mono ?_; rintro e w4 ⟨rfl, hb4⟩)
      go_ret
      exact ⟨rfl, HFIN2.out _ (by (repeat with_reducible first | exact Below.refl _ _ | assumption | refine bl_set (by first | exact Nat.le_refl _ | (simp; done) | (simp; omega) | omega) ?_ _ | refine bl_alloc ?_ _ | refine bl_drewN ?_ _ | refine bl_drew ?_ | refine bl_grow ?_ _ _ | refine bl_call ?_ (by assumption)))⟩
end Go.Proofs.YtenoanhonjdpjaaGreatDoor
