/- N3, N3b: texts put together. -/
import Derived.Test.YtpaljcoojkbhnaaGreatDoorGh
import Derived.Test.YtpaljcoojkbhnaaGreatDoorGc
/- The program's chapter 6: SureRungs. -/
namespace Go.Proofs.YtpaljcoojkbhnaaGreatDoor
open Go.RowKit Go.Sort Go.BigFrame
theorem info_Insts : (Tryz.prog.info? 32).map (fun i => (i.zero, i.size, i.bytes)) = some (some (.slice none 0 0), 1, 24) := by kernel_rfl
theorem cells3 {W : World} {u0 u1 u2 : Value} {t : TypeId} : ∀ j u, [u0, u1, u2][j]? = some u → (W.alloc (.cells #[u0, u1, u2] t)).cell? ((⟨W.heap.size, 0, none⟩ : Addr).add j) = some u := by
 intro j u h
 rw [Addr.add_lit]
 match j, h with
 | 0, h => simp at h; subst h; simp [go_sem]
 | 1, h => simp at h; subst h; simp [go_sem]
 | 2, h => simp at h; subst h; simp [go_sem]
 | j + 3, h => simp at h
theorem cells1 {W : World} {u0 : Value} {t : TypeId} : ∀ j u, [u0][j]? = some u → (W.alloc (.cells #[u0] t)).cell? ((⟨W.heap.size, 0, none⟩ : Addr).add j) = some u := by
 intro j u h
 rw [Addr.add_lit]
 match j, h with
 | 0, h => simp at h; subst h; simp [go_sem]
 | j + 1, h => simp at h
end Go.Proofs.YtpaljcoojkbhnaaGreatDoor
/- The specification's chapter 6: l6Copy. -/
namespace Go.Proofs.YtpaljcoojkbhnaaGreatDoor
open Go.RowKit Go.Sort Go.BigFrame
set_option maxHeartbeats 2000000 in
set_option maxRecDepth 100000 in
theorem s_l6Copy (l : List Stil.Inst) (v : Value) (w : World) (hat : InstsAt w v l) (hl : l.length ≤ 1000) (hft : ∀ x ∈ l, x.fits) :
  Calls Tryz.prog 64 #[v] w fun e w' => ∃ (rv : Value) (us : List Value), e = .returned rv ∧ Built w' w.heap.size (.slice none 0 0) rv us l [] ∧ Below w.heap.size w w' := by
 obtain ⟨i0, hi, hz0, hz1, hz2⟩ := info_parts info_Inst
 obtain ⟨i1, hi1, hy0, hy1, hy2⟩ := info_parts info_dev
 have HF : Hid (∀ x ∈ l, x.fits) := hft
 obtain ⟨a, cap, rfl, hc⟩ := hat
 have HC : Hid (∀ i (h : i < l.length), ∃ b o, a = some ⟨b, o, none⟩ ∧ b < w.heap.size ∧ InstAt w b (o + i * 3) l[i]) := hc
 obtain ⟨ln, hln⟩ : ∃ ln, ln = l.length := ⟨_, rfl⟩
 have HLN : Hid (ln = l.length) := hln
 rw [← hln] at hl ⊢
 clear hc hft hln
 go_enter Tryz.func64, Tryz.ntmps64
 go_wp2
 go_loopw [3, 4] (fun rv i wr => ∃ (j : Nat) (us : List Value) (ra : Option Addr) (rc : Nat), j ≤ ln ∧ i = .int .i64 j ∧ rv = .slice ra j rc ∧ Built wr w.heap.size (.slice none 0 0) (.slice ra j rc) us (l.take j) [] ∧ Below w.heap.size w wr) (fun _ i _ => ln - (intOf i).toNat)
 case atStart =>
  refine ⟨0, [], some ⟨w.heap.size, 0, none⟩, 0, by omega, rfl, rfl, ⟨⟨rfl, ?_, fun i hi => absurd hi (by simp)⟩, (fun f hf => by cases hf), World.ownsRow_nil _ _ _ _, ?_⟩, blA⟩
  ·exact World.ownsRow_lit w #[] 0 (Nat.le_refl _) (by unfold maxLen; omega) rfl
  ·simp [Apart]
   exact .inl rfl
 case round =>
  obtain ⟨j, us, ra, rc, hj, rfl, rfl, hbt, hB⟩ := hrel
  have HBT : Hid (Built wr w.heap.size (.slice none 0 0) (.slice ra j rc) us (l.take j) []) := hbt
  clear hbt
  by_cases hlt : j < ln
  ·have hlt' : j < l.length := by have := HLN.out; omega
   have htl : (l.take j).length = j := by rw [List.length_take]; omega
   have HTL : Hid ((l.take j).length = j) := htl
   have HTS : Hid (l.take (j + 1) = l.take j ++ [l[j]]) := List.take_succ_eq_append_getElem hlt'
   obtain ⟨b, o, rfl, hbl, hn⟩ := HC.out j hlt'
   obtain ⟨x0, x1, kav, x2, hav⟩ := hn.below hB hbl
   have hxf := HF.out _ (List.getElem_mem hlt')
   obtain ⟨x, hx⟩ : ∃ x, x = l[j] := ⟨_, rfl⟩
   rw [← hx] at x0 x1 hav hxf HTS
   have HDA0 : Hid (∀ W, Below wr.heap.size wr W → DevsAt W kav x.one.args) := fun W hW => hav.below hW
   have hla : x.one.args.length ≤ 1048576 := hxf.2.2.1
   obtain ⟨t0, u0, rfl, _⟩ := hav
   have HDA : Hid (∀ W, Below wr.heap.size wr W → DevsAt W (.slice t0 x.one.args.length u0) x.one.args) := HDA0.out
   have HOV : Hid (∀ V, Below wr.heap.size wr V → V.ownsRow w.heap.size 51 3 (.slice ra j rc) j (rungCells us (l.take j))) := by
    intro V hV
    have := ownsRow_below HBT.out.1.2.1 hV
    rw [htl] at this
    exact this
   obtain ⟨xs, hxs⟩ : ∃ xs, xs = rungCells us (l.take j) := ⟨_, rfl⟩
   rw [← hxs] at HOV
   have HXS : Hid (xs = rungCells us (l.take j)) := hxs
   have hbr : b < wr.heap.size := Nat.lt_of_lt_of_le hbl hB.size
   have hwr : w.heap.size ≤ wr.heap.size := hB.size
   clear hxf hx hn HDA0 htl hxs
   go_upto_region 5 with fail
   go_region_law (first | (refine step_append_devs rfl _ _ rfl wr.heap.size _ x.one.args rfl (by exact (World.ownsRow_lit wr #[] 0 (Nat.le_refl _) (by unfold maxLen; omega) rfl).drew) _ _ rfl (HDA.out _ (by exact (below_alloc _ _).drew)) hla (by simp) ?_; intro v5 w5 hown5 hgr5; obtain ⟨a5, c5, hv5⟩ := slice_of_owns hown5; subst hv5; have hbw5 : Below wr.heap.size wr w5 := (below_alloc wr _).drew.grown hgr5 (by simp) (fun k hk => by cases hk; exact Nat.le_refl _); have x0 : w5.cell? ⟨b, o + j * 3, none⟩ = some (.int .i64 x.code) := (hbw5.cell (p := ⟨b, o + j * 3, none⟩) hbr).trans x0; have x1 : w5.cell? ⟨b, o + j * 3 + 1, none⟩ = some (.int .i64 x.one.op) := (hbw5.cell (p := ⟨b, o + j * 3 + 1, none⟩) hbr).trans x1) | (refine step_append_at rfl _ _ 32 rfl w.heap.size 51 i0 (.agg #[.int .i64 0, .int .i64 0, .slice none 0 0]) 3 40 Tryz.underlying32 hi hz0 hz1 hz2 rfl (by decide) _ _ _ rfl ((HOV.out w5 hbw5).alloc _) _ _ _ [.int .i64 x.code, .int .i64 x.one.op, .slice a5 x.one.args.length c5] rfl rfl (by exact cells3) (by intro u hu; simp at hu; rcases hu with rfl | rfl | rfl <;> rfl) (by unfold maxLen; omega) (by omega) (by have := hbw5.size; simp only [World.size_alloc]; omega) ?_; intro v6 w6 hown6 hgr6 hat6; obtain ⟨a6, c6, hv6⟩ := slice_of_owns hown6; subst hv6))
   all_goals
    have HB6 : Hid (Built w6 w.heap.size (.slice none 0 0) (.slice a6 (j + 1) c6) (us ++ [.slice a5 x.one.args.length c5]) (l.take j ++ [x]) []) := by
     refine Built.push (w := wr) HBT.out (hbw5.trans ((below_alloc _ _).mono hbw5.size)) (World.ownsRow.alloc hown5 _) hwr ?_ hgr6 hat6
     rw [HTL.out, ← HXS.out]
     exact hown6
    have hBa : Below w.heap.size w (w5.alloc (.cells #[.int .i64 x.code, .int .i64 x.one.op, .slice a5 x.one.args.length c5] 51)) := hB.trans ((hbw5.trans ((below_alloc _ _).mono hbw5.size)).mono hwr)
    have hB6 : Below w.heap.size w w6 := hBa.grown hgr6 hBa.size (fun k hk => (HBT.out.1.2.1.lt k hk).1)
    clear hgr6 hown6 hat6 hown5 hgr5 hbw5 hBa HOV HDA
    go_wp2
    refine ⟨⟨j + 1, us ++ [.slice a5 x.one.args.length c5], a6, c6, by omega, by go_num, rfl, ?_, hB6⟩, by simp [intOf]; omega⟩
    rw [HTS.out]
    exact HB6.out
  ·obtain rfl : j = ln := by omega
   go_wp2
   go_ret
   refine ⟨_, us, rfl, ?_, hB⟩
   have := HBT.out
   rwa [List.take_of_length_le (by have := HLN.out; omega)] at this
end Go.Proofs.YtpaljcoojkbhnaaGreatDoor
/- S9, S9b: texts put together. -/
set_option maxHeartbeats 4000000
set_option maxRecDepth 100000
/- The specification's chapter 6: SureRungs. -/
namespace Go.Proofs.YtpaljcoojkbhnaaGreatDoor
open Go.RowKit Go.Sort Go.BigFrame
theorem apart_new {x y : Value} {n : Nat} (hx : ∀ k, x.ownBlock = some k → k < n) (hy : ∀ k, y.ownBlock = some k → n ≤ k) : Apart x y := by
 by_cases e : x.ownBlock = none
 ·exact .inl e
 ·obtain ⟨k, hk⟩ := Option.ne_none_iff_exists'.1 e
  refine .inr (fun e2 => ?_)
  rw [hk] at e2
  have h1 := hx k hk
  have h2 := hy k e2.symm
  omega
/-- A copy in new memory joins what is there. -/
theorem Built.join {w w5 : World} {base B5 : Nat} {sv rv : Value} {us : List Value} {cs : List Stil.Inst} {fin : List Rg} (h1 : Built w base sv (.slice none 0 0) [] [] fin) (hb : Below w.heap.size w w5)
  (h2 : Built w5 B5 (.slice none 0 0) rv us cs []) (hB : w.heap.size ≤ B5) (hbase : base ≤ w.heap.size) : Built w5 base sv rv us cs fin := by
 have hl1 := h1.lt
 have hl2 := h2.lt
 have g1 := h1.below hb
 have hp1 := h1.2.2.2
 have hp2 := h2.2.2.2
 rw [List.pairwise_cons, List.pairwise_cons, List.nil_append] at hp1
 rw [List.pairwise_cons, List.pairwise_cons] at hp2
 simp only [List.flatMap_nil, List.append_nil] at hp2
 have hold : ∀ y ∈ sv :: fin.flatMap rgVals, ∀ k, y.ownBlock = some k → k < w.heap.size := by
  intro y hy k hk
  refine (hl1 y ?_ k hk).2
  rcases List.mem_cons.1 hy with rfl | hy
  ·simp
  ·exact List.mem_cons_of_mem _ (List.mem_cons_of_mem _ (by simpa using hy))
 have hnew : ∀ y ∈ rv :: us, ∀ k, y.ownBlock = some k → w.heap.size ≤ k := by
  intro y hy k hk
  refine Nat.le_trans hB (hl2 y ?_ k hk).1
  rcases List.mem_cons.1 hy with rfl | hy
  ·simp
  ·exact List.mem_cons_of_mem _ (List.mem_cons_of_mem _ (by simpa using hy))
 have hle : base ≤ B5 := Nat.le_trans hbase hB
 refine ⟨⟨h2.1.1, Joins.ownsRow_le h2.1.2.1 hle, fun i a b => Joins.ownsRow_le (h2.1.2.2 i a b) hle⟩, g1.2.1, g1.2.2.1, ?_⟩
 rw [List.pairwise_cons, List.pairwise_cons, List.pairwise_append]
 refine ⟨fun y hy => ?_, fun y hy => ?_, hp2.2.2, hp1.2.2, fun y hy z hz => ?_⟩
 ·simp only [List.mem_cons, List.mem_append] at hy
  rcases hy with rfl | hy | hy
  ·exact apart_new (hold sv (by simp)) (hnew _ (by simp))
  ·exact apart_new (hold sv (by simp)) (hnew _ (by simp [hy]))
  ·exact hp1.1 y (List.mem_cons_of_mem _ hy)
 ·rcases List.mem_append.1 hy with hy | hy
  ·exact hp2.2.1 y hy
  ·exact (apart_new (hold y (by simp [hy])) (hnew rv (by simp))).symm
 ·exact (apart_new (hold z (by simp [hz])) (hnew y (by simp [hy]))).symm
theorem sub_snoc (l : List Stil.Inst) (f j : Nat) (hf : f ≤ j) (h : j < l.length) : (l.drop f).take (j + 1 - f) = (l.drop f).take (j - f) ++ [l[j]] := by
 have e : j + 1 - f = (j - f) + 1 := by omega
 rw [e, List.take_succ_eq_append_getElem (by rw [List.length_drop]; omega), List.getElem_drop]
 congr 3
 omega
theorem insts_sub {W : World} {b o cap n : Nat} {l : List Stil.Inst} (hb : b < W.heap.size) (h : ∀ i (hi : i < l.length), InstAt W b (o + i * 3) l[i]) (f m : Nat) (hm : f + m ≤ l.length) (hn : n = m) : InstsAt W (.slice (some ⟨b, o + f * 3, none⟩) n cap) ((l.drop f).take m) := by
 subst hn
 have hlen : ((l.drop f).take n).length = n := by rw [List.length_take, List.length_drop]; omega
 refine ⟨_, cap, by rw [hlen], fun i hi => ⟨b, o + f * 3, rfl, hb, ?_⟩⟩
 rw [hlen] at hi
 have := h (f + i) (by omega)
 rw [List.getElem_take, List.getElem_drop]
 have e : o + f * 3 + i * 3 = o + (f + i) * 3 := by omega
 rw [e]; exact this
theorem s_sureRungs_ok (l : List Stil.Inst) (v : Value) (w : World) (hat : InstsAt w v l) (hl : l.length ≤ 1000) (hft : ∀ x ∈ l, x.fits) (hcap : ∀ a n c, v = .slice a n c → n ≤ c) (hok : (Stil.sureCheck l).1 = 0 ∧ (Stil.sureCheck l).2 = 0) :
  Calls Tryz.prog 36 #[v] w fun e w' => ∃ (sv : Value) (fin : List Rg), e = .returned sv ∧ Built w' w.heap.size sv (.slice none 0 0) [] [] fin ∧ fin.map (·.2.2) = Stil.rungsFrom [] l ∧ Below w.heap.size w w' := by
 obtain ⟨i1, hi1, hy0, hy1, hy2⟩ := info_parts info_Insts
 have hfw : ∀ (u0 u1 : Value) (w : World), (Instr.field 71 (.agg #[u0, u1]) 0).run Tryz.prog w = .ok u0 w := fun _ _ _ => by kernel_rfl
 have HF : Hid (∀ x ∈ l, x.fits) := hft
 have HSC : Hid (∀ W, Below w.heap.size w W → Calls Tryz.prog 35 #[v] W fun e w' => e = .returned (.agg #[.int .i64 0, .int .i64 0]) ∧ Below W.heap.size W w') := by
  intro W h
  have := s_sureCheck l v W (hat.below h) (by omega) hft
  rwa [hok.1, hok.2] at this
 obtain ⟨a, cap, rfl, hc⟩ := hat
 have hcp := hcap _ _ _ rfl
 have HC : Hid (∀ i (h : i < l.length), ∃ b o, a = some ⟨b, o, none⟩ ∧ b < w.heap.size ∧ InstAt w b (o + i * 3) l[i]) := hc
 obtain ⟨ln, hln⟩ : ∃ ln, ln = l.length := ⟨_, rfl⟩
 have HLN : Hid (ln = l.length) := hln
 rw [← hln] at hl HSC hcp ⊢
 clear hc hft hln hok hcap
 go_enter Tryz.func36, Tryz.ntmps36
 go_wp2_with (go_at_call 35; refine (HSC.out _ blA).mono ?_; rintro e w1 ⟨rfl, hb1⟩)
 go_loopw [3, 4, 5] (fun sv fv iv wr => ∃ (f j : Nat) (fin : List Rg) (sa : Option Addr) (sc : Nat), f ≤ j ∧ j ≤ ln ∧ sv = .slice sa fin.length sc ∧ fv = .int .i64 f ∧ iv = .int .i64 j ∧ fin.length ≤ j ∧ Built wr w.heap.size (.slice sa fin.length sc) (.slice none 0 0) [] [] fin ∧ Stil.rungsFrom [] l = fin.map (·.2.2) ++ Stil.rungsFrom ((l.drop f).take (j - f)) (l.drop j) ∧ Below w.heap.size w wr) (fun _ _ i _ => ln - (intOf i).toNat)
 case atStart =>
  have hown0 := ownsRow_below (World.ownsRow_lit (base := w.heap.size) (e := 32) (size := 1) w #[] 0 (Nat.le_refl _) (by unfold maxLen; omega) rfl) hb1
  refine ⟨0, 0, [], some ⟨w.heap.size, 0, none⟩, 0, by omega, by omega, rfl, rfl, rfl, by simp, ⟨⟨rfl, World.ownsRow_nil _ _ _ _, fun i hi => absurd hi (by simp)⟩, (fun f hf => by cases hf), hown0, ?_⟩, rfl, blA⟩
  simp only [List.nil_append, List.flatMap_nil, List.pairwise_cons, List.mem_singleton, forall_eq]
  exact ⟨(show Apart (.slice none 0 0) _ from .inl rfl).symm, by simp⟩
 case round =>
  clear hb1
  obtain ⟨f, j, fin, sa, sc, hfj, hj, rfl, rfl, rfl, hfl, hbt, hrf, hB⟩ := hrel
  have HBT : Hid (Built wr w.heap.size (.slice sa fin.length sc) (.slice none 0 0) [] [] fin) := hbt
  have HRF : Hid (Stil.rungsFrom [] l = fin.map (·.2.2) ++ Stil.rungsFrom ((l.drop f).take (j - f)) (l.drop j)) := hrf
  clear hbt hrf
  obtain ⟨nf, hnf⟩ : ∃ nf, nf = fin.length := ⟨_, rfl⟩
  have HNF : Hid (nf = fin.length) := hnf
  rw [← hnf] at HBT hfl ⊢
  clear hnf
  by_cases hlt : j < ln
  ·have hlt' : j < l.length := by have := HLN.out; omega
   obtain ⟨b, o, rfl, hbl, hn⟩ := HC.out j hlt'
   have HAT : Hid (∀ W, Below wr.heap.size wr W → ∀ i (hi : i < l.length), InstAt W b (o + i * 3) l[i]) := by
    intro W hW i hi
    obtain ⟨b1, o1, e1, hb1, h1⟩ := HC.out i hi
    simp only [Option.some.injEq, Addr.mk.injEq, and_true] at e1
    obtain ⟨rfl, rfl⟩ := e1
    exact (h1.below hB hb1).below hW (Nat.lt_of_lt_of_le hb1 hB.size)
   obtain ⟨x0, _, kav, _, _⟩ := hn.below hB hbl
   have hbr : b < wr.heap.size := Nat.lt_of_lt_of_le hbl hB.size
   have hst := Stil.rungsFrom_drop ((l.drop f).take (j - f)) l j hlt'
   rw [← sub_snoc l f j hfj hlt'] at hst
   rw [hst] at HRF
   obtain ⟨x, hx⟩ : ∃ x, x = l[j] := ⟨_, rfl⟩
   rw [← hx] at x0 HRF
   clear hx hn hst
   have HRF2 := HRF.out
   clear HRF
   by_cases hcode : x.code = 11
   ·rw [if_pos hcode] at HRF2
    rw [hcode] at x0
    have k1 : (0 : Int) ≤ (f : Int) := by omega
    have k2 : (f : Int) ≤ (j : Int) + 1 := by omega
    have k3 : (j : Int) + 1 ≤ (cap : Int) := by omega
    have k4 : ((j : Int) + 1).toNat = j + 1 := by omega
    obtain ⟨sub, hsub⟩ : ∃ sub, sub = (l.drop f).take (j + 1 - f) := ⟨_, rfl⟩
    have hsl : sub.length = j + 1 - f := by rw [hsub, List.length_take, List.length_drop]; omega
    have HSL : Hid (sub.length = j + 1 - f) := hsl
    have HCPY : Hid (Calls Tryz.prog 64 #[.slice (some ⟨b, o + f * 3, none⟩) (j + 1 - f) (cap - f)] wr fun e w' => ∃ (rv : Value) (us : List Value), e = .returned rv ∧ Built w' wr.heap.size (.slice none 0 0) rv us sub [] ∧ Below wr.heap.size wr w') := by
     refine s_l6Copy sub _ wr ?_ (by omega) (fun y hy => HF.out y ?_)
     ·rw [hsub]; exact insts_sub hbr (HAT.out wr (Below.refl _ _)) f (j + 1 - f) (by omega) rfl
     ·rw [hsub] at hy; exact List.mem_of_mem_drop (List.mem_of_mem_take hy)
    rw [← hsub] at HRF2
    obtain ⟨ys, hys⟩ : ∃ ys, ys = fin.map (·.1) := ⟨_, rfl⟩
    have HYS : Hid (ys = fin.map (·.1)) := hys
    have HOS : Hid (∀ V, Below wr.heap.size wr V → V.ownsRow w.heap.size 32 1 (.slice sa nf sc) nf ys) := by
     intro V hV
     have := ownsRow_below HBT.out.2.2.1 hV
     rw [← HNF.out, ← hys] at this
     exact this
    have hwr : w.heap.size ≤ wr.heap.size := hB.size
    have HRF4 : Hid (Stil.rungsFrom [] l = fin.map (·.2.2) ++ sub :: Stil.rungsFrom [] (l.drop (j + 1))) := HRF2
    clear hys hsub HRF2 hcode hsl
    go_wp2_with (first | (go_at_call 64; refine HCPY.out.mono ?_; rintro e w5 ⟨rv, us, rfl, hbt5, hb5⟩; obtain ⟨ra, rc, hrv⟩ := slice_of_owns hbt5.1.2.1; subst hrv; have hown5 := HOS.out w5 hb5; have HBJ : Hid (Built w5 w.heap.size (.slice sa nf sc) (.slice ra sub.length rc) us sub fin) := Built.join HBT.out hb5 hbt5 (Nat.le_refl _) hwr) | (at_builtin; refine wpList_append_own_at _ rfl _ _ 73 rfl w.heap.size 32 i1 (.slice none 0 0) 1 24 Tryz.underlying73 hi1 hy0 hy1 hy2 rfl (by decide) _ _ _ rfl (hown5.alloc _) ⟨w5.heap.size, 0, none⟩ 1 1 [.slice ra sub.length rc] rfl rfl (by exact cells1) (by intro u hu; simp at hu; subst hu; rfl) (by unfold maxLen; omega) (by omega) (by have := hb5.size; simp only [World.size_alloc]; omega) ?_))
    intro v7 w7 hown8 hgr8 _ hat8
    obtain ⟨a7, c7, hv7⟩ := slice_of_owns hown8
    subst hv7
    have HB8 : Hid (Built w7 w.heap.size (.slice a7 (nf + 1) c7) (.slice none 0 0) [] [] (fin ++ [((.slice ra sub.length rc, us, sub) : Rg)])) := by
     refine Built.close (HBJ.out.below (below_alloc _ _)) ?_ hgr8 (by rw [World.size_alloc]; exact hat8)
     rw [← HNF.out, ← HYS.out]
     exact hown8
    have hB5 : Below w.heap.size w w5 := hB.trans (hb5.mono hwr)
    have hB8 : Below w.heap.size w w7 := (bl_alloc hB5 _).grown hgr8 (by have := hB5.size; simp only [World.size_alloc]; omega) (fun k hk => (HBJ.out.2.2.1.lt k hk).1)
    clear hown8 hgr8 hat8 hown5 hbt5 hb5
    go_wp2
    refine ⟨⟨j + 1, j + 1, fin ++ [((.slice ra sub.length rc, us, sub) : Rg)], a7, c7, by omega, by omega, by simp [HNF.out], by go_num, by go_num, ?_, ?_, ?_, hB8⟩, by simp [intOf]; omega⟩
    ·simp only [List.length_append, List.length_cons, List.length_nil]; have := HNF.out; omega
    ·have := HB8.out
     rw [HNF.out] at this
     simpa using this
    ·rw [HRF4.out, Nat.sub_self]; simp
   ·rw [if_neg hcode] at HRF2
    have HRF3 : Hid (Stil.rungsFrom [] l = fin.map (·.2.2) ++ Stil.rungsFrom ((l.drop f).take (j + 1 - f)) (l.drop (j + 1))) := HRF2
    have e11 : (x.code == 11) = false := by rw [beq_eq_false_iff_ne]; exact hcode
    clear HRF2 hcode
    go_wp2
    refine ⟨⟨f, j + 1, fin, sa, sc, by omega, by omega, by rw [HNF.out], rfl, by go_num, by have := HNF.out; omega, ?_, HRF3.out, hB⟩, by simp [intOf]; omega⟩
    have := HBT.out
    rwa [HNF.out] at this
  ·have hend : Stil.rungsFrom ((l.drop f).take (j - f)) (l.drop j) = [] := by
    have e : l.drop j = [] := List.drop_of_length_le (by have := HLN.out; omega)
    rw [e]; rfl
   have HRF2 : Hid (Stil.rungsFrom [] l = fin.map (·.2.2)) := by show _ = _; rw [HRF.out, hend, List.append_nil]
   clear hend HRF
   go_wp2
   go_ret
   exact ⟨_, fin, rfl, HBT.out, HRF2.out.symm, hB⟩
theorem s_sureRungs_no (l : List Stil.Inst) (v : Value) (w : World) (hat : InstsAt w v l) (hl : l.length ≤ 1048576) (hft : ∀ x ∈ l, x.fits) (hbad : 0 < (Stil.sureCheck l).1) :
  Calls Tryz.prog 36 #[v] w fun e w' => e = .returned (.slice (some ⟨w.heap.size, 0, none⟩) 0 0) ∧ Below w.heap.size w w' := by
 have hfw : ∀ (u0 u1 : Value) (w : World), (Instr.field 71 (.agg #[u0, u1]) 0).run Tryz.prog w = .ok u0 w := fun _ _ _ => by kernel_rfl
 have HSC : Hid (∀ W, Below w.heap.size w W → Calls Tryz.prog 35 #[v] W fun e w' => e = .returned (.agg #[.int .i64 (Stil.sureCheck l).1, .int .i64 (Stil.sureCheck l).2]) ∧ Below W.heap.size W w') := fun W h => s_sureCheck l v W (hat.below h) hl hft
 obtain ⟨a, cap, rfl, _⟩ := hat
 obtain ⟨c1, hc1⟩ : ∃ c, c = (Stil.sureCheck l).1 := ⟨_, rfl⟩
 obtain ⟨c2, hc2⟩ : ∃ c, c = (Stil.sureCheck l).2 := ⟨_, rfl⟩
 rw [← hc1, ← hc2] at HSC
 rw [← hc1] at hbad
 clear hft hc1 hc2
 go_enter Tryz.func36, Tryz.ntmps36
 go_wp2_with (go_at_call 35; refine (HSC.out _ blA).mono ?_; rintro e w1 ⟨rfl, hb1⟩)
 go_ret
 exact ⟨rfl, blA⟩
end Go.Proofs.YtpaljcoojkbhnaaGreatDoor
/- SureRungs of the program and of the specification, verified or not: one contract each. -/
namespace Stil
theorem sureRungs_fits {l : List Inst} (hf : ∀ x ∈ l, x.fits) : (∀ r ∈ sureRungs l, (∀ x ∈ r, x.fits) ∧ r.length ≤ 1000) ∧ (sureRungs l).length ≤ 1000 := by
 unfold sureRungs
 split
 ·exact ⟨(fun r hr => by cases hr), by simp⟩
 ·rename_i h
  have hl := sureCheck_len (sureCheck_zero l h).1
  refine ⟨fun r hr => ?_, Nat.le_trans (rungsFrom_len l []) hl⟩
  obtain ⟨_, h2, h3⟩ := rungsFrom_mem l [] r hr
  refine ⟨fun x hx => ?_, by simp at h3; omega⟩
  rcases h2 x hx with h | h
  ·cases h
  ·exact hf x h
end Stil
namespace Go.Proofs.YtpaljcoojkbhnaaGreatDoor
open Go.RowKit Go.Sort Go.BigFrame
theorem s_sureRungs (l : List Stil.Inst) (v : Value) (w : World) (hat : InstsAt w v l) (hl : l.length ≤ 1048576) (hft : ∀ x ∈ l, x.fits) (hcap : ∀ a n c, v = .slice a n c → n ≤ c) :
  Calls Tryz.prog 36 #[v] w fun e w' => ∃ (a : Option Addr) (cap : Nat), e = .returned (.slice a (Stil.sureRungs l).length cap) ∧ InstssFrom w.heap.size w' (.slice a (Stil.sureRungs l).length cap) (Stil.sureRungs l) ∧ Below w.heap.size w w' := by
 by_cases hbad : 0 < (Stil.sureCheck l).1
 ·refine (s_sureRungs_no l v w hat hl hft hbad).mono ?_
  rintro e w1 ⟨rfl, hb⟩
  have e0 : Stil.sureRungs l = [] := by unfold Stil.sureRungs; rw [if_pos hbad]
  rw [e0]
  exact ⟨_, 0, rfl, ⟨_, 0, rfl, fun i hi => absurd hi (by simp)⟩, hb⟩
 ·have hok := Stil.sureCheck_zero l hbad
  have hlen := Stil.sureCheck_len hok.1
  have e0 : Stil.sureRungs l = Stil.rungsFrom [] l := by unfold Stil.sureRungs; rw [if_neg hbad]
  rw [e0]
  refine (s_sureRungs_ok l v w hat hlen hft hcap hok).mono ?_
  rintro e w1 ⟨sv, fin, rfl, hbt, hfin, hb⟩
  have hfr := built_from hbt
  rw [hfin] at hfr
  have hfr2 := hfr
  obtain ⟨a, cap, rfl, _⟩ := hfr2
  exact ⟨a, cap, rfl, hfr, hb⟩
end Go.Proofs.YtpaljcoojkbhnaaGreatDoor
