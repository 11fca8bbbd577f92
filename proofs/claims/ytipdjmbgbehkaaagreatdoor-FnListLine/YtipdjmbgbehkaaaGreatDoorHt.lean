/- D42b, D44: texts put together. -/
import Derived.Test.YtipdjmbgbehkaaaGreatDoorHm
import Derived.Test.YtipdjmbgbehkaaaGreatDoorHu
import Derived.Test.YtipdjmbgbehkaaaGreatDoorLWS
import Derived.Test.YtipdjmbgbehkaaaGreatDoorGH
/- Contracts of the specification's draws: a list spoilt somewhere, whatever the number of operands. -/
namespace Go.Proofs.YtipdjmbgbehkaaaGreatDoor
open Go.RowKit Go.Sort Go.BigFrame
theorem ListSt.listG {q : Nat} {w W : World} {g P n : Nat} {v : Value} (h : ListSt q w W g P v n) (hw : g < w.heap.size) : ListOut q (.returned v) w W g P n ∧ w.grownBy W (some g) := ⟨h.list hw, h.gr⟩
set_option maxHeartbeats 4000000 in
set_option maxRecDepth 100000 in
theorem s_l5SpoilQ (q g P : Nat) (hq3 : 3 ≤ q) (hq9 : q ≤ 9) (w : World) (l : List Stil.Inst) (v : Value) (hr : RdAt w g P) (hv : InstsIn (fun b => g < b) w v l) (ht : ∀ i ∈ l, ITame i ∧ i.one.args.length ≤ q) (hn : l.length ≤ 80000) (hP : P ≤ 50000000) :
    Calls Tryz.prog 51 #[.pointer (some ⟨g, 0, none⟩), v] w fun e w' => ListOut (q + 1) e w w' g (P + 4000) 84000 ∧ w.grownBy w' (some g) := by
  have hg := rd_lt hr
  obtain ⟨a1, c1, rfl, -⟩ := id hv
  have HV : Hid (InstsIn (fun b => g < b ∧ b < w.heap.size) w (.slice a1 l.length c1) l) := hv.mono fun b h1 h2 => ⟨h2, h1⟩
  have HT : Hid (∀ i ∈ l, ITame i ∧ i.one.args.length ≤ q) := ht
  have HR : Hid (RdAt w g P) := hr
  clear hv ht hr
  go_enter Tryz.func51, Tryz.ntmps51
  go_upto_if 15 with (at_builtin; refine wpList_copy_insts rfl _ _ rfl (fun b => g < b ∧ b < w.heap.size) w l (.slice a1 l.length c1) rfl rfl rfl HV.out (by omega) ?_; intro bb cc w3 xs hown hrow hbb1 hbb2 hgr3)
  have HST3 : Hid (ListSt q w w3 g P (.slice (some ⟨bb, 0, none⟩) l.length cc) l.length) := list_copied HR.out HT.out hown hrow hbb1 hgr3
  have hcc : l.length ≤ cc := by
    obtain ⟨a', c', hv, hcap, -⟩ := own_open hown
    injection hv with h1 h2 h3
    subst h3
    exact hcap.1
  clear HV HT HR hown hrow hgr3
  have hgz3 : g < w3.heap.size := by omega
  by_cases hl0 : l.length = 0
  · have hl1 : ((l.length : Int) == 0) = true := by rw [hl0]; rfl
    clear hl0
    go_wp2_with (first | (go_at_call 47; refine (s_l5Inst g _ _ HST3.out.rd (by omega)).mono ?_; rintro e w4 ⟨i, av, rfl, hav, hti, hli, hrd4, hgr4⟩; have HST4 : Hid (ListSt q w w4 g (P + 200) (.slice (some ⟨bb, 0, none⟩) l.length cc) l.length) := HST3.out.grown hgr4 hg (rd_mono hrd4 (by omega)); have HAV : Hid (DevsIn (Off g (.slice (some ⟨bb, 0, none⟩) l.length cc)) w4 av i.one.args) := hav.mono (fun b _ hb => (by exact ⟨by omega, by simp [Value.ownBlock]; omega⟩)); obtain ⟨ai, ci, rfl, -⟩ := id hav) | (at_builtin; refine wpList_grow_insts rfl _ _ rfl w _ g _ _ (.slice (some ⟨bb, 0, none⟩) l.length cc) rfl (HST4.out.below (below_alloc _ _) hg) hg [i] _ _ _ [.int .i64 i.code, .int .i64 i.one.op, .slice ai i.one.args.length ci] rfl rfl (RowOf.one rfl ⟨_, rfl, HAV.out.keep (KeepsIn.of_below (below_alloc _ _))⟩) (by exact cells_new _ _ _ _ (by simp)) (by intro u hu; simp at hu; rcases hu with rfl | rfl | rfl <;> rfl) (by intro j hj; rw [List.mem_singleton.1 hj]; exact ⟨hti, by omega⟩) (by simp; omega) ?_; intro v6 w6 hst6 hheld6))
    go_ret
    exact ((hst6.wide (by omega)).later (by omega) (by simp; omega)).listG hg
  · have hl1 : ((l.length : Int) == 0) = false := by rw [beq_eq_false_iff_ne]; omega
    go_upto_region 7 with (first | (go_at_call_of 35 (l.length : Nat); refine (s_pick g _ _ _ HST3.out.rd (by omega) (by omega) (by omega)).mono ?_; rintro e w4 ⟨k0, rfl, hk0, hk1, hrd4, hgr4⟩; have HST4 : Hid (ListSt q w w4 g (P + 1) (.slice (some ⟨bb, 0, none⟩) l.length cc) l.length) := HST3.out.grown hgr4 hg hrd4; have hs4 := hgr4.size; obtain ⟨k, hke⟩ := Int.eq_ofNat_of_zero_le hk0; subst hke) | (go_at_call 35; refine (s_pick g _ _ _ HST4.out.rd (by omega) (by omega) (by omega)).mono ?_; rintro e w5 ⟨x, rfl, hx0, hx1, hrd5, hgr5⟩; have HST5 : Hid (ListSt q w w5 g (P + 2) (.slice (some ⟨bb, 0, none⟩) l.length cc) l.length) := HST4.out.grown hgr5 hg hrd5; have hs5 := hgr5.size))
    have hk : k < l.length := by omega
    clear HST3 HST4 hrd4 hgr4 hrd5 hgr5
    have hxx : x = 0 ∨ x = 1 ∨ x = 2 ∨ x = 3 ∨ x = 4 ∨ x = 5 ∨ x = 6 ∨ x = 7 ∨ x = 8 := by omega
    clear hx0 hx1
    obtain ⟨ek, ae, ce, ⟨q0, q1, q2⟩, ⟨p0, p1, p2⟩, hde, hte, hbz, hlb⟩ := HST5.out.at hk
    rcases hxx with rfl | rfl | rfl | rfl | rfl | rfl | rfl | rfl | rfl
    · clear q0 q1 q2 p0 p1 p2 hde hte hbz hlb
      have hwk : IntKind.i64.wrap ((k : Int) + 1) = ((k + 1 : Nat) : Int) := by rw [IntKind.wrap_i64]; omega
      obtain ⟨es, news, hel, hes, hcl, h1c, htm⟩ := HST5.out.behind (k := k + 1) hk
      have HCUT : Hid (ListSt q w w5 g (P + 2) (.slice (some ⟨bb, 0, none⟩) k cc) k) := HST5.out.cut (Nat.le_of_lt hk)
      have HES : Hid (RowOf 3 (InstC (Off g (.slice (some ⟨bb, 0, none⟩) k cc)) w5) news es) := hes.imp fun _ _ _ h => h.mono fun b _ hb => ⟨hb.1, hb.2⟩
      clear hes
      have hnl : news.length = es.length * 3 := HES.out.1
      have hne : k + 1 = cc → news = [] := fun h => List.eq_nil_of_length_eq_zero (by omega)
      go_upto_region 8 with fail
      have hkc : k ≤ cc := by omega
      have hkl : k + 1 ≤ l.length := hk
      have hki : ((k : Int) + 1).toNat = k + 1 := by omega
      have hka : (k : Int) ≤ (k : Int) + 1 := by omega
      have hkb : (0 : Int) ≤ (k : Int) + 1 := by omega
      have hkd : (k : Int) + 1 ≤ (l.length : Int) := by omega
      by_cases hcz : cc = k + 1
      · have hn0 := hne hcz.symm
        subst hn0
        subst hcz
        go_region_law fail
        all_goals
          go_wp2
          go_ret
          exact (((HCUT.out.below (by (repeat (first | with_reducible exact Below.refl _ _ | with_reducible assumption | with_reducible refine bl_set (by first | exact Nat.le_refl _ | (simp; done) | (simp; omega) | omega) ?_ _ | with_reducible refine bl_alloc ?_ _ | with_reducible refine bl_drewN ?_ _ | with_reducible refine bl_drew ?_ | with_reducible refine bl_grow ?_ _ _ | with_reducible refine bl_call ?_ (by assumption)))) hg).wide (by omega)).later (by omega) (by omega)).listG hg
      · have hkc2 : k + 1 ≤ cc := by omega
        go_region_law (refine step_grow_insts rfl _ _ rfl w _ g _ _ (.slice (some ⟨bb, 0, none⟩) k cc) (by go_simp) (HCUT.out.below (by (repeat (first | with_reducible exact Below.refl _ _ | with_reducible assumption | with_reducible refine bl_set (by first | exact Nat.le_refl _ | (simp; done) | (simp; omega) | omega) ?_ _ | with_reducible refine bl_alloc ?_ _ | with_reducible refine bl_drewN ?_ _ | with_reducible refine bl_drew ?_ | with_reducible refine bl_grow ?_ _ _ | with_reducible refine bl_call ?_ (by assumption)))) hg) hg es ⟨bb, (k + 1) * 3, none⟩ (l.length - (k + 1)) (cc - (k + 1)) news (by omega) (by go_simp) (HES.out.imp fun _ _ _ h => h.keep (KeepsIn.of_below (by (repeat (first | with_reducible exact Below.refl _ _ | with_reducible assumption | with_reducible refine bl_set (by first | exact Nat.le_refl _ | (simp; done) | (simp; omega) | omega) ?_ _ | with_reducible refine bl_alloc ?_ _ | with_reducible refine bl_drewN ?_ _ | with_reducible refine bl_drew ?_ | with_reducible refine bl_grow ?_ _ _ | with_reducible refine bl_call ?_ (by assumption)))))) (by exact hcl) h1c htm (by omega) ?_; intro v6 w6 hst6 hheld6)
        all_goals
          go_wp2
          go_ret
          exact ((hst6.wide (by omega)).later (by omega) (by omega)).listG hg
    · clear q0 q1 q2 p0 p1 p2 hde hte hbz hlb
      have hkc : k ≤ cc := by omega
      have hkl : k ≤ l.length := by omega
      have hkn : (0 : Int) ≤ (k : Int) := by omega
      obtain ⟨es1, news1, hel1, htl1, h1c1, htm1⟩ := (HST5.out.cut hkl).tail (k := 0) hg (Nat.zero_le _)
      obtain ⟨es2, news2, hel2, htl2, h1c2, htm2⟩ := HST5.out.tail hg hkl
      have hlen1 : k = es1.length := by omega
      have hlen2 : l.length - k = es2.length := by omega
      have HT1 : Hid (Tail g w5.heap.size (w5.drew.alloc (.cells #[] 31)) bb 0 es1 news1) := (htl1.grown (r := none) (grown_below (Below.refl _ _).drew _) (fun _ h => by cases h)).grown (grown_below (below_alloc _ _) none) (fun _ h => by cases h)
      have HT2 : Hid (Tail g w5.heap.size (w5.drew.alloc (.cells #[] 31)) bb (k * 3) es2 news2) := (htl2.grown (r := none) (grown_below (Below.refl _ _).drew _) (fun _ h => by cases h)).grown (grown_below (below_alloc _ _) none) (fun _ h => by cases h)
      have HNEW : Hid (ListSt q w (w5.drew.alloc (.cells #[] 31)) g (P + 2) (.slice (some ⟨w5.heap.size, 0, none⟩) 0 0) 0) := list_fresh (D := w5.drew) (HST5.out.below (Below.refl _ _).drew hg).rd (grown_trans HST5.out.gr (grown_below (Below.refl _ _).drew _))
      have HL1 : Hid (k = es1.length) := hlen1
      have HL2 : Hid (l.length - k = es2.length) := hlen2
      clear htl1 htl2 hel1 hel2 HST5 hlen1 hlen2
      go_upto_region 10 with fail
      go_region_law (first
        | (refine step_grow_insts rfl _ _ rfl w _ g _ _ v8 (by go_simp) hst8 hg es2 ⟨bb, k * 3, none⟩ (l.length - k) (cc - k) news2 HL2.out (by go_simp; omega) (HT28.out.row hlo8) HT28.out.2.2 h1c2 htm2 (by have := HL1.out; have := HL2.out; simp; omega) ?_; intro v9 w9 hst9 hheld9)
        | (refine step_grow_more rfl _ _ rfl w _ g _ _ v6 (by go_simp) (HST7.out.below (below_alloc _ _) hg) hg [i] ⟨w7.heap.size, 0, none⟩ 1 1 [.int .i64 i.code, .int .i64 i.one.op, .slice ai i.one.args.length ci] rfl (by go_simp) (RowOf.one rfl ⟨_, rfl, HAV.out.keep (KeepsIn.of_below (below_alloc _ _))⟩) (by exact cells_new _ _ _ _ (by simp)) (by intro u hu; simp at hu; rcases hu with rfl | rfl | rfl <;> rfl) (by intro j hj; rw [List.mem_singleton.1 hj]; exact ⟨hti, by omega⟩) (by have := HL1.out; simp; omega) ?_; intro v8 w8 hst8 hgr8 hob8; have HT28 : Hid (Tail g w5.heap.size w8 bb (k * 3) es2 news2) := ((HT27.out.grown (grown_below (below_alloc _ _) none) (fun _ h => by cases h)).grown hgr8 (fun j hj => Or.inr (hlo6 j hj))); have hlo8 : ∀ c, v8.ownBlock = some c → w5.heap.size ≤ c := (fun c hc => by rcases hob8 with h | h; (rw [h] at hc; exact hlo6 c hc); (rw [h] at hc; simp at hc; omega)))
        | (go_simp; go_at_call 47; refine (s_l5Inst g _ _ HST6.out.rd (by omega)).mono ?_; rintro e w7 ⟨i, av, rfl, hav, hti, hli, hrd7, hgr7⟩; have HST7 : Hid (ListSt q w w7 g (P + 200) v6 (0 + es1.length)) := HST6.out.grown hgr7 hg (rd_mono hrd7 (by omega)); have HT27 : Hid (Tail g w5.heap.size w7 bb (k * 3) es2 news2) := HT26.out.grown hgr7 (fun j hj => Or.inl (by simp at hj; omega)); have HAV : Hid (DevsIn (Off g v6) w7 av i.one.args) := hav.mono (fun b _ hb => (by exact ⟨by omega, fun e => by have := (HST6.out.own b e).2; omega⟩)); have hs7 := hgr7.size; obtain ⟨ai, ci, rfl, -⟩ := id hav)
        | (refine step_grow_more rfl _ _ rfl w _ g _ _ (.slice (some ⟨w5.heap.size, 0, none⟩) 0 0) (by go_simp) HNEW.out hg es1 ⟨bb, 0, none⟩ k cc news1 HL1.out (by go_simp) (HT1.out.row (fun c hc => by simp [Value.ownBlock] at hc; omega)) HT1.out.2.2 h1c1 htm1 (by have := HL1.out; omega) ?_; intro v6 w6 hst6 hgr6 hob6; have HST6 : Hid (ListSt q w w6 g (P + 2) v6 (0 + es1.length)) := hst6; have hs6 : w5.heap.size < w6.heap.size := (by have := hgr6.size; simp at this; omega); have HT26 : Hid (Tail g w5.heap.size w6 bb (k * 3) es2 news2) := HT2.out.grown hgr6 (fun j hj => Or.inr (by simp [Value.ownBlock] at hj; omega)); have hlo6 : ∀ c, v6.ownBlock = some c → w5.heap.size ≤ c := (fun c hc => by rcases hob6 with h | h; (rw [h] at hc; simp [Value.ownBlock] at hc; omega); (rw [h] at hc; simp at hc; omega))))
      all_goals
        have e1 := HL1.out
        have e2 := HL2.out
        go_wp2
        go_ret
        exact ((hst9.wide (by omega)).later (by omega) (by simp; omega)).listG hg
    · clear q0 q1 q2 p0 p1 p2 hde hte hbz hlb
      go_wp2_with (go_at_call 47; refine (s_l5Inst g _ _ HST5.out.rd (by omega)).mono ?_; rintro e w6 ⟨i, av, rfl, hav, hti, hli, hrd6, hgr6⟩; have HST6 : Hid (ListSt q w w6 g (P + 200) (.slice (some ⟨bb, 0, none⟩) l.length cc) l.length) := HST5.out.grown hgr6 hg (rd_mono hrd6 (by omega)); have HAV : Hid (DevsIn (Off g (.slice (some ⟨bb, 0, none⟩) l.length cc)) w6 av i.one.args) := hav.mono (fun b _ hb => (by exact ⟨by omega, by simp [Value.ownBlock]; omega⟩)); obtain ⟨ai, ci, rfl, -⟩ := id hav; obtain ⟨ek, ae, ce, ⟨q0, q1, q2⟩, ⟨p0, p1, p2⟩, hde, hte, hbz, hlb⟩ := HST6.out.at hk)
      go_ret
      exact (((HST6.out.store (e := i) hg hk HAV.out ⟨hti, by omega⟩).wide (by omega)).later (by omega) (by omega)).listG hg
    · clear q0 q1 q2 p0 p1 p2 hde hte hbz hlb
      go_wp2_with (go_at_call 35; refine (s_pick g _ _ _ HST5.out.rd (by omega) (by omega) (by omega)).mono ?_; rintro e w6 ⟨z, rfl, hz0, hz1, hrd6, hgr6⟩; have HST6 : Hid (ListSt q w w6 g (P + 3) (.slice (some ⟨bb, 0, none⟩) l.length cc) l.length) := HST5.out.grown hgr6 hg hrd6; obtain ⟨ek, ae, ce, ⟨q0, q1, q2⟩, ⟨p0, p1, p2⟩, hde, hte, hbz, hlb⟩ := HST6.out.at hk; have hwz : IntKind.i64.wrap (z - 1) = z - 1 := (by rw [IntKind.wrap_i64]; omega))
      go_ret
      exact (((HST6.out.code hg hk (by omega)).wide (by omega)).later (by omega) (by omega)).listG hg
    · have HDE : Hid (ElArgs w5 g (.slice ae ek.one.args.length ce) ek.one.args) := el_of_off hde
      have HTE : Hid (ITame ek ∧ ek.one.args.length ≤ q) := hte
      obtain ⟨⟨-, htop, hts, -⟩, hlk⟩ := hte
      go_wp2_with (go_at_call 77; refine (s_l2Spoil g _ _ _ _ _ HST5.out.rd (by omega) htop HDE.out hts (by omega)).mono ?_; rintro e w6 ⟨op, av, ds, rfl, hop, hav, hsd, hdl, hrd6, hgr6⟩; have HST6 : Hid (ListSt q w w6 g (P + 200) (.slice (some ⟨bb, 0, none⟩) l.length cc) l.length) := HST5.out.grown hgr6 hg (rd_mono hrd6 (by omega)); clear q0 q1 q2 p0 p1 p2 hde hbz hlb; obtain ⟨ek6, ae, ce, ⟨q0, q1, q2⟩, ⟨p0, p1, p2⟩, hde, hte, hbz, hlb⟩ := HST6.out.at hk; have HAV : Hid (DevsIn (Off g (.slice (some ⟨bb, 0, none⟩) l.length cc)) w6 av ds) := (devs_of_el hav).mono (fun b _ hb => (by exact ⟨by omega, by simp [Value.ownBlock]; omega⟩)); obtain ⟨ai, ci, rfl, -⟩ := id hav)
      go_ret
      exact (((HST6.out.wide (q' := q + 1) (by omega)).one (o := ⟨op, ds⟩) hg hk HAV.out ⟨⟨hop, hsd, by simp only; omega⟩, by simp only; omega⟩).later (by omega) (by omega)).listG hg
    · go_wp2
      go_ret
      exact (((HST5.out.cut (Nat.le_of_lt hk)).wide (by omega)).later (by omega) (by omega)).listG hg
    · have HDE : Hid (DevsIn (Off g (.slice (some ⟨bb, 0, none⟩) l.length cc)) w5 (.slice ae ek.one.args.length ce) ek.one.args) := hde
      have HTE : Hid (ITame ek ∧ ek.one.args.length ≤ q) := hte
      have hz5 := rd_lt HST5.out.rd
      have hz6 : bb < w5.heap.size := (HST5.out.own bb rfl).2
      clear hde hte
      go_wp2
      go_loopw [5] (fun o wr => ∃ (a0 : Option Addr) (m c0 : Nat), o = .slice a0 m c0 ∧ l.length ≤ m ∧ (m = l.length ∨ m ≤ 1001) ∧ ListSt q w wr g (P + 2 + (m - l.length)) (.slice a0 m c0) m ∧ HeldI wr g (.slice a0 m c0) w5.heap.size ek) (fun o _ => 1002 - lenOf o)
      case atStart => exact ⟨_, l.length, cc, rfl, Nat.le_refl _, Or.inl rfl, (HST5.out.below (below_alloc _ _) hg).later (by omega) (Nat.le_refl _), HeldI.new HDE.out hz5 (fun b hb => by simp [Value.ownBlock] at hb; omega)⟩
      case round =>
        clear HST5 HDE q0 q1 q2 p0 p1 p2 hbz hlb
        obtain ⟨a0, m, c0, rfl, hm1, hm2, hst, hh⟩ := hrel
        have HSJ : Hid (ListSt q w wr g (P + 2 + (m - l.length)) (.slice a0 m c0) m) := hst
        have HHJ : Hid (HeldI wr g (.slice a0 m c0) w5.heap.size ek) := hh
        clear hst hh
        go_upto_if 103 with (go_at_call 35; refine (s_pick g _ _ _ HSJ.out.rd (by omega) (by omega) (by omega)).mono ?_; rintro e w6 ⟨z, rfl, hz0, hz1, hrd6, hgr6⟩; have HS6 : Hid (ListSt q w w6 g (P + 2 + (m - l.length) + 1) (.slice a0 m c0) m) := HSJ.out.grown hgr6 hg hrd6; have HH6 : Hid (HeldI w6 g (.slice a0 m c0) w5.heap.size ek) := HHJ.out.grown hgr6; have hwz : IntKind.i64.wrap (1000 + z) = 1000 + z := (by rw [IntKind.wrap_i64]; omega))
        clear HSJ HHJ hrd6 hgr6
        by_cases hlt : (m : Int) < 1000 + z
        · obtain ⟨hzl, al, cl, l0, l1, l2, hdl⟩ := HH6.out.cells
          go_wp2_with (at_builtin; refine wpList_grow_len rfl _ _ rfl w _ g _ _ a0 m c0 rfl (HS6.out.below (below_alloc _ _) hg) hg ek _ _ [Value.int .i64 ek.code, .int .i64 ek.one.op, .slice al ek.one.args.length cl] rfl (RowOf.one rfl ⟨_, rfl, hdl.keep (KeepsIn.of_below (below_alloc _ _))⟩) (by exact cells_new _ _ _ _ (by simp)) (by intro u hu; simp at hu; rcases hu with rfl | rfl | rfl <;> rfl) HTE.out (by omega) ?_; intro a7 c7 w7 hst7 hheld7)
          go_roundw
          case rel => exact ⟨a7, m + 1, c7, rfl, by omega, by omega, hst7.later (by omega) (Nat.le_refl _), hheld7 _ _ (HH6.out.below (below_alloc _ _))⟩
          case measure => simp [lenOf]; omega
        · go_wp2
          go_ret
          exact ((HS6.out.wide (by omega)).later (by omega) (by omega)).listG hg
    · clear q0 q1 q2 p0 p1 p2 hde hte hbz hlb
      go_upto_region 25 with (go_at_call_of 35 (l.length : Nat); refine (s_pick g _ _ _ HST5.out.rd (by omega) (by omega) (by omega)).mono ?_; rintro e w6 ⟨z, rfl, hz0, hz1, hrd6, hgr6⟩; have HST6 : Hid (ListSt q w w6 g (P + 3) (.slice (some ⟨bb, 0, none⟩) l.length cc) l.length) := HST5.out.grown hgr6 hg hrd6; have hs6 := hgr6.size; obtain ⟨j, hje⟩ := Int.eq_ofNat_of_zero_le hz0; subst hje)
      have hj : j < l.length := by omega
      clear HST5 hrd6 hgr6
      obtain ⟨ek, ae, ce, ⟨q0, q1, q2⟩, ⟨p0, p1, p2⟩, hde, hte, hbz, hlb⟩ := HST6.out.at hk
      obtain ⟨ej, aj, cj, ⟨r0, r1, r2⟩, ⟨s0, s1, s2⟩, hdj, htj, -, -⟩ := HST6.out.at hj
      go_upto_region 26 with fail
      have HST7 : Hid (ListSt q w (w6.alloc (.cells #[.int .i64 ek.code, .int .i64 ek.one.op, .slice ae ek.one.args.length ce] 31)) g (P + 3) (.slice (some ⟨bb, 0, none⟩) l.length cc) l.length) := HST6.out.below (below_alloc _ _) hg
      have HDK : Hid (DevsIn (Off g (.slice (some ⟨bb, 0, none⟩) l.length cc)) (w6.alloc (.cells #[.int .i64 ek.code, .int .i64 ek.one.op, .slice ae ek.one.args.length ce] 31)) (.slice ae ek.one.args.length ce) ek.one.args) := hde.keep (KeepsIn.of_below (below_alloc _ _))
      have HDJ : Hid (DevsIn (Off g (.slice (some ⟨bb, 0, none⟩) l.length cc)) (w6.alloc (.cells #[.int .i64 ek.code, .int .i64 ek.one.op, .slice ae ek.one.args.length ce] 31)) (.slice aj ej.one.args.length cj) ej.one.args) := hdj.keep (KeepsIn.of_below (below_alloc _ _))
      have v0 : (w6.alloc (.cells #[.int .i64 ek.code, .int .i64 ek.one.op, .slice ae ek.one.args.length ce] 31)).cell? ⟨w6.heap.size, 0, none⟩ = some (.int .i64 ek.code) := by simp [go_sem]
      have v1 : (w6.alloc (.cells #[.int .i64 ek.code, .int .i64 ek.one.op, .slice ae ek.one.args.length ce] 31)).cell? ⟨w6.heap.size, 1, none⟩ = some (.int .i64 ek.one.op) := by simp [go_sem]
      have v2 : (w6.alloc (.cells #[.int .i64 ek.code, .int .i64 ek.one.op, .slice ae ek.one.args.length ce] 31)).cell? ⟨w6.heap.size, 2, none⟩ = some (.slice ae ek.one.args.length ce) := by simp [go_sem]
      have hbi : bb ≠ w6.heap.size := by omega
      have HTK : Hid (ITame ek ∧ ek.one.args.length ≤ q) := hte
      have HTJ : Hid (ITame ej ∧ ej.one.args.length ≤ q) := htj
      clear q0 q1 q2 p0 p1 p2 r0 r1 r2 s0 s1 s2 hde hdj HST6 hte htj
      obtain ⟨w7, hw7⟩ : ∃ w7, w7 = w6.alloc (.cells #[.int .i64 ek.code, .int .i64 ek.one.op, .slice ae ek.one.args.length ce] 31) := ⟨_, rfl⟩
      rw [← hw7] at HST7 HDK HDJ v0 v1 v2 ⊢
      obtain ⟨iv, hiv⟩ : ∃ iv, iv = w6.heap.size := ⟨_, rfl⟩
      rw [← hiv] at v0 v1 v2 hbi ⊢
      clear hw7 hiv
      obtain ⟨ek7, ak7, ck7, ⟨q0, q1, q2⟩, ⟨p0, p1, p2⟩, -, -, hbz7, -⟩ := HST7.out.at hk
      clear HDJ HTJ
      obtain ⟨ej7, aj7, cj7, ⟨r0, r1, r2⟩, ⟨s0, s1, s2⟩, hdj7, htj7, -, -⟩ := HST7.out.at hj
      go_upto_region 27 with fail
      have HST8 := HST7.out.store (e := ej7) hg hk hdj7 htj7
      have HKP : KeepsIn (Off g (.slice (some ⟨bb, 0, none⟩) l.length cc)) w7 (((w7.setCell ⟨bb, k * 3, none⟩ (.int .i64 ej7.code)).setCell ⟨bb, k * 3 + 1, none⟩ (.int .i64 ej7.one.op)).setCell ⟨bb, k * 3 + 2, none⟩ (.slice aj7 ej7.one.args.length cj7)) := ((KeepsIn.set (fun h => h.2 rfl) _).trans (KeepsIn.set (fun h => h.2 rfl) _)).trans (KeepsIn.set (fun h => h.2 rfl) _)
      have HD8 := HDK.out.keep HKP
      clear HKP
      have HST9 := HST8.store (e := ek) hg hj HD8 HTK.out
      have v3 : (((w7.setCell ⟨bb, k * 3, none⟩ (.int .i64 ej7.code)).setCell ⟨bb, k * 3 + 1, none⟩ (.int .i64 ej7.one.op)).setCell ⟨bb, k * 3 + 2, none⟩ (.slice aj7 ej7.one.args.length cj7)).cell? ⟨iv, 0, none⟩ = some (.int .i64 ek.code) := (cell_set_other (Ne.symm hbi)).trans ((cell_set_other (Ne.symm hbi)).trans ((cell_set_other (Ne.symm hbi)).trans v0))
      have v4 : (((w7.setCell ⟨bb, k * 3, none⟩ (.int .i64 ej7.code)).setCell ⟨bb, k * 3 + 1, none⟩ (.int .i64 ej7.one.op)).setCell ⟨bb, k * 3 + 2, none⟩ (.slice aj7 ej7.one.args.length cj7)).cell? ⟨iv, 1, none⟩ = some (.int .i64 ek.one.op) := (cell_set_other (Ne.symm hbi)).trans ((cell_set_other (Ne.symm hbi)).trans ((cell_set_other (Ne.symm hbi)).trans v1))
      have v5 : (((w7.setCell ⟨bb, k * 3, none⟩ (.int .i64 ej7.code)).setCell ⟨bb, k * 3 + 1, none⟩ (.int .i64 ej7.one.op)).setCell ⟨bb, k * 3 + 2, none⟩ (.slice aj7 ej7.one.args.length cj7)).cell? ⟨iv, 2, none⟩ = some (.slice ae ek.one.args.length ce) := (cell_set_other (Ne.symm hbi)).trans ((cell_set_other (Ne.symm hbi)).trans ((cell_set_other (Ne.symm hbi)).trans v2))
      clear q0 q1 q2 p0 p1 p2 r0 r1 r2 s0 s1 s2 v0 v1 v2
      obtain ⟨W8, hW8⟩ : ∃ W8, W8 = ((w7.setCell ⟨bb, k * 3, none⟩ (.int .i64 ej7.code)).setCell ⟨bb, k * 3 + 1, none⟩ (.int .i64 ej7.one.op)).setCell ⟨bb, k * 3 + 2, none⟩ (.slice aj7 ej7.one.args.length cj7) := ⟨_, rfl⟩
      rw [← hW8] at HST8 HST9 v3 v4 v5 ⊢
      clear hW8 HD8
      obtain ⟨ek8, ak8, ck8, ⟨q0, q1, q2⟩, ⟨p0, p1, p2⟩, -, -, -, -⟩ := HST8.at hj
      go_wp2
      go_ret
      exact ((HST9.wide (by omega)).later (by omega) (by omega)).listG hg
    · clear q0 q1 q2 p0 p1 p2 hde hte hbz hlb
      go_wp2_with (go_at_call 48; refine (s_l2Any g _ _ HST5.out.rd (by omega)).mono ?_; rintro e w6 ⟨op, av, ds, rfl, hop, hav, hsd, hdl, hrd6, hgr6⟩; have HST6 : Hid (ListSt q w w6 g (P + 200) (.slice (some ⟨bb, 0, none⟩) l.length cc) l.length) := HST5.out.grown hgr6 hg (rd_mono hrd6 (by omega)); obtain ⟨ek, ae, ce, ⟨q0, q1, q2⟩, ⟨p0, p1, p2⟩, hde, hte, hbz, hlb⟩ := HST6.out.at hk; have HAV : Hid (DevsIn (Off g (.slice (some ⟨bb, 0, none⟩) l.length cc)) w6 av ds) := (devs_of_el hav).mono (fun b _ hb => (by exact ⟨by omega, by simp [Value.ownBlock]; omega⟩)); obtain ⟨ai, ci, rfl, -⟩ := id hav)
      go_ret
      exact (((HST6.out.wide (q' := q + 1) (by omega)).one (o := ⟨op, ds⟩) hg hk HAV.out ⟨⟨hop, hsd, by simp only; omega⟩, by simp only; omega⟩).later (by omega) (by omega)).listG hg
end Go.Proofs.YtipdjmbgbehkaaaGreatDoor
/- Contracts of the specification's draws: lists for chapter 5. -/
namespace Go.Proofs.YtipdjmbgbehkaaaGreatDoor
open Go.RowKit Go.Sort Go.BigFrame
set_option maxHeartbeats 2000000 in
set_option maxRecDepth 100000 in
theorem s_l5Any (g P : Nat) (w : World) (hr : RdAt w g P) (hP : P ≤ 100000) :
    Calls Tryz.prog 25 #[.pointer (some ⟨g, 0, none⟩)] w fun e w' => ListOut 4 e w w' g (P + 3700000) 80000 := by
  have HR : Hid (RdAt w g P) := hr
  have hg := rd_lt hr
  clear hr
  go_enter Tryz.func25, Tryz.ntmps25
  go_upto_region 2 with (go_at_call 55; refine (s_l5Sure g _ _ HR.out (by omega)).mono ?_; rintro e w3 ⟨l3, v3, rfl, hi3, ht3, hn3, hrd3, hb3⟩; obtain ⟨a3, c3, rfl, -⟩ := id hi3)
  have HI3 : Hid (InstsIn (fun b => g < b) w3 (.slice a3 l3.length c3) l3) := hi3
  have HT3 : Hid (∀ i ∈ l3, ITame i ∧ i.one.args.length ≤ 3) := ht3
  have HR3 : Hid (RdAt w3 g (P + 3600000)) := hrd3
  have HB3 : Hid (Below g w w3) := hb3
  have hz3 := hb3.size
  clear hi3 ht3 hrd3 hb3 HR
  obtain ⟨n3, hn⟩ : ∃ n, n = l3.length := ⟨_, rfl⟩
  have HN : Hid (n3 = l3.length) := hn
  rw [← hn] at HI3 hn3 ⊢
  clear hn
  go_upto_if 8 with (go_at_call 35; refine (s_pick g _ _ _ HR3.out (by omega) (by omega) (by omega)).mono ?_; rintro e w4 ⟨x, rfl, hx0, hx1, hrd4, hgr4⟩; have HR4 : Hid (RdAt w4 g (P + 3600000 + 1)) := hrd4; have HI4 : Hid (InstsIn (fun b => g < b) w4 (.slice a3 n3 c3) l3) := HI3.out.keep (KeepsIn.of_grown hgr4 fun b hb e => (by simp only [Option.some.injEq] at e; omega)); have HB4 : Hid (Below g w w4) := HB3.out.trans (below_grown_at hgr4 (by omega)); clear hrd4 hgr4)
  by_cases hx : x = 0
  · subst hx
    go_wp2_with (go_at_call 51; refine (s_l5Spoil g _ _ l3 _ HR4.out HI4.out HT3.out (by have := HN.out; omega) (by omega)).mono ?_; rintro e w5 ⟨l5, v5, rfl, hi5, ht5, hn5, hrd5, hb5⟩; have HO : Hid (ListOut 4 (.returned v5) w w5 g (P + 3700000) 80000) := ⟨l5, v5, rfl, hi5, ht5, hn5, rd_mono hrd5 (by omega), HB4.out.trans hb5⟩; clear hi5 ht5 hn5 hrd5 hb5)
    go_ret
    exact HO.out
  · have hxb : (x == 0) = false := beq_eq_false_iff_ne.2 hx
    go_wp2
    go_ret
    exact ⟨l3, _, rfl, HI4.out, fun i hi => ⟨(HT3.out i hi).1, by have := (HT3.out i hi).2; omega⟩, by have := HN.out; omega, rd_mono HR4.out (by omega), HB4.out⟩
set_option maxHeartbeats 1000000 in
set_option maxRecDepth 100000 in
theorem s_drawListText (v : Value) (w : World) (hv : BytesAt w v) : Calls Tryz.prog 7 #[v] w fun e w' => HalfOut e w w' := by
  have HV : Hid (BytesAt w v) := hv
  obtain ⟨av, lv, cv, rfl, -⟩ := hv
  go_enter Tryz.func7, Tryz.ntmps7
  go_wp2_with (first | (go_at_call 26; refine (s_l9Open _ _ HV.out).mono ?_; rintro e w1 ⟨rfl, hrd1, hb1⟩; have HB1 : Hid (Below w.heap.size w w1) := hb1; have HR1 : Hid (RdAt w1 w.heap.size 0) := hrd1; clear hrd1 hb1) | (go_at_call 25; refine (s_l5Any w.heap.size _ _ HR1.out (by omega)).mono ?_; rintro e w3 ⟨l3, v3, rfl, h3⟩; have HO : Hid (ListOut 4 (.returned v3) w1 w3 w.heap.size (0 + 3700000) 80000) := ⟨l3, v3, rfl, h3⟩; clear h3))
  go_ret
  exact HO.out.half HB1.out (by omega) (by omega)
/-- What a draw of an instruction leaves. -/
def LineNew (e : Ending) (w w' : World) : Prop := ∃ (i : Stil.Inst) (av : Value), e = .returned (.agg #[.int .i64 i.code, .int .i64 i.one.op, av]) ∧ DevsAt w' av i.one.args ∧ i.fits ∧ Below w.heap.size w w'
set_option maxHeartbeats 2000000 in
set_option maxRecDepth 100000 in
theorem s_drawListLine (v : Value) (w : World) (hv : BytesAt w v) : Calls Tryz.prog 18 #[v] w fun e w' => LineNew e w w' := by
  have HV : Hid (∀ W, Below w.heap.size w W → BytesAt W v) := fun W h => hv.below h
  obtain ⟨av, lv, cv, rfl, -⟩ := hv
  go_enter Tryz.func18, Tryz.ntmps18
  go_upto_region 2 with (go_at_call 26; refine (s_l9Open _ _ (HV.out _ (by (repeat (first | with_reducible exact Below.refl _ _ | with_reducible assumption | with_reducible refine bl_set (by first | exact Nat.le_refl _ | (simp; done) | (simp; omega) | omega) ?_ _ | with_reducible refine bl_alloc ?_ _ | with_reducible refine bl_drewN ?_ _ | with_reducible refine bl_drew ?_ | with_reducible refine bl_grow ?_ _ _ | with_reducible refine bl_call ?_ (by assumption)))))).mono ?_; rintro e w1 ⟨rfl, hrd1, hb1⟩)
  rw [World.size_alloc] at hrd1
  have HR1 : Hid (RdAt w1 (w.heap.size + 1) 0) := hrd1
  have hg1 := rd_lt hrd1
  have c0 : w1.cell? ⟨w.heap.size, 0, none⟩ = some (.int .i64 0) := by rw [hb1.cell (p := ⟨w.heap.size, 0, none⟩) (by simp)]; simp [go_sem]
  have c1 : w1.cell? ⟨w.heap.size, 1, none⟩ = some (.int .i64 0) := by rw [hb1.cell (p := ⟨w.heap.size, 1, none⟩) (by simp)]; simp [go_sem]
  have c2 : w1.cell? ⟨w.heap.size, 2, none⟩ = some (.slice none 0 0) := by rw [hb1.cell (p := ⟨w.heap.size, 2, none⟩) (by simp)]; simp [go_sem]
  have f0 : w1.frozen? ⟨w.heap.size, 0, none⟩ = false := by rw [hb1.frozen (p := ⟨w.heap.size, 0, none⟩) (by simp)]; simp [go_sem]
  have f1 : w1.frozen? ⟨w.heap.size, 1, none⟩ = false := by rw [hb1.frozen (p := ⟨w.heap.size, 1, none⟩) (by simp)]; simp [go_sem]
  have f2 : w1.frozen? ⟨w.heap.size, 2, none⟩ = false := by rw [hb1.frozen (p := ⟨w.heap.size, 2, none⟩) (by simp)]; simp [go_sem]
  have HRS : Hid (∀ W, w1.grownBy W (some (w.heap.size + 1)) → (W.cell? ⟨w.heap.size, 0, none⟩ = some (.int .i64 0) ∧ W.cell? ⟨w.heap.size, 1, none⟩ = some (.int .i64 0) ∧ W.cell? ⟨w.heap.size, 2, none⟩ = some (.slice none 0 0)) ∧ W.frozen? ⟨w.heap.size, 0, none⟩ = false ∧ W.frozen? ⟨w.heap.size, 1, none⟩ = false ∧ W.frozen? ⟨w.heap.size, 2, none⟩ = false) := fun W h =>
    ⟨⟨(grown_cell h (by omega) (by omega)).trans c0, (grown_cell h (by omega) (by omega)).trans c1, (grown_cell h (by omega) (by omega)).trans c2⟩, (grown_frozen h (by omega) (by omega)).trans f0, (grown_frozen h (by omega) (by omega)).trans f1, (grown_frozen h (by omega) (by omega)).trans f2⟩
  have HBA : Hid (∀ W, w1.grownBy W (some (w.heap.size + 1)) → Below w.heap.size w W) := fun W h => below_of_grown (grown_trans (grown_below (below_two hb1) _) h) (Nat.le_succ _)
  clear hrd1 hb1 c0 c1 c2 f0 f1 f2 HV
  go_upto_region 3 with (go_at_call 47; refine (s_l5Inst (w.heap.size + 1) _ _ HR1.out (by omega)).mono ?_; rintro e w2 ⟨i, iv, rfl, hav, hti, hli, hrd2, hgr2⟩; obtain ⟨ia, ic, rfl, -⟩ := id hav)
  obtain ⟨W3, hW3⟩ : ∃ W, W = w2.alloc (.cells #[.int .i64 i.code, .int .i64 i.one.op, .slice ia i.one.args.length ic] 31) := ⟨_, rfl⟩
  have hb23 : Below w2.heap.size w2 W3 := by rw [hW3]; exact below_alloc _ _
  have hs3 : W3.heap.size = w2.heap.size + 1 := by rw [hW3]; simp
  have hg13 : w1.grownBy W3 (some (w.heap.size + 1)) := by rw [hW3]; exact gr_alloc hgr2 _
  have HR3 : Hid (RdAt W3 (w.heap.size + 1) (0 + 100)) := by show RdAt _ _ _; rw [hW3]; exact rd_alloc hrd2 _
  have x0 : W3.cell? ⟨w2.heap.size, 0, none⟩ = some (.int .i64 i.code) := by rw [hW3]; simp [go_sem]
  have x1 : W3.cell? ⟨w2.heap.size, 1, none⟩ = some (.int .i64 i.one.op) := by rw [hW3]; simp [go_sem]
  have x2 : W3.cell? ⟨w2.heap.size, 2, none⟩ = some (.slice ia i.one.args.length ic) := by rw [hW3]; simp [go_sem]
  have z1 : W3.frozen? ⟨w2.heap.size, 1, none⟩ = false := by rw [hW3]; simp [go_sem]
  have z2 : W3.frozen? ⟨w2.heap.size, 2, none⟩ = false := by rw [hW3]; simp [go_sem]
  have hs12 := hgr2.size
  have HAV : Hid (DevsIn (fun b => w1.heap.size ≤ b) W3 (.slice ia i.one.args.length ic) i.one.args) := hav.keep (KeepsIn.of_below hb23)
  have HBX : Hid (∀ W, W3.grownBy W (some (w.heap.size + 1)) → (W.cell? ⟨w2.heap.size, 0, none⟩ = some (.int .i64 i.code) ∧ W.cell? ⟨w2.heap.size, 1, none⟩ = some (.int .i64 i.one.op) ∧ W.cell? ⟨w2.heap.size, 2, none⟩ = some (.slice ia i.one.args.length ic)) ∧ W.frozen? ⟨w2.heap.size, 1, none⟩ = false ∧ W.frozen? ⟨w2.heap.size, 2, none⟩ = false) := fun W h =>
    ⟨⟨(grown_cell h (by omega) (by omega)).trans x0, (grown_cell h (by omega) (by omega)).trans x1, (grown_cell h (by omega) (by omega)).trans x2⟩, (grown_frozen h (by omega) (by omega)).trans z1, (grown_frozen h (by omega) (by omega)).trans z2⟩
  have HTI : Hid (ITame i) := hti
  rw [← hW3]
  clear hW3 x0 x1 x2 z1 z2 hav hrd2 hgr2 hb23 HR1 hti hli
  obtain ⟨ni, hni⟩ : ∃ n, n = i.one.args.length := ⟨_, rfl⟩
  have HNI : Hid (ni = i.one.args.length) := hni
  rw [← hni] at HAV HBX ⊢
  clear hni
  go_upto_if 11 with (go_at_call 35; refine (s_pick (w.heap.size + 1) _ _ _ HR3.out (by omega) (by omega) (by omega)).mono ?_; rintro e w4 ⟨x, rfl, hx0, hx1, hrd4, hgr4⟩)
  have HR4 : Hid (RdAt w4 (w.heap.size + 1) (0 + 100 + 1)) := hrd4
  have HG4 : Hid (w1.grownBy w4 (some (w.heap.size + 1))) := gr_call hg13 hgr4
  have HG34 : Hid (W3.grownBy w4 (some (w.heap.size + 1))) := hgr4
  have hs34 := hgr4.size
  clear hrd4 hgr4 HR3
  by_cases hx : x = 0
  · subst hx
    clear HAV HNI
    go_upto_region 5 with (go_at_call 48; refine (s_l2Any (w.heap.size + 1) _ _ HR4.out (by omega)).mono ?_; rintro e w5 ⟨op, ev, ds, rfl, hop, hel, hsd, hdl, hrd5, hgr5⟩; obtain ⟨ea, ec, rfl, -⟩ := id hel; obtain ⟨⟨x0, x1, x2⟩, z1, z2⟩ := HBX.out w5 (gr_call HG34.out hgr5); have HEL : Hid (DevsIn (fun b => w4.heap.size - 1 < b) w5 (.slice ea ds.length ec) ds) := devs_of_el hel; have HG5 : Hid (w1.grownBy w5 (some (w.heap.size + 1))) := gr_call HG4.out hgr5; have hs45 := hgr5.size; clear hel hrd5 hgr5)
    obtain ⟨⟨c0, c1, c2⟩, f0, f1, f2⟩ := HRS.out w5 HG5.out
    have HFT : Hid (Stil.Inst.fits ⟨i.code, ⟨op, ds⟩⟩) := ⟨⟨by have := HTI.out.1; simp only; omega, by have := HTI.out.1; simp only; omega⟩, ⟨by simp only; omega, by simp only; omega⟩, by simp only; omega, fun d hd => (hsd d hd).fits⟩
    obtain ⟨V, hV⟩ : ∃ V, V = (w5.setCell ⟨w2.heap.size, 1, none⟩ (.int .i64 op)).setCell ⟨w2.heap.size, 2, none⟩ (.slice ea ds.length ec) := ⟨_, rfl⟩
    have k0 : V.cell? ⟨w2.heap.size, 0, none⟩ = some (.int .i64 i.code) := by rw [hV]; exact (cell_set_off (by omega)).trans ((cell_set_off (by omega)).trans x0)
    have k1 : V.cell? ⟨w2.heap.size, 1, none⟩ = some (.int .i64 op) := by rw [hV]; exact (cell_set_off (by omega)).trans (cell_set_at x1)
    have k2 : V.cell? ⟨w2.heap.size, 2, none⟩ = some (.slice ea ds.length ec) := by rw [hV]; exact cell_set_at ((cell_set_off (by omega)).trans x2)
    have y0 : V.cell? ⟨w.heap.size, 0, none⟩ = some (.int .i64 0) := by rw [hV]; exact (cell_set_other (by omega)).trans ((cell_set_other (by omega)).trans c0)
    have y1 : V.cell? ⟨w.heap.size, 1, none⟩ = some (.int .i64 0) := by rw [hV]; exact (cell_set_other (by omega)).trans ((cell_set_other (by omega)).trans c1)
    have y2 : V.cell? ⟨w.heap.size, 2, none⟩ = some (.slice none 0 0) := by rw [hV]; exact (cell_set_other (by omega)).trans ((cell_set_other (by omega)).trans c2)
    have g0 : V.frozen? ⟨w.heap.size, 0, none⟩ = false := by rw [hV]; exact frozen_set.trans (frozen_set.trans f0)
    have g1 : V.frozen? ⟨w.heap.size, 1, none⟩ = false := by rw [hV]; exact frozen_set.trans (frozen_set.trans f1)
    have g2 : V.frozen? ⟨w.heap.size, 2, none⟩ = false := by rw [hV]; exact frozen_set.trans (frozen_set.trans f2)
    have HEV : Hid (DevsIn (fun b => w4.heap.size - 1 < b) V (.slice ea ds.length ec) ds) := by show DevsIn _ _ _ _; rw [hV]; exact HEL.out.keep ((KeepsIn.set (by omega) _).trans (KeepsIn.set (by omega) _))
    have hbV : Below w.heap.size w V := by rw [hV]; exact bl_set (by simp; omega) (bl_set (by simp; omega) (HBA.out _ HG5.out) _) _
    rw [← hV]
    clear hV x0 x1 x2 z1 z2 c0 c1 c2 f0 f1 f2 HEL
    go_wp2
    refine bodyPost_ret (v := .agg #[.int .i64 i.code, .int .i64 op, .slice ea ds.length ec]) (by simp [results, Tryz.results18, go_sem, cell_set_at y0, y1, y2]) rfl ?_
    exact ⟨⟨i.code, ⟨op, ds⟩⟩, _, rfl, (HEV.out.keep (((KeepsIn.set (by omega) _).trans (KeepsIn.set (by omega) _)).trans (KeepsIn.set (by omega) _))).at, HFT.out, bl_set (by simp) (bl_set (by simp) (bl_set (by simp) hbV _) _) _⟩
  · have hxb : (x == 0) = false := beq_eq_false_iff_ne.2 hx
    obtain ⟨⟨x0, x1, x2⟩, _, _⟩ := HBX.out w4 HG34.out
    obtain ⟨⟨c0, c1, c2⟩, f0, f1, f2⟩ := HRS.out w4 HG4.out
    have HEV : Hid (DevsIn (fun b => w1.heap.size ≤ b) w4 (.slice ia ni ic) i.one.args) := HAV.out.keep (KeepsIn.of_grown HG34.out fun b hb e => by simp only [Option.some.injEq] at e; omega)
    have hbV := HBA.out _ HG4.out
    go_wp2
    refine bodyPost_ret (v := .agg #[.int .i64 i.code, .int .i64 i.one.op, .slice ia ni ic]) (by simp [results, Tryz.results18, go_sem, cell_set_at c0, c1, c2]) rfl ?_
    exact ⟨i, _, rfl, (HEV.out.keep (((KeepsIn.set (by omega) _).trans (KeepsIn.set (by omega) _)).trans (KeepsIn.set (by omega) _))).at, HTI.out.fits, bl_set (by simp) (bl_set (by simp) (bl_set (by simp) hbV _) _) _⟩
/-- What a draw of two lists leaves. -/
def PairNew (e : Ending) (w w' : World) : Prop := ∃ (la lb : List Stil.Inst) (pa pb : Option Addr) (ca cb : Nat), e = .returned (.tuple #[.slice pa la.length ca, .slice pb lb.length cb]) ∧ InstsIn (fun _ => True) w' (.slice pa la.length ca) la ∧ InstsIn (fun _ => True) w' (.slice pb lb.length cb) lb ∧ (∀ x ∈ la, x.fits) ∧ (∀ x ∈ lb, x.fits) ∧ la.length ≤ 84000 ∧ lb.length ≤ 84000 ∧ Below w.heap.size w w'
set_option maxHeartbeats 2000000 in
set_option maxRecDepth 100000 in
theorem s_drawListSame (v : Value) (w : World) (hv : BytesAt w v) : Calls Tryz.prog 20 #[v] w fun e w' => PairNew e w w' := by
  have HV : Hid (BytesAt w v) := hv
  obtain ⟨av, lv, cv, rfl, -⟩ := hv
  go_enter Tryz.func20, Tryz.ntmps20
  go_upto_region 3 with (first | (go_at_call 26; refine (s_l9Open _ _ HV.out).mono ?_; rintro e w1 ⟨rfl, hrd1, hb1⟩; have HB1 : Hid (Below w.heap.size w w1) := hb1; have HR1 : Hid (RdAt w1 w.heap.size 0) := hrd1; clear hrd1 hb1) | (go_at_call 25; refine (s_l5Any w.heap.size _ _ HR1.out (by omega)).mono ?_; rintro e w3 ⟨l3, v3, rfl, hi3, ht3, hn3, hrd3, hb3⟩; have HI3 : Hid (InstsIn (fun b => w.heap.size < b) w3 v3 l3) := hi3; have HT3 : Hid (∀ i ∈ l3, ITame i ∧ i.one.args.length ≤ 4) := ht3; have HR3 : Hid (RdAt w3 w.heap.size (0 + 3700000)) := hrd3; have HB3 : Hid (Below w.heap.size w w3) := HB1.out.trans hb3; obtain ⟨a3, c3, rfl, -⟩ := id hi3; clear hi3 ht3 hrd3 hb3))
  have hg := rd_lt HR3.out
  clear HV HB1 HR1
  obtain ⟨n3, hn⟩ : ∃ n, n = l3.length := ⟨_, rfl⟩
  have HN : Hid (n3 = l3.length) := hn
  rw [← hn] at HI3 hn3 ⊢
  clear hn
  go_upto_if 12 with (go_at_call 35; refine (s_pick w.heap.size _ _ _ HR3.out (by omega) (by omega) (by omega)).mono ?_; rintro e w4 ⟨x, rfl, hx0, hx1, hrd4, hgr4⟩; have HR4 : Hid (RdAt w4 w.heap.size (0 + 3700000 + 1)) := hrd4; have HI4 : Hid (InstsIn (fun b => w.heap.size < b) w4 (.slice a3 n3 c3) l3) := HI3.out.keep (KeepsIn.of_grown hgr4 fun b hb e => (by simp only [Option.some.injEq] at e; omega)); have HB4 : Hid (Below w.heap.size w w4) := HB3.out.trans (below_grown_at hgr4 (by omega)); have hs4 := hgr4.size; clear hrd4 hgr4)
  clear HI3 HR3 HB3
  have HF3 : Hid (∀ y ∈ l3, y.fits) := fun y hy => (HT3.out y hy).1.fits
  by_cases hx : x = 0
  · subst hx
    go_wp2_with (go_at_call 51; refine (s_l5SpoilQ 4 w.heap.size _ (by omega) (by omega) _ l3 _ HR4.out HI4.out HT3.out (by have := HN.out; omega) (by omega)).mono ?_; rintro e w5 ⟨⟨l5, v5, rfl, hi5, ht5, hn5, hrd5, hb5⟩, hgr5⟩; obtain ⟨a5, c5, rfl, -⟩ := id hi5; have HI5 : Hid (InstsIn (fun _ => True) w5 (.slice a5 l5.length c5) l5) := hi5.mono (fun _ _ _ => trivial); have HI6 : Hid (InstsIn (fun _ => True) w5 (.slice a3 n3 c3) l3) := (HI4.out.keep (KeepsIn.of_grown hgr5 fun b hb e => (by simp only [Option.some.injEq] at e; omega))).mono (fun _ _ _ => trivial); have HF5 : Hid (∀ y ∈ l5, y.fits) := (fun y hy => (ht5 y hy).1.fits); have HB5 : Hid (Below w.heap.size w w5) := HB4.out.trans hb5; clear hi5 ht5 hrd5 hb5 hgr5)
    refine bodyPost_ret (v := .tuple #[.slice a3 n3 c3, .slice a5 l5.length c5]) (by simp [results, Tryz.results20, go_sem]) rfl ?_
    refine ⟨l3, l5, a3, a5, c3, c5, by rw [HN.out], ?_, HI5.out, HF3.out, HF5.out, by have := HN.out; omega, by omega, HB5.out⟩
    have := HI6.out
    rw [HN.out] at this
    exact this
  · have hxb : (x == 0) = false := beq_eq_false_iff_ne.2 hx
    have HVV : Hid (InstsIn (fun b => w.heap.size < b ∧ b < w4.heap.size) w4 (.slice a3 n3 c3) l3) := HI4.out.mono fun b h1 h2 => ⟨h2, h1⟩
    go_wp2_with (at_builtin; refine wpList_copy_insts rfl _ _ rfl (fun b => w.heap.size < b ∧ b < w4.heap.size) w4 l3 (.slice a3 n3 c3) rfl rfl rfl HVV.out (by have := HN.out; omega) ?_; intro bb cc w6 xs hown hrow hbb1 hbb2 hgr6)
    have HI6 : Hid (InstsIn (fun _ => True) w6 (.slice a3 n3 c3) l3) := (HVV.out.keep ((KeepsIn.of_below (below_alloc _ _)).trans (KeepsIn.of_grown hgr6 fun b hb e => by simp only [Option.some.injEq] at e; omega))).mono (fun _ _ _ => trivial)
    have HI7 : Hid (InstsIn (fun _ => True) w6 (.slice (some ⟨bb, 0, none⟩) l3.length cc) l3) := instsIn_of_row hown (hrow.imp fun _ _ _ h => h.mono fun _ _ _ => trivial) (fun _ _ => trivial)
    have HB6 : Hid (Below w.heap.size w w6) := bl_call HB4.out (below_of_grown (grown_trans (grown_below (below_alloc _ _) _) hgr6) (Nat.le_refl _))
    clear hown hrow hgr6
    obtain ⟨q3, hq⟩ : ∃ n, n = l3.length := ⟨_, rfl⟩
    rw [← hq] at HI7 ⊢
    have HQ : Hid (q3 = l3.length) := hq
    clear hq
    go_wp2
    refine bodyPost_ret (v := .tuple #[.slice a3 n3 c3, .slice (some ⟨bb, 0, none⟩) q3 cc]) (by simp [results, Tryz.results20, go_sem]) rfl ?_
    refine ⟨l3, l3, a3, some ⟨bb, 0, none⟩, c3, cc, by rw [HN.out, HQ.out], ?_, ?_, HF3.out, HF3.out, by have := HN.out; omega, by have := HN.out; omega, HB6.out⟩
    · have := HI6.out
      rw [HN.out] at this
      exact this
    · have := HI7.out
      rw [HQ.out] at this
      exact this
end Go.Proofs.YtipdjmbgbehkaaaGreatDoor
