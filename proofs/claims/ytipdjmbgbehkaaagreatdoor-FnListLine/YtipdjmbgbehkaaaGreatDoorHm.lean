/- D42, D43: texts put together. -/
import Derived.Test.YtipdjmbgbehkaaaGreatDoorHl
/- Contracts of the specification's draws: a list spoilt somewhere. -/
namespace Go.Proofs.YtipdjmbgbehkaaaGreatDoor
open Go.RowKit Go.Sort Go.BigFrame
theorem ListSt.wide {q q' : Nat} {w W : World} {g P n : Nat} {v : Value} (h : ListSt q w W g P v n) (hq : q ≤ q') : ListSt q' w W g P v n := by
  obtain ⟨l, xs, a, b, c, d⟩ := h
  exact ⟨l, xs, a, b, fun i hi => ⟨(c i hi).1, by have := (c i hi).2; omega⟩, d⟩
theorem ListSt.gr {q : Nat} {w W : World} {g P n : Nat} {v : Value} (h : ListSt q w W g P v n) : w.grownBy W (some g) := by
  obtain ⟨l, xs, a, b, c, d, e, f⟩ := h
  exact f
def lenOf : Value → Nat
  | .slice _ m _ => m
  | _ => 0
theorem el_of_off {w : World} {g : Nat} {u v : Value} {ds : List Stil.Dev} (h : DevsIn (Off g u) w v ds) : ElArgs w g v ds := by
  obtain ⟨a, c, rfl, hc, hs⟩ := h
  exact ⟨a, c, rfl, hc, fun i hi => by obtain ⟨b, o, h1, h2, h3⟩ := hs i hi; exact ⟨b, o, h1, h2.1, h3⟩⟩
set_option maxHeartbeats 4000000 in
set_option maxRecDepth 100000 in
theorem s_l5Spoil (g P : Nat) (w : World) (l : List Stil.Inst) (v : Value) (hr : RdAt w g P) (hv : InstsIn (fun b => g < b) w v l) (ht : ∀ i ∈ l, ITame i ∧ i.one.args.length ≤ 3) (hn : l.length ≤ 76000) (hP : P ≤ 50000000) :
    Calls Tryz.prog 51 #[.pointer (some ⟨g, 0, none⟩), v] w fun e w' => ListOut 4 e w w' g (P + 4000) 80000 := by
  have hg := rd_lt hr
  obtain ⟨a1, c1, rfl, -⟩ := id hv
  have HV : Hid (InstsIn (fun b => g < b ∧ b < w.heap.size) w (.slice a1 l.length c1) l) := hv.mono fun b h1 h2 => ⟨h2, h1⟩
  have HT : Hid (∀ i ∈ l, ITame i ∧ i.one.args.length ≤ 3) := ht
  have HR : Hid (RdAt w g P) := hr
  clear hv ht hr
  go_enter Tryz.func51, Tryz.ntmps51
  go_upto_if 15 with (at_builtin; refine wpList_copy_insts rfl _ _ rfl (fun b => g < b ∧ b < w.heap.size) w l (.slice a1 l.length c1) rfl rfl rfl HV.out (by omega) ?_; intro bb cc w3 xs hown hrow hbb1 hbb2 hgr3)
  have HST3 : Hid (ListSt 3 w w3 g P (.slice (some ⟨bb, 0, none⟩) l.length cc) l.length) := list_copied HR.out HT.out hown hrow hbb1 hgr3
  have hcc : l.length ≤ cc := by
    obtain ⟨a', c', hv, hcap, -⟩ := own_open hown
    injection hv with h1 h2 h3
    subst h3
    exact hcap.1
  clear HV HT HR hown hrow hgr3
  have hgz3 : g < w3.heap.size := by omega
  by_cases hl0 : l.length = 0
  · have hl1 : ((l.length : Int) == 0) = true := by rw [hl0]; rfl
    clear hl0
    go_wp2_with (first | (go_at_call 47; refine (s_l5Inst g _ _ HST3.out.rd (by omega)).mono ?_; rintro e w4 ⟨i, av, rfl, hav, hti, hli, hrd4, hgr4⟩; have HST4 : Hid (ListSt 3 w w4 g (P + 200) (.slice (some ⟨bb, 0, none⟩) l.length cc) l.length) := HST3.out.grown hgr4 hg (rd_mono hrd4 (by omega)); have HAV : Hid (DevsIn (Off g (.slice (some ⟨bb, 0, none⟩) l.length cc)) w4 av i.one.args) := hav.mono (fun b _ hb => (by exact ⟨by omega, by simp [Value.ownBlock]; omega⟩)); obtain ⟨ai, ci, rfl, -⟩ := id hav) | (at_builtin; refine wpList_grow_insts rfl _ _ rfl w _ g _ _ (.slice (some ⟨bb, 0, none⟩) l.length cc) rfl (HST4.out.below (below_alloc _ _) hg) hg [i] _ _ _ [.int .i64 i.code, .int .i64 i.one.op, .slice ai i.one.args.length ci] rfl rfl (RowOf.one rfl ⟨_, rfl, HAV.out.keep (KeepsIn.of_below (below_alloc _ _))⟩) (by exact cells_new _ _ _ _ (by simp)) (by intro u hu; simp at hu; rcases hu with rfl | rfl | rfl <;> rfl) (by intro j hj; rw [List.mem_singleton.1 hj]; exact ⟨hti, hli⟩) (by simp; omega) ?_; intro v6 w6 hst6 hheld6))
    go_ret
    exact ((hst6.wide (by omega)).later (by omega) (by simp; omega)).list hg
  · have hl1 : ((l.length : Int) == 0) = false := by rw [beq_eq_false_iff_ne]; omega
    go_upto_region 7 with (first | (go_at_call_of 35 (l.length : Nat); refine (s_pick g _ _ _ HST3.out.rd (by omega) (by omega) (by omega)).mono ?_; rintro e w4 ⟨k0, rfl, hk0, hk1, hrd4, hgr4⟩; have HST4 : Hid (ListSt 3 w w4 g (P + 1) (.slice (some ⟨bb, 0, none⟩) l.length cc) l.length) := HST3.out.grown hgr4 hg hrd4; have hs4 := hgr4.size; obtain ⟨k, hke⟩ := Int.eq_ofNat_of_zero_le hk0; subst hke) | (go_at_call 35; refine (s_pick g _ _ _ HST4.out.rd (by omega) (by omega) (by omega)).mono ?_; rintro e w5 ⟨x, rfl, hx0, hx1, hrd5, hgr5⟩; have HST5 : Hid (ListSt 3 w w5 g (P + 2) (.slice (some ⟨bb, 0, none⟩) l.length cc) l.length) := HST4.out.grown hgr5 hg hrd5; have hs5 := hgr5.size))
    have hk : k < l.length := by omega
    clear HST3 HST4 hrd4 hgr4 hrd5 hgr5
    have hxx : x = 0 ∨ x = 1 ∨ x = 2 ∨ x = 3 ∨ x = 4 ∨ x = 5 ∨ x = 6 ∨ x = 7 ∨ x = 8 := by omega
    clear hx0 hx1
    obtain ⟨ek, ae, ce, ⟨q0, q1, q2⟩, ⟨p0, p1, p2⟩, hde, hte, hbz, hlb⟩ := HST5.out.at hk
    rcases hxx with rfl | rfl | rfl | rfl | rfl | rfl | rfl | rfl | rfl
    · clear q0 q1 q2 p0 p1 p2 hde hte hbz hlb
      have hwk : IntKind.i64.wrap ((k : Int) + 1) = ((k + 1 : Nat) : Int) := by rw [IntKind.wrap_i64]; omega
      obtain ⟨es, news, hel, hes, hcl, h1c, htm⟩ := HST5.out.behind (k := k + 1) hk
      have HCUT : Hid (ListSt 3 w w5 g (P + 2) (.slice (some ⟨bb, 0, none⟩) k cc) k) := HST5.out.cut (Nat.le_of_lt hk)
      have HES : Hid (RowOf 3 (InstC (Off g (.slice (some ⟨bb, 0, none⟩) k cc)) w5) news es) := hes.imp fun _ _ _ h => h.mono fun b _ hb => ⟨hb.1, hb.2⟩
      clear hes
      have hnl : news.length = es.length * 3 := HES.out.1
      have hne : k + 1 = cc → news = [] := fun h => List.eq_nil_of_length_eq_zero (by omega)
      go_upto_region 8 with fail
      have hkc : k ≤ cc := by omega
      have hkl : k + 1 ≤ l.length := hk
      have hki : ((k : Int) + 1).toNat = k + 1 := by omega
      have hka : (k : Int) ≤ (k : Int) + 1 := by omega
      have hkb : (0 : Int) ≤ (k : Int) + 1 := by omega
      have hkd : (k : Int) + 1 ≤ (l.length : Int) := by omega
      by_cases hcz : cc = k + 1
      · have hn0 := hne hcz.symm
        subst hn0
        subst hcz
        go_region_law fail
        all_goals
          go_wp2
          go_ret
          exact (((HCUT.out.below (by (repeat (first | with_reducible exact Below.refl _ _ | with_reducible assumption | with_reducible refine bl_set (by first | exact Nat.le_refl _ | (simp; done) | (simp; omega) | omega) ?_ _ | with_reducible refine bl_alloc ?_ _ | with_reducible refine bl_drewN ?_ _ | with_reducible refine bl_drew ?_ | with_reducible refine bl_grow ?_ _ _ | with_reducible refine bl_call ?_ (by assumption)))) hg).wide (by omega)).later (by omega) (by omega)).list hg
      · have hkc2 : k + 1 ≤ cc := by omega
        go_region_law (refine step_grow_insts rfl _ _ rfl w _ g _ _ (.slice (some ⟨bb, 0, none⟩) k cc) (by go_simp) (HCUT.out.below (by (repeat (first | with_reducible exact Below.refl _ _ | with_reducible assumption | with_reducible refine bl_set (by first | exact Nat.le_refl _ | (simp; done) | (simp; omega) | omega) ?_ _ | with_reducible refine bl_alloc ?_ _ | with_reducible refine bl_drewN ?_ _ | with_reducible refine bl_drew ?_ | with_reducible refine bl_grow ?_ _ _ | with_reducible refine bl_call ?_ (by assumption)))) hg) hg es ⟨bb, (k + 1) * 3, none⟩ (l.length - (k + 1)) (cc - (k + 1)) news (by omega) (by go_simp) (HES.out.imp fun _ _ _ h => h.keep (KeepsIn.of_below (by (repeat (first | with_reducible exact Below.refl _ _ | with_reducible assumption | with_reducible refine bl_set (by first | exact Nat.le_refl _ | (simp; done) | (simp; omega) | omega) ?_ _ | with_reducible refine bl_alloc ?_ _ | with_reducible refine bl_drewN ?_ _ | with_reducible refine bl_drew ?_ | with_reducible refine bl_grow ?_ _ _ | with_reducible refine bl_call ?_ (by assumption)))))) (by exact hcl) h1c htm (by omega) ?_; intro v6 w6 hst6 hheld6)
        all_goals
          go_wp2
          go_ret
          exact ((hst6.wide (by omega)).later (by omega) (by omega)).list hg
    · clear q0 q1 q2 p0 p1 p2 hde hte hbz hlb
      have hkc : k ≤ cc := by omega
      have hkl : k ≤ l.length := by omega
      have hkn : (0 : Int) ≤ (k : Int) := by omega
      obtain ⟨es1, news1, hel1, htl1, h1c1, htm1⟩ := (HST5.out.cut hkl).tail (k := 0) hg (Nat.zero_le _)
      obtain ⟨es2, news2, hel2, htl2, h1c2, htm2⟩ := HST5.out.tail hg hkl
      have hlen1 : k = es1.length := by omega
      have hlen2 : l.length - k = es2.length := by omega
      have HT1 : Hid (Tail g w5.heap.size (w5.drew.alloc (.cells #[] 31)) bb 0 es1 news1) := (htl1.grown (r := none) (grown_below (Below.refl _ _).drew _) (fun _ h => by cases h)).grown (grown_below (below_alloc _ _) none) (fun _ h => by cases h)
      have HT2 : Hid (Tail g w5.heap.size (w5.drew.alloc (.cells #[] 31)) bb (k * 3) es2 news2) := (htl2.grown (r := none) (grown_below (Below.refl _ _).drew _) (fun _ h => by cases h)).grown (grown_below (below_alloc _ _) none) (fun _ h => by cases h)
      have HNEW : Hid (ListSt 3 w (w5.drew.alloc (.cells #[] 31)) g (P + 2) (.slice (some ⟨w5.heap.size, 0, none⟩) 0 0) 0) := list_fresh (D := w5.drew) (HST5.out.below (Below.refl _ _).drew hg).rd (grown_trans HST5.out.gr (grown_below (Below.refl _ _).drew _))
      have HL1 : Hid (k = es1.length) := hlen1
      have HL2 : Hid (l.length - k = es2.length) := hlen2
      clear htl1 htl2 hel1 hel2 HST5 hlen1 hlen2
      go_upto_region 10 with fail
      go_region_law (first
        | (refine step_grow_insts rfl _ _ rfl w _ g _ _ v8 (by go_simp) hst8 hg es2 ⟨bb, k * 3, none⟩ (l.length - k) (cc - k) news2 HL2.out (by go_simp; omega) (HT28.out.row hlo8) HT28.out.2.2 h1c2 htm2 (by have := HL1.out; have := HL2.out; simp; omega) ?_; intro v9 w9 hst9 hheld9)
        | (refine step_grow_more rfl _ _ rfl w _ g _ _ v6 (by go_simp) (HST7.out.below (below_alloc _ _) hg) hg [i] ⟨w7.heap.size, 0, none⟩ 1 1 [.int .i64 i.code, .int .i64 i.one.op, .slice ai i.one.args.length ci] rfl (by go_simp) (RowOf.one rfl ⟨_, rfl, HAV.out.keep (KeepsIn.of_below (below_alloc _ _))⟩) (by exact cells_new _ _ _ _ (by simp)) (by intro u hu; simp at hu; rcases hu with rfl | rfl | rfl <;> rfl) (by intro j hj; rw [List.mem_singleton.1 hj]; exact ⟨hti, hli⟩) (by have := HL1.out; simp; omega) ?_; intro v8 w8 hst8 hgr8 hob8; have HT28 : Hid (Tail g w5.heap.size w8 bb (k * 3) es2 news2) := ((HT27.out.grown (grown_below (below_alloc _ _) none) (fun _ h => by cases h)).grown hgr8 (fun j hj => Or.inr (hlo6 j hj))); have hlo8 : ∀ c, v8.ownBlock = some c → w5.heap.size ≤ c := (fun c hc => by rcases hob8 with h | h; (rw [h] at hc; exact hlo6 c hc); (rw [h] at hc; simp at hc; omega)))
        | (go_simp; go_at_call 47; refine (s_l5Inst g _ _ HST6.out.rd (by omega)).mono ?_; rintro e w7 ⟨i, av, rfl, hav, hti, hli, hrd7, hgr7⟩; have HST7 : Hid (ListSt 3 w w7 g (P + 200) v6 (0 + es1.length)) := HST6.out.grown hgr7 hg (rd_mono hrd7 (by omega)); have HT27 : Hid (Tail g w5.heap.size w7 bb (k * 3) es2 news2) := HT26.out.grown hgr7 (fun j hj => Or.inl (by simp at hj; omega)); have HAV : Hid (DevsIn (Off g v6) w7 av i.one.args) := hav.mono (fun b _ hb => (by exact ⟨by omega, fun e => by have := (HST6.out.own b e).2; omega⟩)); have hs7 := hgr7.size; obtain ⟨ai, ci, rfl, -⟩ := id hav)
        | (refine step_grow_more rfl _ _ rfl w _ g _ _ (.slice (some ⟨w5.heap.size, 0, none⟩) 0 0) (by go_simp) HNEW.out hg es1 ⟨bb, 0, none⟩ k cc news1 HL1.out (by go_simp) (HT1.out.row (fun c hc => by simp [Value.ownBlock] at hc; omega)) HT1.out.2.2 h1c1 htm1 (by have := HL1.out; omega) ?_; intro v6 w6 hst6 hgr6 hob6; have HST6 : Hid (ListSt 3 w w6 g (P + 2) v6 (0 + es1.length)) := hst6; have hs6 : w5.heap.size < w6.heap.size := (by have := hgr6.size; simp at this; omega); have HT26 : Hid (Tail g w5.heap.size w6 bb (k * 3) es2 news2) := HT2.out.grown hgr6 (fun j hj => Or.inr (by simp [Value.ownBlock] at hj; omega)); have hlo6 : ∀ c, v6.ownBlock = some c → w5.heap.size ≤ c := (fun c hc => by rcases hob6 with h | h; (rw [h] at hc; simp [Value.ownBlock] at hc; omega); (rw [h] at hc; simp at hc; omega))))
      all_goals
        have e1 := HL1.out
        have e2 := HL2.out
        go_wp2
        go_ret
        exact ((hst9.wide (by omega)).later (by omega) (by simp; omega)).list hg
    · clear q0 q1 q2 p0 p1 p2 hde hte hbz hlb
      go_wp2_with (go_at_call 47; refine (s_l5Inst g _ _ HST5.out.rd (by omega)).mono ?_; rintro e w6 ⟨i, av, rfl, hav, hti, hli, hrd6, hgr6⟩; have HST6 : Hid (ListSt 3 w w6 g (P + 200) (.slice (some ⟨bb, 0, none⟩) l.length cc) l.length) := HST5.out.grown hgr6 hg (rd_mono hrd6 (by omega)); have HAV : Hid (DevsIn (Off g (.slice (some ⟨bb, 0, none⟩) l.length cc)) w6 av i.one.args) := hav.mono (fun b _ hb => (by exact ⟨by omega, by simp [Value.ownBlock]; omega⟩)); obtain ⟨ai, ci, rfl, -⟩ := id hav; obtain ⟨ek, ae, ce, ⟨q0, q1, q2⟩, ⟨p0, p1, p2⟩, hde, hte, hbz, hlb⟩ := HST6.out.at hk)
      go_ret
      exact (((HST6.out.store (e := i) hg hk HAV.out ⟨hti, hli⟩).wide (by omega)).later (by omega) (by omega)).list hg
    · clear q0 q1 q2 p0 p1 p2 hde hte hbz hlb
      go_wp2_with (go_at_call 35; refine (s_pick g _ _ _ HST5.out.rd (by omega) (by omega) (by omega)).mono ?_; rintro e w6 ⟨z, rfl, hz0, hz1, hrd6, hgr6⟩; have HST6 : Hid (ListSt 3 w w6 g (P + 3) (.slice (some ⟨bb, 0, none⟩) l.length cc) l.length) := HST5.out.grown hgr6 hg hrd6; obtain ⟨ek, ae, ce, ⟨q0, q1, q2⟩, ⟨p0, p1, p2⟩, hde, hte, hbz, hlb⟩ := HST6.out.at hk; have hwz : IntKind.i64.wrap (z - 1) = z - 1 := (by rw [IntKind.wrap_i64]; omega))
      go_ret
      exact (((HST6.out.code hg hk (by omega)).wide (by omega)).later (by omega) (by omega)).list hg
    · have HDE : Hid (ElArgs w5 g (.slice ae ek.one.args.length ce) ek.one.args) := el_of_off hde
      have HTE : Hid (ITame ek ∧ ek.one.args.length ≤ 3) := hte
      obtain ⟨⟨-, htop, hts, -⟩, hlk⟩ := hte
      go_wp2_with (go_at_call 77; refine (s_l2Spoil g _ _ _ _ _ HST5.out.rd (by omega) htop HDE.out hts (by omega)).mono ?_; rintro e w6 ⟨op, av, ds, rfl, hop, hav, hsd, hdl, hrd6, hgr6⟩; have HST6 : Hid (ListSt 3 w w6 g (P + 200) (.slice (some ⟨bb, 0, none⟩) l.length cc) l.length) := HST5.out.grown hgr6 hg (rd_mono hrd6 (by omega)); clear q0 q1 q2 p0 p1 p2 hde hbz hlb; obtain ⟨ek6, ae, ce, ⟨q0, q1, q2⟩, ⟨p0, p1, p2⟩, hde, hte, hbz, hlb⟩ := HST6.out.at hk; have HAV : Hid (DevsIn (Off g (.slice (some ⟨bb, 0, none⟩) l.length cc)) w6 av ds) := (devs_of_el hav).mono (fun b _ hb => (by exact ⟨by omega, by simp [Value.ownBlock]; omega⟩)); obtain ⟨ai, ci, rfl, -⟩ := id hav)
      go_ret
      exact (((HST6.out.wide (q' := 4) (by omega)).one (o := ⟨op, ds⟩) hg hk HAV.out ⟨⟨hop, hsd, by simp only; omega⟩, by simp only; omega⟩).later (by omega) (by omega)).list hg
    · go_wp2
      go_ret
      exact (((HST5.out.cut (Nat.le_of_lt hk)).wide (by omega)).later (by omega) (by omega)).list hg
    · have HDE : Hid (DevsIn (Off g (.slice (some ⟨bb, 0, none⟩) l.length cc)) w5 (.slice ae ek.one.args.length ce) ek.one.args) := hde
      have HTE : Hid (ITame ek ∧ ek.one.args.length ≤ 3) := hte
      have hz5 := rd_lt HST5.out.rd
      have hz6 : bb < w5.heap.size := (HST5.out.own bb rfl).2
      clear hde hte
      go_wp2
      go_loopw [5] (fun o wr => ∃ (a0 : Option Addr) (m c0 : Nat), o = .slice a0 m c0 ∧ l.length ≤ m ∧ (m = l.length ∨ m ≤ 1001) ∧ ListSt 3 w wr g (P + 2 + (m - l.length)) (.slice a0 m c0) m ∧ HeldI wr g (.slice a0 m c0) w5.heap.size ek) (fun o _ => 1002 - lenOf o)
      case atStart => exact ⟨_, l.length, cc, rfl, Nat.le_refl _, Or.inl rfl, (HST5.out.below (below_alloc _ _) hg).later (by omega) (Nat.le_refl _), HeldI.new HDE.out hz5 (fun b hb => by simp [Value.ownBlock] at hb; omega)⟩
      case round =>
        clear HST5 HDE q0 q1 q2 p0 p1 p2 hbz hlb
        obtain ⟨a0, m, c0, rfl, hm1, hm2, hst, hh⟩ := hrel
        have HSJ : Hid (ListSt 3 w wr g (P + 2 + (m - l.length)) (.slice a0 m c0) m) := hst
        have HHJ : Hid (HeldI wr g (.slice a0 m c0) w5.heap.size ek) := hh
        clear hst hh
        go_upto_if 103 with (go_at_call 35; refine (s_pick g _ _ _ HSJ.out.rd (by omega) (by omega) (by omega)).mono ?_; rintro e w6 ⟨z, rfl, hz0, hz1, hrd6, hgr6⟩; have HS6 : Hid (ListSt 3 w w6 g (P + 2 + (m - l.length) + 1) (.slice a0 m c0) m) := HSJ.out.grown hgr6 hg hrd6; have HH6 : Hid (HeldI w6 g (.slice a0 m c0) w5.heap.size ek) := HHJ.out.grown hgr6; have hwz : IntKind.i64.wrap (1000 + z) = 1000 + z := (by rw [IntKind.wrap_i64]; omega))
        clear HSJ HHJ hrd6 hgr6
        by_cases hlt : (m : Int) < 1000 + z
        · obtain ⟨hzl, al, cl, l0, l1, l2, hdl⟩ := HH6.out.cells
          go_wp2_with (at_builtin; refine wpList_grow_len rfl _ _ rfl w _ g _ _ a0 m c0 rfl (HS6.out.below (below_alloc _ _) hg) hg ek _ _ [Value.int .i64 ek.code, .int .i64 ek.one.op, .slice al ek.one.args.length cl] rfl (RowOf.one rfl ⟨_, rfl, hdl.keep (KeepsIn.of_below (below_alloc _ _))⟩) (by exact cells_new _ _ _ _ (by simp)) (by intro u hu; simp at hu; rcases hu with rfl | rfl | rfl <;> rfl) HTE.out (by omega) ?_; intro a7 c7 w7 hst7 hheld7)
          go_roundw
          case rel => exact ⟨a7, m + 1, c7, rfl, by omega, by omega, hst7.later (by omega) (Nat.le_refl _), hheld7 _ _ (HH6.out.below (below_alloc _ _))⟩
          case measure => simp [lenOf]; omega
        · go_wp2
          go_ret
          exact ((HS6.out.wide (by omega)).later (by omega) (by omega)).list hg
    · clear q0 q1 q2 p0 p1 p2 hde hte hbz hlb
      go_upto_region 25 with (go_at_call_of 35 (l.length : Nat); refine (s_pick g _ _ _ HST5.out.rd (by omega) (by omega) (by omega)).mono ?_; rintro e w6 ⟨z, rfl, hz0, hz1, hrd6, hgr6⟩; have HST6 : Hid (ListSt 3 w w6 g (P + 3) (.slice (some ⟨bb, 0, none⟩) l.length cc) l.length) := HST5.out.grown hgr6 hg hrd6; have hs6 := hgr6.size; obtain ⟨j, hje⟩ := Int.eq_ofNat_of_zero_le hz0; subst hje)
      have hj : j < l.length := by omega
      clear HST5 hrd6 hgr6
      obtain ⟨ek, ae, ce, ⟨q0, q1, q2⟩, ⟨p0, p1, p2⟩, hde, hte, hbz, hlb⟩ := HST6.out.at hk
      obtain ⟨ej, aj, cj, ⟨r0, r1, r2⟩, ⟨s0, s1, s2⟩, hdj, htj, -, -⟩ := HST6.out.at hj
      go_upto_region 26 with fail
      have HST7 : Hid (ListSt 3 w (w6.alloc (.cells #[.int .i64 ek.code, .int .i64 ek.one.op, .slice ae ek.one.args.length ce] 31)) g (P + 3) (.slice (some ⟨bb, 0, none⟩) l.length cc) l.length) := HST6.out.below (below_alloc _ _) hg
      have HDK : Hid (DevsIn (Off g (.slice (some ⟨bb, 0, none⟩) l.length cc)) (w6.alloc (.cells #[.int .i64 ek.code, .int .i64 ek.one.op, .slice ae ek.one.args.length ce] 31)) (.slice ae ek.one.args.length ce) ek.one.args) := hde.keep (KeepsIn.of_below (below_alloc _ _))
      have HDJ : Hid (DevsIn (Off g (.slice (some ⟨bb, 0, none⟩) l.length cc)) (w6.alloc (.cells #[.int .i64 ek.code, .int .i64 ek.one.op, .slice ae ek.one.args.length ce] 31)) (.slice aj ej.one.args.length cj) ej.one.args) := hdj.keep (KeepsIn.of_below (below_alloc _ _))
      have v0 : (w6.alloc (.cells #[.int .i64 ek.code, .int .i64 ek.one.op, .slice ae ek.one.args.length ce] 31)).cell? ⟨w6.heap.size, 0, none⟩ = some (.int .i64 ek.code) := by simp [go_sem]
      have v1 : (w6.alloc (.cells #[.int .i64 ek.code, .int .i64 ek.one.op, .slice ae ek.one.args.length ce] 31)).cell? ⟨w6.heap.size, 1, none⟩ = some (.int .i64 ek.one.op) := by simp [go_sem]
      have v2 : (w6.alloc (.cells #[.int .i64 ek.code, .int .i64 ek.one.op, .slice ae ek.one.args.length ce] 31)).cell? ⟨w6.heap.size, 2, none⟩ = some (.slice ae ek.one.args.length ce) := by simp [go_sem]
      have hbi : bb ≠ w6.heap.size := by omega
      have HTK : Hid (ITame ek ∧ ek.one.args.length ≤ 3) := hte
      have HTJ : Hid (ITame ej ∧ ej.one.args.length ≤ 3) := htj
      clear q0 q1 q2 p0 p1 p2 r0 r1 r2 s0 s1 s2 hde hdj HST6 hte htj
      obtain ⟨w7, hw7⟩ : ∃ w7, w7 = w6.alloc (.cells #[.int .i64 ek.code, .int .i64 ek.one.op, .slice ae ek.one.args.length ce] 31) := ⟨_, rfl⟩
      rw [← hw7] at HST7 HDK HDJ v0 v1 v2 ⊢
      obtain ⟨iv, hiv⟩ : ∃ iv, iv = w6.heap.size := ⟨_, rfl⟩
      rw [← hiv] at v0 v1 v2 hbi ⊢
      clear hw7 hiv
      obtain ⟨ek7, ak7, ck7, ⟨q0, q1, q2⟩, ⟨p0, p1, p2⟩, -, -, hbz7, -⟩ := HST7.out.at hk
      clear HDJ HTJ
      obtain ⟨ej7, aj7, cj7, ⟨r0, r1, r2⟩, ⟨s0, s1, s2⟩, hdj7, htj7, -, -⟩ := HST7.out.at hj
      go_upto_region 27 with fail
      have HST8 := HST7.out.store (e := ej7) hg hk hdj7 htj7
      have HKP : KeepsIn (Off g (.slice (some ⟨bb, 0, none⟩) l.length cc)) w7 (((w7.setCell ⟨bb, k * 3, none⟩ (.int .i64 ej7.code)).setCell ⟨bb, k * 3 + 1, none⟩ (.int .i64 ej7.one.op)).setCell ⟨bb, k * 3 + 2, none⟩ (.slice aj7 ej7.one.args.length cj7)) := ((KeepsIn.set (fun h => h.2 rfl) _).trans (KeepsIn.set (fun h => h.2 rfl) _)).trans (KeepsIn.set (fun h => h.2 rfl) _)
      have HD8 := HDK.out.keep HKP
      clear HKP
      have HST9 := HST8.store (e := ek) hg hj HD8 HTK.out
      have v3 : (((w7.setCell ⟨bb, k * 3, none⟩ (.int .i64 ej7.code)).setCell ⟨bb, k * 3 + 1, none⟩ (.int .i64 ej7.one.op)).setCell ⟨bb, k * 3 + 2, none⟩ (.slice aj7 ej7.one.args.length cj7)).cell? ⟨iv, 0, none⟩ = some (.int .i64 ek.code) := (cell_set_other (Ne.symm hbi)).trans ((cell_set_other (Ne.symm hbi)).trans ((cell_set_other (Ne.symm hbi)).trans v0))
      have v4 : (((w7.setCell ⟨bb, k * 3, none⟩ (.int .i64 ej7.code)).setCell ⟨bb, k * 3 + 1, none⟩ (.int .i64 ej7.one.op)).setCell ⟨bb, k * 3 + 2, none⟩ (.slice aj7 ej7.one.args.length cj7)).cell? ⟨iv, 1, none⟩ = some (.int .i64 ek.one.op) := (cell_set_other (Ne.symm hbi)).trans ((cell_set_other (Ne.symm hbi)).trans ((cell_set_other (Ne.symm hbi)).trans v1))
      have v5 : (((w7.setCell ⟨bb, k * 3, none⟩ (.int .i64 ej7.code)).setCell ⟨bb, k * 3 + 1, none⟩ (.int .i64 ej7.one.op)).setCell ⟨bb, k * 3 + 2, none⟩ (.slice aj7 ej7.one.args.length cj7)).cell? ⟨iv, 2, none⟩ = some (.slice ae ek.one.args.length ce) := (cell_set_other (Ne.symm hbi)).trans ((cell_set_other (Ne.symm hbi)).trans ((cell_set_other (Ne.symm hbi)).trans v2))
      clear q0 q1 q2 p0 p1 p2 r0 r1 r2 s0 s1 s2 v0 v1 v2
      obtain ⟨W8, hW8⟩ : ∃ W8, W8 = ((w7.setCell ⟨bb, k * 3, none⟩ (.int .i64 ej7.code)).setCell ⟨bb, k * 3 + 1, none⟩ (.int .i64 ej7.one.op)).setCell ⟨bb, k * 3 + 2, none⟩ (.slice aj7 ej7.one.args.length cj7) := ⟨_, rfl⟩
      rw [← hW8] at HST8 HST9 v3 v4 v5 ⊢
      clear hW8 HD8
      obtain ⟨ek8, ak8, ck8, ⟨q0, q1, q2⟩, ⟨p0, p1, p2⟩, -, -, -, -⟩ := HST8.at hj
      go_wp2
      go_ret
      exact ((HST9.wide (by omega)).later (by omega) (by omega)).list hg
    · clear q0 q1 q2 p0 p1 p2 hde hte hbz hlb
      go_wp2_with (go_at_call 48; refine (s_l2Any g _ _ HST5.out.rd (by omega)).mono ?_; rintro e w6 ⟨op, av, ds, rfl, hop, hav, hsd, hdl, hrd6, hgr6⟩; have HST6 : Hid (ListSt 3 w w6 g (P + 200) (.slice (some ⟨bb, 0, none⟩) l.length cc) l.length) := HST5.out.grown hgr6 hg (rd_mono hrd6 (by omega)); obtain ⟨ek, ae, ce, ⟨q0, q1, q2⟩, ⟨p0, p1, p2⟩, hde, hte, hbz, hlb⟩ := HST6.out.at hk; have HAV : Hid (DevsIn (Off g (.slice (some ⟨bb, 0, none⟩) l.length cc)) w6 av ds) := (devs_of_el hav).mono (fun b _ hb => (by exact ⟨by omega, by simp [Value.ownBlock]; omega⟩)); obtain ⟨ai, ci, rfl, -⟩ := id hav)
      go_ret
      exact (((HST6.out.wide (q' := 4) (by omega)).one (o := ⟨op, ds⟩) hg hk HAV.out ⟨⟨hop, hsd, by simp only; omega⟩, hdl⟩).later (by omega) (by omega)).list hg
end Go.Proofs.YtipdjmbgbehkaaaGreatDoor
/- Contracts of the specification's draws: lists for the verifier. -/
namespace Go.Proofs.YtipdjmbgbehkaaaGreatDoor
open Go.RowKit Go.Sort Go.BigFrame
/-- What a draw of a list leaves: instructions in new memory. -/
def HalfOut (e : Ending) (w w' : World) : Prop := ∃ (l : List Stil.Inst) (v : Value), e = .returned v ∧ InstsIn (fun b => w.heap.size < b) w' v l ∧ (∀ i ∈ l, ITame i ∧ i.one.args.length ≤ 4) ∧ l.length ≤ 80000 ∧ Below w.heap.size w w'
theorem ListOut.half {q : Nat} {e : Ending} {w w1 w' : World} {P n : Nat} (h : ListOut q e w1 w' w.heap.size P n) (hb : Below w.heap.size w w1) (hq : q ≤ 4) (hn : n ≤ 80000) : HalfOut e w w' := by
  obtain ⟨l, v, h1, h2, h3, h4, h5, h6⟩ := h
  exact ⟨l, v, h1, h2, fun i hi => ⟨(h3 i hi).1, Nat.le_trans (h3 i hi).2 hq⟩, Nat.le_trans h4 hn, hb.trans h6⟩
end Go.Proofs.YtipdjmbgbehkaaaGreatDoor
