/- The laws' copies of nets, in memory of their own. -/
import Derived.Test.YthhfnncehfkbfaaDoorY1
import Derived.Test.YthhfnncehfkbfaaDoorGL
import Derived.OneCell
namespace Go.Proofs.YthhfnncehfkbfaaDoor
open Go.RowKit Go.Sort Go.BigFrame
/-- A net is answered that owns its memory. -/
def NetRet (w : World) (base : Nat) (n : Stil.Net) (e : Ending) : Prop := ∃ (k op : Int) (ds : List Stil.Dev) (a1 : Option Addr) (c1 : Nat) (a2 : Option Addr) (c2 : Nat) (ms : List MNet), e = .returned (.agg #[.int .i64 k, .int .i64 op, .slice a1 ds.length c1, .slice a2 ms.length c2]) ∧
  MOwn w base ⟨k, op, ds, .slice a1 ds.length c1, .slice a2 ms.length c2, ms⟩ ∧ (MNet.mk k op ds (.slice a1 ds.length c1) (.slice a2 ms.length c2) ms).net = n
/-- The first nets of a row that is being filled. -/
def Pre4 (xs : List Value) (ms : List MNet) : Prop := ∀ j, j < ms.length * 4 → xs[j]? = (mCells ms)[j]?
theorem Pre4.snoc {xs : List Value} {ms : List MNet} {m : MNet} {k : Nat} (h : Pre4 xs ms) (hk : ms.length = k) (hl : k * 4 + 4 ≤ xs.length) : Pre4 ((((xs.set (k * 4) (.int .i64 m.kind)).set (k * 4 + 1) (.int .i64 m.op)).set (k * 4 + 2) m.av).set (k * 4 + 3) m.kv) (ms ++ [m]) := by
  intro j hj
  rw [mCells_append, mCells_one]
  have hlen := mCells_len ms
  simp only [List.length_append, List.length_singleton] at hj
  by_cases h1 : j < k * 4
  · rw [List.getElem?_append_left (by omega), List.getElem?_set_ne (by omega), List.getElem?_set_ne (by omega), List.getElem?_set_ne (by omega), List.getElem?_set_ne (by omega)]
    exact h j (by omega)
  · rw [List.getElem?_append_right (by omega)]
    have hx : j = k * 4 ∨ j = k * 4 + 1 ∨ j = k * 4 + 2 ∨ j = k * 4 + 3 := by omega
    rcases hx with e | e | e | e
    · subst e
      rw [List.getElem?_set_ne (by omega), List.getElem?_set_ne (by omega), List.getElem?_set_ne (by omega), List.getElem?_set_self (by omega)]
      have e2 : k * 4 - (mCells ms).length = 0 := by omega
      rw [e2]; rfl
    · subst e
      rw [List.getElem?_set_ne (by omega), List.getElem?_set_ne (by omega), List.getElem?_set_self (by simp; omega)]
      have e2 : k * 4 + 1 - (mCells ms).length = 1 := by omega
      rw [e2]; rfl
    · subst e
      rw [List.getElem?_set_ne (by omega), List.getElem?_set_self (by simp; omega)]
      have e2 : k * 4 + 2 - (mCells ms).length = 2 := by omega
      rw [e2]; rfl
    · subst e
      rw [List.getElem?_set_self (by simp; omega)]
      have e2 : k * 4 + 3 - (mCells ms).length = 3 := by omega
      rw [e2]; rfl
theorem Pre4.all {xs : List Value} {ms : List MNet} (h : Pre4 xs ms) (hl : xs.length = ms.length * 4) : xs = mCells ms := by
  refine List.ext_getElem? (fun j => ?_)
  by_cases hj : j < ms.length * 4
  · exact h j hj
  · rw [List.getElem?_eq_none (by omega), List.getElem?_eq_none (by rw [mCells_len]; omega)]
theorem MOk.set {w : World} {base : Nat} {m : MNet} (h : MOk w base m) {a : Addr} (ha : a.block < base) (u : Value) : MOk (w.setCell a u) base m := MOk.map m h (fun _ _ _ _ _ _ ho => ownsRow_setCell_below ho ha u)
theorem MOk.set4 {w : World} {base b o1 o2 o3 o4 : Nat} {m : MNet} {u1 u2 u3 u4 : Value} (h : MOk w base m) (hb : b < base) : MOk ((((w.setCell ⟨b, o1, none⟩ u1).setCell ⟨b, o2, none⟩ u2).setCell ⟨b, o3, none⟩ u3).setCell ⟨b, o4, none⟩ u4) base m :=
  MOk.set (MOk.set (MOk.set (MOk.set h (a := ⟨b, o1, none⟩) hb u1) (a := ⟨b, o2, none⟩) hb u2) (a := ⟨b, o3, none⟩) hb u3) (a := ⟨b, o4, none⟩) hb u4
theorem MOwn.set {w : World} {base : Nat} {m : MNet} (h : MOwn w base m) {a : Addr} (ha : a.block < base) (u : Value) : MOwn (w.setCell a u) base m := ⟨h.1.set ha u, h.2⟩
theorem MRow.set {w : World} {base : Nat} {v : Value} {ms : List MNet} (h : MRow w base v ms) {a : Addr} (ha : a.block < base) (u : Value) : MRow (w.setCell a u) base v ms := ⟨ownsRow_setCell_below h.1 ha u, fun m hm => (h.2.1 m hm).set ha u, h.2.2⟩
theorem vals_snoc {w w2 : World} {base b2 : Nat} {ms : List MNet} {m : MNet} (h : ∀ x ∈ ms, MOk w base x) (hp : (mVals ms).Pairwise Aside) (hm : MOwn w2 b2 m) (hb : w.heap.size ≤ b2) : (mVals (ms ++ [m])).Pairwise Aside := by
  rw [mVals_append, mVals_one, List.pairwise_append]
  refine ⟨hp, hm.2, fun x hx y hy => aside_new (n := w.heap.size) (fun k hk => ?_) (fun k hk => ?_)⟩
  · obtain ⟨z, hz, hx⟩ := mem_mVals.1 hx
    exact ((h z hz).lt z x hx k hk).2
  · exact Nat.le_trans hb (hm.1.lt m y hy k hk).1
set_option maxHeartbeats 4000000 in
set_option maxRecDepth 100000 in
theorem l_toNetsM (es : List Stil.Net) (ih : ∀ x ∈ es, ∀ (av kv : Value) (w : World), DevsAt w av x.one.args → NetsAt w kv x.kids → Calls Tryd.prog 6 #[.agg #[.int .i64 x.kind, .int .i64 x.one.op, av, kv]] w fun e w' => NetRet w' w.heap.size x e ∧ Below w.heap.size w w')
    (v : Value) (w : World) (hat : NetsAt w v es) (hl : es.length ≤ 1048576) :
    Calls Tryd.prog 17 #[v] w fun e w' => ∃ ms : List MNet, ms.map MNet.net = es ∧ e = .returned (.slice (some ⟨w.heap.size, 0, none⟩) ms.length ms.length) ∧ MRow w' w.heap.size (.slice (some ⟨w.heap.size, 0, none⟩) ms.length ms.length) ms ∧ Below w.heap.size w w' := by
  obtain ⟨i0, hi, hz0, hz1, hz2⟩ := info_parts info_Net
  obtain ⟨a, cap, rfl, hc⟩ := hat
  have HA : Hid (∀ i (h : i < es.length), ∃ b o, a = some ⟨b, o, none⟩ ∧ b < w.heap.size ∧ NetAt w b (o + i * 4) es[i]) := hc
  have IH : Hid (∀ x ∈ es, ∀ (av kv : Value) (w : World), DevsAt w av x.one.args → NetsAt w kv x.kids → Calls Tryd.prog 6 #[.agg #[.int .i64 x.kind, .int .i64 x.one.op, av, kv]] w fun e w' => NetRet w' w.heap.size x e ∧ Below w.heap.size w w') := ih
  clear hc ih
  go_enter Tryd.func17, Tryd.ntmps17
  go_wp2_with (at_make; refine wpList_make_full _ rfl _ _ 32 rfl w.heap.size 34 i0 (.agg #[.int .i64 0, .int .i64 0, .slice none 0 0, .slice none 0 0]) 4 Tryd.underlying32 hi hz0 hz1 _ _ _ _ es.length rfl rfl rfl rfl ?c1 ?c2 (Nat.le_refl _) ?_)
  case c1 => rw [hz2]; omega
  case c2 => unfold maxLen; omega
  intro w1 hown1 hgr1
  have hb1 : Below w.heap.size w w1 := (Below.refl _ _).grown hgr1 (Nat.le_refl _) (fun _ h => by cases h)
  have hs1 : w.heap.size < w1.heap.size := (hown1.lt w.heap.size rfl).2
  go_wp2
  go_loopw [4] (fun i wr => ∃ (k : Nat) (xs : List Value) (ms : List MNet), k ≤ es.length ∧ i = .int .i64 k ∧ ms.map MNet.net = es.take k ∧ wr.ownsRow w.heap.size 34 4 (.slice (some ⟨w.heap.size, 0, none⟩) es.length es.length) es.length xs ∧ w.heap.size < wr.heap.size ∧ Pre4 xs ms ∧ (∀ m ∈ ms, MOk wr (w.heap.size + 1) m) ∧ (mVals ms).Pairwise Aside ∧ Below w.heap.size w wr) (fun i _ => es.length - (intOf i).toNat)
  case atStart => exact ⟨0, _, [], by omega, rfl, rfl, hown1, hs1, fun j hj => absurd hj (by simp), (fun m hm => by cases hm), List.Pairwise.nil, hb1⟩
  case round =>
    clear hown1 hgr1 hb1 hs1
    obtain ⟨k, xs, ms, hk, rfl, hms, hown, hsz, hpre, hmk, hpw, hb⟩ := hrel
    have HPR : Hid (Pre4 xs ms ∧ (∀ m ∈ ms, MOk wr (w.heap.size + 1) m) ∧ (mVals ms).Pairwise Aside) := ⟨hpre, hmk, hpw⟩
    have HMS : Hid (ms.map MNet.net = es.take k) := hms
    clear hpre hmk hpw hms
    by_cases hlt : k < es.length
    · obtain ⟨b, o, rfl, hbl, hn⟩ := HA.out k hlt
      obtain ⟨x0, x1, av, kv, x2, x3, hav, hkv⟩ := (NetAt.below hb _ _ _ hn hbl).open
      have HI : Hid (∀ W, Below wr.heap.size wr W → Calls Tryd.prog 6 #[.agg #[.int .i64 es[k].kind, .int .i64 es[k].one.op, av, kv]] W fun e w' => NetRet w' W.heap.size es[k] e ∧ Below W.heap.size W w') := fun W hW => IH.out es[k] (List.getElem_mem hlt) av kv W (hav.below hW) (hkv.below hW)
      obtain ⟨x, hx⟩ : ∃ x, x = es[k] := ⟨_, rfl⟩
      rw [← hx] at HI x0 x1 hav hkv
      have HX : Hid (x = es[k]) := hx
      obtain ⟨p0, r0, rfl, _⟩ := hav
      obtain ⟨p1, r1, rfl, _⟩ := hkv
      clear hx hn
      go_wp2_with (go_at_call 6; refine (HI.out _ (by (repeat (first | exact Below.refl _ _ | assumption | refine bl_alloc ?_ _ | refine bl_drewN ?_ _ | refine bl_drew ?_ | refine bl_grow ?_ _ _ | refine bl_set (Nat.le_refl _) ?_ _ | refine bl_call ?_ (by assumption))))).mono ?_; rintro e w2 ⟨⟨mk, mop, mds, s0, t0, s1, t1, mks, rfl, hmo, hmn⟩, hb2⟩; have HMO : Hid (MOwn w2 _ ⟨mk, mop, mds, .slice s0 mds.length t0, .slice s1 mks.length t1, mks⟩) := hmo; have HMN : Hid ((MNet.mk mk mop mds (.slice s0 mds.length t0) (.slice s1 mks.length t1) mks).net = x) := hmn; clear hmo hmn; have hown2 := ownsRow_below hown hb2; obtain ⟨⟨v0, q0⟩, ⟨v1, q1⟩, ⟨v2, q2⟩, ⟨v3, q3⟩⟩ := rowN4 hown2 k hlt; obtain ⟨f0, f1, f2, f3⟩ := frozN4 hown2 k)
      have m0 := (hown2.stored (k * 4) (.int .i64 mk)).1
      have m1 := (m0.stored (k * 4 + 1) (.int .i64 mop)).1
      have m2 := (m1.stored (k * 4 + 2) (.slice s0 mds.length t0)).1
      have m3 := (m2.stored (k * 4 + 3) (.slice s1 mks.length t1)).1
      obtain ⟨hpre, hmk, hpw⟩ := HPR.out
      have hmo := HMO.out
      have hlen : ms.length = k := by
        have := congrArg List.length HMS.out
        simpa [List.length_take, Nat.min_eq_left (Nat.le_of_lt hlt)] using this
      refine ⟨⟨k + 1, _, ms ++ [⟨mk, mop, mds, .slice s0 mds.length t0, .slice s1 mks.length t1, mks⟩], by omega, by go_num, ?_, m3, ?_, ?_, ?_, ?_, bl_set (Nat.le_refl _) (bl_set (Nat.le_refl _) (bl_set (Nat.le_refl _) (bl_set (Nat.le_refl _) (bl_call hb hb2) _) _) _) _⟩, by simp [intOf]; omega⟩
      · rw [List.map_append, HMS.out, List.take_succ_eq_append_getElem hlt, ← HX.out, ← HMN.out]; rfl
      · exact Nat.lt_of_lt_of_le (Nat.lt_of_lt_of_le hsz hb2.size) (Nat.le_trans (sizeSet _ _ _) (Nat.le_trans (sizeSet _ _ _) (Nat.le_trans (sizeSet _ _ _) (sizeSet _ _ _))))
      · refine Pre4.snoc (m := ⟨mk, mop, mds, .slice s0 mds.length t0, .slice s1 mks.length t1, mks⟩) hpre hlen ?_
        have := hown.1
        omega
      · intro m hm
        refine MOk.set4 ?_ (Nat.lt_succ_self _)
        rcases List.mem_append.1 hm with hm | hm
        · exact (hmk m hm).below hb2
        · obtain rfl := List.mem_singleton.1 hm
          exact hmo.1.le hsz
      · exact vals_snoc hmk hpw hmo (Nat.le_refl _)
    · obtain rfl : k = es.length := by omega
      obtain ⟨hpre, hmk, hpw⟩ := HPR.out
      have hms := HMS.out
      rw [List.take_length] at hms
      have hlen : ms.length = es.length := by rw [← hms]; simp
      have hxs := hpre.all (by rw [hlen]; exact hown.1)
      subst hxs
      go_wp2
      go_ret
      have hmr : MRow wr w.heap.size (.slice (some ⟨w.heap.size, 0, none⟩) ms.length ms.length) ms := by
        refine ⟨by rw [hlen]; exact hown, fun m hm => (hmk m hm).le (Nat.le_succ _), ?_⟩
        rw [List.pairwise_cons]
        refine ⟨fun y hy => aside_new (n := w.heap.size + 1) (fun j hj => ?_) (fun j hj => ?_), hpw⟩
        · have e : w.heap.size = j := by simpa [Value.ownBlock] using hj
          omega
        · obtain ⟨z, hz, hy⟩ := mem_mVals.1 hy
          exact ((hmk z hz).lt z y hy j hj).1
      refine ⟨ms, hms, ?_, hmr, hb⟩
      rw [hlen]
      rfl
set_option maxHeartbeats 1000000 in
set_option maxRecDepth 100000 in
theorem l_toNetM (n : Stil.Net) : Stil.netFits n → ∀ (av kv : Value) (w : World), DevsAt w av n.one.args → NetsAt w kv n.kids → Calls Tryd.prog 6 #[.agg #[.int .i64 n.kind, .int .i64 n.one.op, av, kv]] w fun e w' => NetRet w' w.heap.size n e ∧ Below w.heap.size w w' := by
  induction n using Stil.net_ind with
  | h k e kids ih =>
    intro hft av kv w hav hkv
    obtain ⟨_, he, hl, hk⟩ := (Stil.netFits_eq _ _ _).1 hft
    simp only at hav hkv
    have H1 : Hid (∀ W, Below w.heap.size w W → Calls Tryd.prog 16 #[.agg #[.int .i64 e.op, av]] W fun e' w' => ∃ u, e' = .returned (.agg #[.int .i64 e.op, u]) ∧ w'.ownsRow W.heap.size 69 3 u e.args.length (devsCells e.args) ∧ Below W.heap.size W w') := fun W hW => l_toElem e.op av e.args W (hav.below hW) he.2.1
    have H2 : Hid (∀ W, Below w.heap.size w W → Calls Tryd.prog 17 #[kv] W fun e w' => ∃ ms : List MNet, ms.map MNet.net = kids ∧ e = .returned (.slice (some ⟨W.heap.size, 0, none⟩) ms.length ms.length) ∧ MRow w' W.heap.size (.slice (some ⟨W.heap.size, 0, none⟩) ms.length ms.length) ms ∧ Below W.heap.size W w') := fun W hW => l_toNetsM kids (fun x hx => ih x hx (hk x hx)) kv W (hkv.below hW) hl
    obtain ⟨p0, r0, rfl, _⟩ := hav
    obtain ⟨p1, r1, rfl, _⟩ := hkv
    clear ih hft he hl hk
    go_enter Tryd.func6, Tryd.ntmps6
    go_wp2_with (first | (go_at_call 16; refine (H1.out _ (by (repeat (first | with_reducible exact Below.refl _ _ | with_reducible assumption | with_reducible refine bl_set (by first | exact Nat.le_refl _ | (simp; done) | (simp; omega) | omega) ?_ _ | with_reducible refine bl_alloc ?_ _ | with_reducible refine bl_drewN ?_ _ | with_reducible refine bl_drew ?_ | with_reducible refine bl_grow ?_ _ _ | with_reducible refine bl_call ?_ (by assumption))))).mono ?_; rintro e w1 ⟨u, rfl, g1, hb⟩; obtain ⟨s0, t0, hu⟩ := slice_of_owns g1; subst hu; obtain ⟨hc, hf⟩ := bcell hb; have hza : w.heap.size < w1.heap.size := Nat.lt_of_lt_of_le (by simp; omega) hb.size; have hzb : w.heap.size + 1 < w1.heap.size := Nat.lt_of_lt_of_le (by simp) hb.size; have hzc : w.heap.size + 1 + 1 < w1.heap.size := Nat.lt_of_lt_of_le (by simp) hb.size) | (go_at_call 17; refine (H2.out _ (by (repeat (first | with_reducible exact Below.refl _ _ | with_reducible assumption | with_reducible refine bl_set (by first | exact Nat.le_refl _ | (simp; done) | (simp; omega) | omega) ?_ _ | with_reducible refine bl_alloc ?_ _ | with_reducible refine bl_drewN ?_ _ | with_reducible refine bl_drew ?_ | with_reducible refine bl_grow ?_ _ _ | with_reducible refine bl_call ?_ (by assumption))))).mono ?_; rintro e w2 ⟨ms, hms, rfl, g2, hb2⟩; have HMS : Hid (ms.map MNet.net = kids) := hms; have HG2 : Hid (MRow w2 _ _ ms) := g2; clear g2 hms; obtain ⟨hc2, hf2⟩ := bcell hb2))
    have b0 : w2.cell? ⟨w.heap.size + 1, 0, none⟩ = some (.int .i64 0) := by rw [hc2 _ _ (by simp; omega)]; simp [go_sem, hc]
    have b1 : w2.cell? ⟨w.heap.size + 1, 1, none⟩ = some (.int .i64 0) := by rw [hc2 _ _ (by simp; omega)]; simp [go_sem, hc]
    have b2 : w2.cell? ⟨w.heap.size + 1, 2, none⟩ = some (.slice none 0 0) := by rw [hc2 _ _ (by simp; omega)]; simp [go_sem, hc]
    have b3 : w2.cell? ⟨w.heap.size + 1, 3, none⟩ = some (.slice none 0 0) := by rw [hc2 _ _ (by simp; omega)]; simp [go_sem, hc]
    have g2 := HG2.out
    simp only [World.size_setCell] at g2
    have ga : w2.ownsRow (w.heap.size + 3) 69 3 (.slice s0 e.args.length t0) e.args.length (devsCells e.args) := by
      refine ownsRow_below ?_ hb2
      repeat (refine ownsRow_setCell_below ?_ (by first | (simp; done) | (simp; omega)) _)
      exact Joins.ownsRow_le g1 (by simp)
    have g1l := g1.lt
    refine bodyPost_ret (v := .agg #[.int .i64 k, .int .i64 e.op, .slice s0 e.args.length t0, .slice (some ⟨w1.heap.size, 0, none⟩) ms.length ms.length]) (by simp [results, Tryd.results6, go_sem, b0, b1, b2, b3]) rfl ⟨⟨k, e.op, e.args, s0, t0, some ⟨w1.heap.size, 0, none⟩, ms.length, ms, rfl, ?_, ?_⟩, ?_⟩
    · refine MOwn.le (base := w.heap.size + 3) ?_ (by omega)
      repeat (refine MOwn.set ?_ (by first | (simp; done) | (simp; omega)) _)
      exact MRow.net k e.op e.args (g2.le (by omega)) ga (fun x hx => aside_new (n := w1.heap.size) (fun j hj => (g1l j hj).2) (fun j hj => (g2.lt x hx j hj).1))
    · rw [MNet.net_eq]
      simp only
      rw [HMS.out]
    · (repeat (first | with_reducible exact Below.refl _ _ | with_reducible assumption | with_reducible refine bl_set (by first | exact Nat.le_refl _ | (simp; done) | (simp; omega) | omega) ?_ _ | with_reducible refine bl_alloc ?_ _ | with_reducible refine bl_drewN ?_ _ | with_reducible refine bl_drew ?_ | with_reducible refine bl_grow ?_ _ _ | with_reducible refine bl_call ?_ (by assumption)))
end Go.Proofs.YthhfnncehfkbfaaDoor
