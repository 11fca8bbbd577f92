/- Z6, Z6b, Z6c, Z7a: texts put together. -/
import Derived.Test.YtbllmkmdaenglaaGreatDoorGq
import Derived.Test.YtbllmkmdaenglaaGreatDoorY6d
import Derived.Test.YtbllmkmdaenglaaGreatDoorGL
import Derived.Test.YtbllmkmdaenglaaGreatDoorGm
/- The laws' copies of coils and arms, in memory of their own. -/
namespace Go.Proofs.YtbllmkmdaenglaaGreatDoor
open Go.RowKit Go.Sort Go.BigFrame
def Pre2 (xs : List Value) (ms : List MElem) : Prop := ∀ j, j < ms.length * 2 → xs[j]? = (eCells ms)[j]?
theorem Pre2.snoc {xs : List Value} {ms : List MElem} {m : MElem} {k : Nat} (h : Pre2 xs ms) (hk : ms.length = k) (hl : k * 2 + 2 ≤ xs.length) : Pre2 ((xs.set (k * 2) (.int .i64 m.op)).set (k * 2 + 1) m.av) (ms ++ [m]) := by
  intro j hj
  rw [eCells_append, eCells_one]
  have hlen := eCells_len ms
  simp only [List.length_append, List.length_singleton] at hj
  by_cases h1 : j < k * 2
  · rw [List.getElem?_append_left (by omega), List.getElem?_set_ne (by omega), List.getElem?_set_ne (by omega)]
    exact h j (by omega)
  · rw [List.getElem?_append_right (by omega)]
    have hx : j = k * 2 ∨ j = k * 2 + 1 := by omega
    rcases hx with e | e
    · subst e
      rw [List.getElem?_set_ne (by omega), List.getElem?_set_self (by omega)]
      have e2 : k * 2 - (eCells ms).length = 0 := by omega
      rw [e2]; rfl
    · subst e
      rw [List.getElem?_set_self (by simp; omega)]
      have e2 : k * 2 + 1 - (eCells ms).length = 1 := by omega
      rw [e2]; rfl
theorem Pre2.all {xs : List Value} {ms : List MElem} (h : Pre2 xs ms) (hl : xs.length = ms.length * 2) : xs = eCells ms := by
  refine List.ext_getElem? (fun j => ?_)
  by_cases hj : j < ms.length * 2
  · exact h j hj
  · rw [List.getElem?_eq_none (by omega), List.getElem?_eq_none (by rw [eCells_len]; omega)]
def Pre6 (xs : List Value) (ms : List MArm) : Prop := ∀ j, j < ms.length * 6 → xs[j]? = (aCells ms)[j]?
theorem Pre6.snoc {xs : List Value} {ms : List MArm} {m : MArm} {k : Nat} (h : Pre6 xs ms) (hk : ms.length = k) (hl : k * 6 + 6 ≤ xs.length) : Pre6 ((((((xs.set (k * 6) (.int .i64 m.net.kind)).set (k * 6 + 1) (.int .i64 m.net.op)).set (k * 6 + 2) m.net.av).set (k * 6 + 3) m.net.kv).set (k * 6 + 4) m.cv).set (k * 6 + 5) m.kv) (ms ++ [m]) := by
  intro j hj
  rw [aCells_append, aCells_one]
  have hlen := aCells_len ms
  simp only [List.length_append, List.length_singleton] at hj
  by_cases h1 : j < k * 6
  · rw [List.getElem?_append_left (by omega), List.getElem?_set_ne (by omega), List.getElem?_set_ne (by omega), List.getElem?_set_ne (by omega), List.getElem?_set_ne (by omega), List.getElem?_set_ne (by omega), List.getElem?_set_ne (by omega)]
    exact h j (by omega)
  · rw [List.getElem?_append_right (by omega)]
    have hx : j = k * 6 ∨ j = k * 6 + 1 ∨ j = k * 6 + 2 ∨ j = k * 6 + 3 ∨ j = k * 6 + 4 ∨ j = k * 6 + 5 := by omega
    rcases hx with e | e | e | e | e | e
    · subst e
      rw [List.getElem?_set_ne (by omega), List.getElem?_set_ne (by omega), List.getElem?_set_ne (by omega), List.getElem?_set_ne (by omega), List.getElem?_set_ne (by omega), List.getElem?_set_self (by omega)]
      have e2 : k * 6 - (aCells ms).length = 0 := by omega
      rw [e2]; rfl
    · subst e
      rw [List.getElem?_set_ne (by omega), List.getElem?_set_ne (by omega), List.getElem?_set_ne (by omega), List.getElem?_set_ne (by omega), List.getElem?_set_self (by simp; omega)]
      have e2 : k * 6 + 1 - (aCells ms).length = 1 := by omega
      rw [e2]; rfl
    · subst e
      rw [List.getElem?_set_ne (by omega), List.getElem?_set_ne (by omega), List.getElem?_set_ne (by omega), List.getElem?_set_self (by simp; omega)]
      have e2 : k * 6 + 2 - (aCells ms).length = 2 := by omega
      rw [e2]; rfl
    · subst e
      rw [List.getElem?_set_ne (by omega), List.getElem?_set_ne (by omega), List.getElem?_set_self (by simp; omega)]
      have e2 : k * 6 + 3 - (aCells ms).length = 3 := by omega
      rw [e2]; rfl
    · subst e
      rw [List.getElem?_set_ne (by omega), List.getElem?_set_self (by simp; omega)]
      have e2 : k * 6 + 4 - (aCells ms).length = 4 := by omega
      rw [e2]; rfl
    · subst e
      rw [List.getElem?_set_self (by simp; omega)]
      have e2 : k * 6 + 5 - (aCells ms).length = 5 := by omega
      rw [e2]; rfl
theorem Pre6.all {xs : List Value} {ms : List MArm} (h : Pre6 xs ms) (hl : xs.length = ms.length * 6) : xs = aCells ms := by
  refine List.ext_getElem? (fun j => ?_)
  by_cases hj : j < ms.length * 6
  · exact h j hj
  · rw [List.getElem?_eq_none (by omega), List.getElem?_eq_none (by rw [aCells_len]; omega)]

theorem EOk.set {w : World} {base : Nat} {m : MElem} (h : EOk w base m) {a : Addr} (ha : a.block < base) (u : Value) : EOk (w.setCell a u) base m := ownsRow_setCell_below h ha u
theorem EOk.set2 {w : World} {base b o1 o2 : Nat} {m : MElem} {u1 u2 : Value} (h : EOk w base m) (hb : b < base) : EOk ((w.setCell ⟨b, o1, none⟩ u1).setCell ⟨b, o2, none⟩ u2) base m := EOk.set (EOk.set h (a := ⟨b, o1, none⟩) hb u1) (a := ⟨b, o2, none⟩) hb u2
theorem AOk.set {w : World} {base : Nat} {m : MArm} (h : AOk w base m) {a : Addr} (ha : a.block < base) (u : Value) : AOk (w.setCell a u) base m := AOk.map m h (fun _ _ _ _ _ _ ho => ownsRow_setCell_below ho ha u)
theorem AOk.set6 {w : World} {base b o1 o2 o3 o4 o5 o6 : Nat} {m : MArm} {u1 u2 u3 u4 u5 u6 : Value} (h : AOk w base m) (hb : b < base) : AOk ((((((w.setCell ⟨b, o1, none⟩ u1).setCell ⟨b, o2, none⟩ u2).setCell ⟨b, o3, none⟩ u3).setCell ⟨b, o4, none⟩ u4).setCell ⟨b, o5, none⟩ u5).setCell ⟨b, o6, none⟩ u6) base m :=
  AOk.set (AOk.set (AOk.set (AOk.set (AOk.set (AOk.set h (a := ⟨b, o1, none⟩) hb u1) (a := ⟨b, o2, none⟩) hb u2) (a := ⟨b, o3, none⟩) hb u3) (a := ⟨b, o4, none⟩) hb u4) (a := ⟨b, o5, none⟩) hb u5) (a := ⟨b, o6, none⟩) hb u6
theorem AOwn.set {w : World} {base : Nat} {m : MArm} (h : AOwn w base m) {a : Addr} (ha : a.block < base) (u : Value) : AOwn (w.setCell a u) base m := ⟨h.1.set ha u, h.2⟩
set_option maxHeartbeats 4000000 in
set_option maxRecDepth 100000 in
theorem l_toElemsM (es : List Stil.Elem) (hfit : ∀ x ∈ es, x.fits) (v : Value) (w : World) (hat : ElemsAt w v es) (hl : es.length ≤ 1048576) :
    Calls Tryz.prog 47 #[v] w fun e w' => ∃ ms : List MElem, ms.map MElem.elem = es ∧ e = .returned (.slice (some ⟨w.heap.size, 0, none⟩) ms.length ms.length) ∧ ERow w' w.heap.size (.slice (some ⟨w.heap.size, 0, none⟩) ms.length ms.length) ms ∧ Below w.heap.size w w' := by
  obtain ⟨i0, hi, hz0, hz1, hz2⟩ := info_parts info_Elem
  obtain ⟨a, cap, rfl, hc⟩ := hat
  have HA : Hid (∀ i (h : i < es.length), ∃ b o, a = some ⟨b, o, none⟩ ∧ b < w.heap.size ∧ ElemAt w b (o + i * 2) es[i]) := hc
  have HF : Hid (∀ x ∈ es, x.fits) := hfit
  clear hc hfit
  go_enter Tryz.func47, Tryz.ntmps47
  go_wp2_with (at_make; refine wpList_make_full _ rfl _ _ 50 rfl w.heap.size 46 i0 (.agg #[.int .i64 0, .slice none 0 0]) 2 Tryz.underlying50 hi hz0 hz1 _ _ _ _ es.length rfl rfl rfl rfl ?c1 ?c2 (Nat.le_refl _) ?_)
  case c1 => rw [hz2]; omega
  case c2 => unfold maxLen; omega
  intro w1 hown1 hgr1
  have hb1 : Below w.heap.size w w1 := (Below.refl _ _).grown hgr1 (Nat.le_refl _) (fun _ h => by cases h)
  have hs1 : w.heap.size < w1.heap.size := (hown1.lt w.heap.size rfl).2
  go_wp2
  go_loopw [4] (fun i wr => ∃ (k : Nat) (xs : List Value) (ms : List MElem), k ≤ es.length ∧ i = .int .i64 k ∧ ms.map MElem.elem = es.take k ∧ wr.ownsRow w.heap.size 46 2 (.slice (some ⟨w.heap.size, 0, none⟩) es.length es.length) es.length xs ∧ w.heap.size < wr.heap.size ∧ Pre2 xs ms ∧ (∀ m ∈ ms, EOk wr (w.heap.size + 1) m) ∧ (eVals ms).Pairwise Aside ∧ Below w.heap.size w wr) (fun i _ => es.length - (intOf i).toNat)
  case atStart => exact ⟨0, _, [], by omega, rfl, rfl, hown1, hs1, fun j hj => absurd hj (by simp), (fun m hm => by cases hm), List.Pairwise.nil, hb1⟩
  case round =>
    clear hown1 hgr1 hb1 hs1
    obtain ⟨k, xs, ms, hk, rfl, hms, hown, hsz, hpre, hmk, hpw, hb⟩ := hrel
    have HPR : Hid (Pre2 xs ms ∧ (∀ m ∈ ms, EOk wr (w.heap.size + 1) m) ∧ (eVals ms).Pairwise Aside) := ⟨hpre, hmk, hpw⟩
    have HMS : Hid (ms.map MElem.elem = es.take k) := hms
    clear hpre hmk hpw hms
    by_cases hlt : k < es.length
    · obtain ⟨b, o, rfl, hbl, hn⟩ := HA.out k hlt
      obtain ⟨x0, av, x1, hav⟩ := hn.below hb hbl
      have HI : Hid (∀ W, Below wr.heap.size wr W → Calls Tryz.prog 70 #[.agg #[.int .i64 es[k].op, av]] W fun e w' => ∃ u, e = .returned (.agg #[.int .i64 es[k].op, u]) ∧ w'.ownsRow W.heap.size 82 3 u es[k].args.length (devsCells es[k].args) ∧ Below W.heap.size W w') := fun W hW => l_toElem es[k].op av es[k].args W (hav.below hW) (HF.out _ (List.getElem_mem hlt)).2.1
      obtain ⟨x, hx⟩ : ∃ x, x = es[k] := ⟨_, rfl⟩
      rw [← hx] at HI x0 hav
      have HX : Hid (x = es[k]) := hx
      obtain ⟨p0, r0, rfl, hz8⟩ := hav
      clear hx hn hz8
      go_wp2_with (go_at_call 70; refine (HI.out _ (by (repeat (first | exact Below.refl _ _ | assumption | refine bl_alloc ?_ _ | refine bl_drewN ?_ _ | refine bl_drew ?_ | refine bl_grow ?_ _ _ | refine bl_set (Nat.le_refl _) ?_ _ | refine bl_call ?_ (by assumption))))).mono ?_; rintro e w2 ⟨u, rfl, g1, hb2⟩; obtain ⟨s0, t0, hu⟩ := slice_of_owns g1; subst hu; have HG1 : Hid (w2.ownsRow _ 82 3 (.slice s0 x.args.length t0) x.args.length (devsCells x.args)) := g1; clear g1; have hown2 := ownsRow_below hown hb2; obtain ⟨⟨v0, q0⟩, ⟨v1, q1⟩⟩ := rowN2 hown2 k hlt; obtain ⟨f0, f1⟩ := frozN2 hown2 k)
      have m0 := (hown2.stored (k * 2) (.int .i64 x.op)).1
      have m1 := (m0.stored (k * 2 + 1) (.slice s0 x.args.length t0)).1
      obtain ⟨hpre, hmk, hpw⟩ := HPR.out
      have hmo := HG1.out
      have hlen : ms.length = k := by
        have := congrArg List.length HMS.out
        simpa [List.length_take, Nat.min_eq_left (Nat.le_of_lt hlt)] using this
      refine ⟨⟨k + 1, _, ms ++ [⟨x.op, x.args, .slice s0 x.args.length t0⟩], by omega, by go_num, ?_, m1, ?_, ?_, ?_, ?_, bl_set (Nat.le_refl _) (bl_set (Nat.le_refl _) (bl_call hb hb2) _) _⟩, by simp [intOf]; omega⟩
      · rw [List.map_append, HMS.out, List.take_succ_eq_append_getElem hlt, ← HX.out]; rfl
      · exact Nat.lt_of_lt_of_le (Nat.lt_of_lt_of_le hsz hb2.size) (Nat.le_trans (sizeSet _ _ _) (sizeSet _ _ _))
      · refine Pre2.snoc (m := ⟨x.op, x.args, .slice s0 x.args.length t0⟩) hpre hlen ?_
        have := hown.1
        omega
      · intro m hm
        refine EOk.set2 ?_ (Nat.lt_succ_self _)
        rcases List.mem_append.1 hm with hm | hm
        · exact ownsRow_below (hmk m hm) hb2
        · obtain rfl := List.mem_singleton.1 hm
          exact Joins.ownsRow_le hmo hsz
      · rw [eVals_append, List.pairwise_append]
        refine ⟨hpw, List.pairwise_singleton _ _, fun y hy z hz => aside_new (n := wr.heap.size) (fun j hj => ?_) (fun j hj => ?_)⟩
        · obtain ⟨q, hq, rfl⟩ := mem_eVals.1 hy
          exact ((hmk q hq).lt j hj).2
        · obtain rfl := List.mem_singleton.1 hz
          exact (hmo.lt j hj).1
    · obtain rfl : k = es.length := by omega
      obtain ⟨hpre, hmk, hpw⟩ := HPR.out
      have hms := HMS.out
      rw [List.take_length] at hms
      have hlen : ms.length = es.length := by rw [← hms]; simp
      have hxs := hpre.all (by rw [hlen]; exact hown.1)
      subst hxs
      go_wp2
      go_ret
      have hmr : ERow wr w.heap.size (.slice (some ⟨w.heap.size, 0, none⟩) ms.length ms.length) ms := by
        refine ⟨by rw [hlen]; exact hown, fun m hm => Joins.ownsRow_le (hmk m hm) (Nat.le_succ _), ?_⟩
        rw [List.pairwise_cons]
        refine ⟨fun y hy => aside_new (n := w.heap.size + 1) (fun j hj => ?_) (fun j hj => ?_), hpw⟩
        · have e : w.heap.size = j := by simpa [Value.ownBlock] using hj
          omega
        · obtain ⟨q, hq, rfl⟩ := mem_eVals.1 hy
          exact ((hmk q hq).lt j hj).1
      refine ⟨ms, hms, ?_, hmr, hb⟩
      rw [hlen]
      rfl
end Go.Proofs.YtbllmkmdaenglaaGreatDoor
/- The laws' copies of arms, in memory of their own. -/
namespace Go.Proofs.YtbllmkmdaenglaaGreatDoor
open Go.RowKit Go.Sort Go.BigFrame
/-- An arm is answered that owns its memory. -/
def ArmRet (w : World) (base : Nat) (a : Stil.Arm) (e : Ending) : Prop := ∃ (k op : Int) (ds : List Stil.Dev) (a1 : Option Addr) (c1 : Nat) (ns : List MNet) (a2 : Option Addr) (c2 : Nat) (cs : List MElem) (a3 : Option Addr) (c3 : Nat) (ks : List MArm) (a4 : Option Addr) (c4 : Nat), e = .returned (.agg #[.int .i64 k, .int .i64 op, .slice a1 ds.length c1, .slice a2 ns.length c2, .slice a3 cs.length c3, .slice a4 ks.length c4]) ∧ AOwn w base ⟨⟨k, op, ds, .slice a1 ds.length c1, .slice a2 ns.length c2, ns⟩, .slice a3 cs.length c3, cs, .slice a4 ks.length c4, ks⟩ ∧ (MArm.mk ⟨k, op, ds, .slice a1 ds.length c1, .slice a2 ns.length c2, ns⟩ (.slice a3 cs.length c3) cs (.slice a4 ks.length c4) ks).arm = a
theorem avals_snoc {w w2 : World} {base b2 : Nat} {ms : List MArm} {m : MArm} (h : ∀ x ∈ ms, AOk w base x) (hp : (aVals ms).Pairwise Aside) (hm : AOwn w2 b2 m) (hb : w.heap.size ≤ b2) : (aVals (ms ++ [m])).Pairwise Aside := by
  rw [aVals_append, aVals_one, List.pairwise_append]
  refine ⟨hp, hm.2, fun x hx y hy => aside_new (n := w.heap.size) (fun k hk => ?_) (fun k hk => ?_)⟩
  · obtain ⟨z, hz, hx⟩ := mem_aVals.1 hx
    exact ((h z hz).lt z x hx k hk).2
  · exact Nat.le_trans hb (hm.1.lt m y hy k hk).1
set_option maxHeartbeats 4000000 in
set_option maxRecDepth 100000 in
theorem l_toArmsM (es : List Stil.Arm) (ih : ∀ x ∈ es, ∀ (av nv cv kv : Value) (w : World), DevsAt w av x.net.one.args → NetsAt w nv x.net.kids → ElemsAt w cv x.coils → ArmsAt w kv x.kids → Calls Tryz.prog 20 #[.agg #[.int .i64 x.net.kind, .int .i64 x.net.one.op, av, nv, cv, kv]] w fun e w' => ArmRet w' w.heap.size x e ∧ Below w.heap.size w w') (v : Value) (w : World) (hat : ArmsAt w v es) (hl : es.length ≤ 1048576) :
    Calls Tryz.prog 8 #[v] w fun e w' => ∃ ms : List MArm, ms.map MArm.arm = es ∧ e = .returned (.slice (some ⟨w.heap.size, 0, none⟩) ms.length ms.length) ∧ ARow w' w.heap.size (.slice (some ⟨w.heap.size, 0, none⟩) ms.length ms.length) ms ∧ Below w.heap.size w w' := by
  obtain ⟨i0, hi, hz0, hz1, hz2⟩ := info_parts info_Arm
  obtain ⟨a, cap, rfl, hc⟩ := hat
  have HA : Hid (∀ i (h : i < es.length), ∃ b o, a = some ⟨b, o, none⟩ ∧ b < w.heap.size ∧ ArmAt w b (o + i * 6) es[i]) := hc
  have IH : Hid (∀ x ∈ es, ∀ (av nv cv kv : Value) (w : World), DevsAt w av x.net.one.args → NetsAt w nv x.net.kids → ElemsAt w cv x.coils → ArmsAt w kv x.kids → Calls Tryz.prog 20 #[.agg #[.int .i64 x.net.kind, .int .i64 x.net.one.op, av, nv, cv, kv]] w fun e w' => ArmRet w' w.heap.size x e ∧ Below w.heap.size w w') := ih
  clear hc ih
  go_enter Tryz.func8, Tryz.ntmps8
  go_wp2_with (at_make; refine wpList_make_full _ rfl _ _ 24 rfl w.heap.size 52 i0 (.agg #[.int .i64 0, .int .i64 0, .slice none 0 0, .slice none 0 0, .slice none 0 0, .slice none 0 0]) 6 Tryz.underlying24 hi hz0 hz1 _ _ _ _ es.length rfl rfl rfl rfl ?c1 ?c2 (Nat.le_refl _) ?_)
  case c1 => rw [hz2]; omega
  case c2 => unfold maxLen; omega
  intro w1 hown1 hgr1
  have hb1 : Below w.heap.size w w1 := (Below.refl _ _).grown hgr1 (Nat.le_refl _) (fun _ h => by cases h)
  have hs1 : w.heap.size < w1.heap.size := (hown1.lt w.heap.size rfl).2
  go_wp2
  go_loopw [4] (fun i wr => ∃ (k : Nat) (xs : List Value) (ms : List MArm), k ≤ es.length ∧ i = .int .i64 k ∧ ms.map MArm.arm = es.take k ∧ wr.ownsRow w.heap.size 52 6 (.slice (some ⟨w.heap.size, 0, none⟩) es.length es.length) es.length xs ∧ w.heap.size < wr.heap.size ∧ Pre6 xs ms ∧ (∀ m ∈ ms, AOk wr (w.heap.size + 1) m) ∧ (aVals ms).Pairwise Aside ∧ Below w.heap.size w wr) (fun i _ => es.length - (intOf i).toNat)
  case atStart => exact ⟨0, _, [], by omega, rfl, rfl, hown1, hs1, fun j hj => absurd hj (by simp), (fun m hm => by cases hm), List.Pairwise.nil, hb1⟩
  case round =>
    clear hown1 hgr1 hb1 hs1
    obtain ⟨k, xs, ms, hk, rfl, hms, hown, hsz, hpre, hmk, hpw, hb⟩ := hrel
    have HPR : Hid (Pre6 xs ms ∧ (∀ m ∈ ms, AOk wr (w.heap.size + 1) m) ∧ (aVals ms).Pairwise Aside) := ⟨hpre, hmk, hpw⟩
    have HMS : Hid (ms.map MArm.arm = es.take k) := hms
    clear hpre hmk hpw hms
    by_cases hlt : k < es.length
    · obtain ⟨b, o, rfl, hbl, hn⟩ := HA.out k hlt
      obtain ⟨hna, cv, kv, x4, x5, hcv, hkv⟩ := (ArmAt.below hb _ _ _ hn hbl).open
      obtain ⟨x0, x1, av, nv, x2, x3, hav, hnv⟩ := hna.open
      have HI : Hid (∀ W, Below wr.heap.size wr W → Calls Tryz.prog 20 #[.agg #[.int .i64 es[k].net.kind, .int .i64 es[k].net.one.op, av, nv, cv, kv]] W fun e w' => ArmRet w' W.heap.size es[k] e ∧ Below W.heap.size W w') := fun W hW => IH.out es[k] (List.getElem_mem hlt) av nv cv kv W (hav.below hW) (hnv.below hW) (hcv.below hW) (hkv.below hW)
      obtain ⟨x, hx⟩ : ∃ x, x = es[k] := ⟨_, rfl⟩
      rw [← hx] at HI x0 x1 hav hnv hcv hkv
      have HX : Hid (x = es[k]) := hx
      obtain ⟨p0, r0, rfl, hz6⟩ := hav
      obtain ⟨p1, r1, rfl, hz7⟩ := hnv
      obtain ⟨p2, r2, rfl, hz8⟩ := hcv
      obtain ⟨p3, r3, rfl, hz9⟩ := hkv
      clear hx hn hna hz6 hz7 hz8 hz9
      go_wp2_with (go_at_call 20; refine (HI.out _ (by (repeat (first | exact Below.refl _ _ | assumption | refine bl_alloc ?_ _ | refine bl_drewN ?_ _ | refine bl_drew ?_ | refine bl_grow ?_ _ _ | refine bl_set (Nat.le_refl _) ?_ _ | refine bl_call ?_ (by assumption))))).mono ?_; rintro e w2 ⟨⟨mk, op, ds, a1, c1, ns, a2, c2, cs, a3, c3, ks, a4, c4, rfl, hmo, hmn⟩, hb2⟩; have HMO : Hid (AOwn w2 _ ⟨⟨mk, op, ds, .slice a1 ds.length c1, .slice a2 ns.length c2, ns⟩, .slice a3 cs.length c3, cs, .slice a4 ks.length c4, ks⟩) := hmo; have HMN : Hid ((MArm.mk ⟨mk, op, ds, .slice a1 ds.length c1, .slice a2 ns.length c2, ns⟩ (.slice a3 cs.length c3) cs (.slice a4 ks.length c4) ks).arm = x) := hmn; clear hmo hmn; have hown2 := ownsRow_below hown hb2; obtain ⟨⟨v0, q0⟩, ⟨v1, q1⟩, ⟨v2, q2⟩, ⟨v3, q3⟩, ⟨v4, q4⟩, ⟨v5, q5⟩⟩ := rowN6 hown2 k hlt; obtain ⟨f0, f1, f2, f3, f4, f5⟩ := frozN6 hown2 k)
      have m0 := (hown2.stored (k * 6) (.int .i64 mk)).1
      have m1 := (m0.stored (k * 6 + 1) (.int .i64 op)).1
      have m2 := (m1.stored (k * 6 + 2) (.slice a1 ds.length c1)).1
      have m3 := (m2.stored (k * 6 + 3) (.slice a2 ns.length c2)).1
      have m4 := (m3.stored (k * 6 + 4) (.slice a3 cs.length c3)).1
      have m5 := (m4.stored (k * 6 + 5) (.slice a4 ks.length c4)).1
      obtain ⟨hpre, hmk, hpw⟩ := HPR.out
      have hmo := HMO.out
      have hlen : ms.length = k := by
        have := congrArg List.length HMS.out
        simpa [List.length_take, Nat.min_eq_left (Nat.le_of_lt hlt)] using this
      refine ⟨⟨k + 1, _, ms ++ [⟨⟨mk, op, ds, .slice a1 ds.length c1, .slice a2 ns.length c2, ns⟩, .slice a3 cs.length c3, cs, .slice a4 ks.length c4, ks⟩], by omega, by go_num, ?_, m5, ?_, ?_, ?_, ?_, bl_set (Nat.le_refl _) (bl_set (Nat.le_refl _) (bl_set (Nat.le_refl _) (bl_set (Nat.le_refl _) (bl_set (Nat.le_refl _) (bl_set (Nat.le_refl _) (bl_call hb hb2) _) _) _) _) _) _⟩, by simp [intOf]; omega⟩
      · rw [List.map_append, HMS.out, List.take_succ_eq_append_getElem hlt, ← HX.out, ← HMN.out]; rfl
      · exact Nat.lt_of_lt_of_le (Nat.lt_of_lt_of_le hsz hb2.size) (Nat.le_trans (sizeSet _ _ _) (Nat.le_trans (sizeSet _ _ _) (Nat.le_trans (sizeSet _ _ _) (Nat.le_trans (sizeSet _ _ _) (Nat.le_trans (sizeSet _ _ _) (sizeSet _ _ _))))))
      · refine Pre6.snoc (m := ⟨⟨mk, op, ds, .slice a1 ds.length c1, .slice a2 ns.length c2, ns⟩, .slice a3 cs.length c3, cs, .slice a4 ks.length c4, ks⟩) hpre hlen ?_
        have := hown.1
        omega
      · intro m hm
        refine AOk.set6 ?_ (Nat.lt_succ_self _)
        rcases List.mem_append.1 hm with hm | hm
        · exact (hmk m hm).below hb2
        · obtain rfl := List.mem_singleton.1 hm
          exact hmo.1.le hsz
      · exact avals_snoc hmk hpw hmo (Nat.le_refl _)
    · obtain rfl : k = es.length := by omega
      obtain ⟨hpre, hmk, hpw⟩ := HPR.out
      have hms := HMS.out
      rw [List.take_length] at hms
      have hlen : ms.length = es.length := by rw [← hms]; simp
      have hxs := hpre.all (by rw [hlen]; exact hown.1)
      subst hxs
      go_wp2
      go_ret
      have hmr : ARow wr w.heap.size (.slice (some ⟨w.heap.size, 0, none⟩) ms.length ms.length) ms := by
        refine ⟨by rw [hlen]; exact hown, fun m hm => (hmk m hm).le (Nat.le_succ _), ?_⟩
        rw [List.pairwise_cons]
        refine ⟨fun y hy => aside_new (n := w.heap.size + 1) (fun j hj => ?_) (fun j hj => ?_), hpw⟩
        · have e : w.heap.size = j := by simpa [Value.ownBlock] using hj
          omega
        · obtain ⟨z, hz, hy⟩ := mem_aVals.1 hy
          exact ((hmk z hz).lt z y hy j hj).1
      refine ⟨ms, hms, ?_, hmr, hb⟩
      rw [hlen]
      rfl
end Go.Proofs.YtbllmkmdaenglaaGreatDoor
/- The laws' copies of one arm, in memory of its own. -/
namespace Go.Proofs.YtbllmkmdaenglaaGreatDoor
open Go.RowKit Go.Sort Go.BigFrame
theorem ERow.set {w : World} {base : Nat} {v : Value} {es : List MElem} (h : ERow w base v es) {a : Addr} (ha : a.block < base) (u : Value) : ERow (w.setCell a u) base v es := ⟨ownsRow_setCell_below h.1 ha u, fun m hm => ownsRow_setCell_below (h.2.1 m hm) ha u, h.2.2⟩
theorem AOwn.set6 {w : World} {base b o1 o2 o3 o4 o5 o6 : Nat} {m : MArm} {u1 u2 u3 u4 u5 u6 : Value} (h : AOwn w base m) (hb : b < base) : AOwn ((((((w.setCell ⟨b, o1, none⟩ u1).setCell ⟨b, o2, none⟩ u2).setCell ⟨b, o3, none⟩ u3).setCell ⟨b, o4, none⟩ u4).setCell ⟨b, o5, none⟩ u5).setCell ⟨b, o6, none⟩ u6) base m := ⟨h.1.set6 hb, h.2⟩
/-- An arm of its parts, no two of which share. -/
theorem AOwn.mk {w : World} {base b1 b2 : Nat} {n : MNet} {cv kv : Value} {cs : List MElem} {ks : List MArm} (hn : MOwn w base n) (hc : ERow w b1 cv cs) (hk : ARow w b2 kv ks) (h1 : base ≤ b1) (h2 : b1 ≤ b2) (hb1 : ∀ x ∈ n.vals, ∀ j, x.ownBlock = some j → j < b1) (hb2 : ∀ x ∈ cv :: eVals cs, ∀ j, x.ownBlock = some j → j < b2) : AOwn w base ⟨n, cv, cs, kv, ks⟩ := by
  have hc2 := hc.le h1
  have hk2 := hk.le (Nat.le_trans h1 h2)
  refine ⟨(AOk_iff _ _ _).2 ⟨hn.1, ⟨hc2.1, hc2.2.1⟩, hk2.1, hk2.2.1⟩, ?_⟩
  rw [MArm.vals_eq]
  refine List.pairwise_append.2 ⟨hn.2, List.pairwise_append.2 ⟨hc.2.2, hk.2.2, fun x hx y hy => aside_new (n := b2) (hb2 x hx) (fun j hj => (hk.lt y hy j hj).1)⟩, fun x hx y hy => aside_new (n := b1) (hb1 x hx) (fun j hj => ?_)⟩
  rcases List.mem_append.1 hy with hy | hy
  · exact (hc.lt y hy j hj).1
  · exact Nat.le_trans h2 (hk.lt y hy j hj).1
set_option maxHeartbeats 4000000 in
set_option maxRecDepth 100000 in
theorem l_toArmM (a : Stil.Arm) : Stil.armFits a → ∀ (av nv cv kv : Value) (w : World), DevsAt w av a.net.one.args → NetsAt w nv a.net.kids → ElemsAt w cv a.coils → ArmsAt w kv a.kids → Calls Tryz.prog 20 #[.agg #[.int .i64 a.net.kind, .int .i64 a.net.one.op, av, nv, cv, kv]] w fun e w' => ArmRet w' w.heap.size a e ∧ Below w.heap.size w w' := by
  induction a using Stil.arm_ind with
  | h n coils kids ih =>
    intro hft av nv cv kv w hav hnv hcv hkv
    obtain ⟨hfn, hlc, hfc, hl, hk⟩ := (Stil.armFits_eq _ _ _).1 hft
    simp only at hav hnv hcv hkv
    have H1 : Hid (∀ W, Below w.heap.size w W → Calls Tryz.prog 46 #[.agg #[.int .i64 n.kind, .int .i64 n.one.op, av, nv]] W fun e w' => NetRet w' W.heap.size n e ∧ Below W.heap.size W w') := fun W hW => l_toNetM n hfn av nv W (hav.below hW) (hnv.below hW)
    have H2 : Hid (∀ W, Below w.heap.size w W → Calls Tryz.prog 47 #[cv] W fun e w' => ∃ ms : List MElem, ms.map MElem.elem = coils ∧ e = .returned (.slice (some ⟨W.heap.size, 0, none⟩) ms.length ms.length) ∧ ERow w' W.heap.size (.slice (some ⟨W.heap.size, 0, none⟩) ms.length ms.length) ms ∧ Below W.heap.size W w') := fun W hW => l_toElemsM coils hfc cv W (hcv.below hW) hlc
    have H3 : Hid (∀ W, Below w.heap.size w W → Calls Tryz.prog 8 #[kv] W fun e w' => ∃ ms : List MArm, ms.map MArm.arm = kids ∧ e = .returned (.slice (some ⟨W.heap.size, 0, none⟩) ms.length ms.length) ∧ ARow w' W.heap.size (.slice (some ⟨W.heap.size, 0, none⟩) ms.length ms.length) ms ∧ Below W.heap.size W w') := fun W hW => l_toArmsM kids (fun x hx => ih x hx (hk x hx)) kv W (hkv.below hW) hl
    obtain ⟨p0, r0, rfl, hz6⟩ := hav
    obtain ⟨p1, r1, rfl, hz7⟩ := hnv
    obtain ⟨p2, r2, rfl, hz8⟩ := hcv
    obtain ⟨p3, r3, rfl, hz9⟩ := hkv
    clear ih hft hfn hlc hfc hl hk hz6 hz7 hz8 hz9
    go_enter Tryz.func20, Tryz.ntmps20
    go_wp2_with (first | (go_at_call 46; refine (H1.out _ (by (repeat (first | with_reducible exact Below.refl _ _ | with_reducible assumption | with_reducible refine bl_set (by first | exact Nat.le_refl _ | (simp; done) | (simp; omega) | omega) ?_ _ | with_reducible refine bl_alloc ?_ _ | with_reducible refine bl_drewN ?_ _ | with_reducible refine bl_drew ?_ | with_reducible refine bl_grow ?_ _ _ | with_reducible refine bl_call ?_ (by assumption))))).mono ?_; rintro e w1 ⟨⟨k, op, ds, a1, c1, a2, c2, ns, rfl, hmo, hmn⟩, hb⟩; obtain ⟨hc, hf⟩ := bcell hb; have HMO : Hid (MOwn w1 (w.heap.size + 3) ⟨k, op, ds, .slice a1 ds.length c1, .slice a2 ns.length c2, ns⟩) := hmo.le (by simp); have HMN : Hid ((MNet.mk k op ds (.slice a1 ds.length c1) (.slice a2 ns.length c2) ns).net = n) := hmn; clear hmo hmn; have hza : w.heap.size < w1.heap.size := Nat.lt_of_lt_of_le (by simp; omega) hb.size; have hzb : w.heap.size + 1 < w1.heap.size := Nat.lt_of_lt_of_le (by simp) hb.size; have hzc : w.heap.size + 1 + 1 < w1.heap.size := Nat.lt_of_lt_of_le (by simp) hb.size) | (go_at_call 47; refine (H2.out _ (by (repeat (first | with_reducible exact Below.refl _ _ | with_reducible assumption | with_reducible refine bl_set (by first | exact Nat.le_refl _ | (simp; done) | (simp; omega) | omega) ?_ _ | with_reducible refine bl_alloc ?_ _ | with_reducible refine bl_drewN ?_ _ | with_reducible refine bl_drew ?_ | with_reducible refine bl_grow ?_ _ _ | with_reducible refine bl_call ?_ (by assumption))))).mono ?_; rintro e w2 ⟨cs, hcs, rfl, g2, hb2⟩; have HCS : Hid (cs.map MElem.elem = coils) := hcs; simp only [World.size_setCell] at g2; have HG2 : Hid (ERow w2 w1.heap.size (.slice (some ⟨w1.heap.size, 0, none⟩) cs.length cs.length) cs) := g2; clear g2 hcs; obtain ⟨hc2, hf2⟩ := bcell hb2; have hzd : w.heap.size < w2.heap.size := Nat.lt_of_lt_of_le (by simpa using hza) hb2.size; have hze : w.heap.size + 1 < w2.heap.size := Nat.lt_of_lt_of_le (by simpa using hzb) hb2.size; have hzf : w.heap.size + 1 + 1 < w2.heap.size := Nat.lt_of_lt_of_le (by simpa using hzc) hb2.size) | (go_at_call 8; refine (H3.out _ (by (repeat (first | with_reducible exact Below.refl _ _ | with_reducible assumption | with_reducible refine bl_set (by first | exact Nat.le_refl _ | (simp; done) | (simp; omega) | omega) ?_ _ | with_reducible refine bl_alloc ?_ _ | with_reducible refine bl_drewN ?_ _ | with_reducible refine bl_drew ?_ | with_reducible refine bl_grow ?_ _ _ | with_reducible refine bl_call ?_ (by assumption))))).mono ?_; rintro e w3 ⟨ks, hks, rfl, g3, hb3⟩; have HKS : Hid (ks.map MArm.arm = kids) := hks; simp only [World.size_setCell] at g3; have HG3 : Hid (ARow w3 w2.heap.size (.slice (some ⟨w2.heap.size, 0, none⟩) ks.length ks.length) ks) := g3; clear g3 hks; obtain ⟨hc3, hf3⟩ := bcell hb3; have hzg : w.heap.size + 1 < w3.heap.size := Nat.lt_of_lt_of_le (by simpa using hze) hb3.size))
    have b0 : w3.cell? ⟨w.heap.size + 1, 0, none⟩ = some (.int .i64 0) := by rw [hc3 _ _ (by simpa using hze), cellSetOther (by omega), hc2 _ _ (by simpa using hzb)]; simp [go_sem, hc]
    have b1 : w3.cell? ⟨w.heap.size + 1, 1, none⟩ = some (.int .i64 0) := by rw [hc3 _ _ (by simpa using hze), cellSetOther (by omega), hc2 _ _ (by simpa using hzb)]; simp [go_sem, hc]
    have b2 : w3.cell? ⟨w.heap.size + 1, 2, none⟩ = some (.slice none 0 0) := by rw [hc3 _ _ (by simpa using hze), cellSetOther (by omega), hc2 _ _ (by simpa using hzb)]; simp [go_sem, hc]
    have b3 : w3.cell? ⟨w.heap.size + 1, 3, none⟩ = some (.slice none 0 0) := by rw [hc3 _ _ (by simpa using hze), cellSetOther (by omega), hc2 _ _ (by simpa using hzb)]; simp [go_sem, hc]
    have b4 : w3.cell? ⟨w.heap.size + 1, 4, none⟩ = some (.slice none 0 0) := by rw [hc3 _ _ (by simpa using hze), cellSetOther (by omega), hc2 _ _ (by simpa using hzb)]; simp [go_sem, hc]
    have b5 : w3.cell? ⟨w.heap.size + 1, 5, none⟩ = some (.slice none 0 0) := by rw [hc3 _ _ (by simpa using hze), cellSetOther (by omega), hc2 _ _ (by simpa using hzb)]; simp [go_sem, hc]
    have hn3 : MOwn w3 (w.heap.size + 3) ⟨k, op, ds, .slice a1 ds.length c1, .slice a2 ns.length c2, ns⟩ := by
      refine MOwn.below ?_ hb3
      refine MOwn.set ?_ (Nat.lt_succ_self _) _
      refine MOwn.below ?_ hb2
      exact MOwn.set4 HMO.out (Nat.lt_succ_self _)
    have hc4 : ERow w3 w1.heap.size (.slice (some ⟨w1.heap.size, 0, none⟩) cs.length cs.length) cs := by
      refine ERow.below ?_ hb3
      exact ERow.set HG2.out (a := ⟨w.heap.size + 1 + 1, 4, none⟩) hzc _
    have hmo : AOwn w3 (w.heap.size + 3) ⟨⟨k, op, ds, .slice a1 ds.length c1, .slice a2 ns.length c2, ns⟩, .slice (some ⟨w1.heap.size, 0, none⟩) cs.length cs.length, cs, .slice (some ⟨w2.heap.size, 0, none⟩) ks.length ks.length, ks⟩ :=
      AOwn.mk hn3 hc4 HG3.out (by omega) (by have := HG2.out.1.lt w1.heap.size rfl; omega) (fun x hx j hj => (HMO.out.1.lt _ x hx j hj).2) (fun x hx j hj => (HG2.out.lt x hx j hj).2)
    refine bodyPost_ret (v := .agg #[.int .i64 k, .int .i64 op, .slice a1 ds.length c1, .slice a2 ns.length c2, .slice (some ⟨w1.heap.size, 0, none⟩) cs.length cs.length, .slice (some ⟨w2.heap.size, 0, none⟩) ks.length ks.length]) (by simp [results, Tryz.results20, go_sem, b0, b1, b2, b3, b4, b5]) rfl ⟨⟨k, op, ds, a1, c1, ns, a2, c2, cs, some ⟨w1.heap.size, 0, none⟩, cs.length, ks, some ⟨w2.heap.size, 0, none⟩, ks.length, rfl, ?_, ?_⟩, ?_⟩
    · refine AOwn.le (base := w.heap.size + 3) ?_ (by omega)
      refine AOwn.set6 ?_ (by omega)
      exact AOwn.set hmo (a := ⟨w.heap.size + 1 + 1, 5, none⟩) (Nat.lt_succ_self _) _
    · rw [MArm.arm_eq]
      simp only
      rw [HMN.out, HCS.out, HKS.out]
    · (repeat (first | with_reducible exact Below.refl _ _ | with_reducible assumption | with_reducible refine bl_set (by first | exact Nat.le_refl _ | (simp; done) | (simp; omega) | omega) ?_ _ | with_reducible refine bl_alloc ?_ _ | with_reducible refine bl_drewN ?_ _ | with_reducible refine bl_drew ?_ | with_reducible refine bl_grow ?_ _ _ | with_reducible refine bl_call ?_ (by assumption)))
end Go.Proofs.YtbllmkmdaenglaaGreatDoor
/- Appends of coils and of arms, what grows told. -/
namespace Go.Proofs.YtbllmkmdaenglaaGreatDoor
open Go.RowKit Go.Sort Go.BigFrame
theorem eCells_one' {w : World} {base : Nat} {ks : List MElem} (hk : ∀ m ∈ ks, EOk w base m) : ∀ u ∈ eCells ks, u.oneCell' = true := by
  intro u hu
  obtain ⟨m, hm, hu⟩ := List.mem_flatMap.1 hu
  obtain ⟨a1, c1, e1⟩ := slice_of_owns (hk m hm)
  simp only [MElem.cells, List.mem_cons, List.mem_nil_iff, or_false] at hu
  rcases hu with rfl | rfl
  · rfl
  · rw [e1]; rfl
theorem aCells_one' {w : World} {base : Nat} {ks : List MArm} (hk : ∀ m ∈ ks, AOk w base m) : ∀ u ∈ aCells ks, u.oneCell' = true := by
  intro u hu
  obtain ⟨m, hm, hu⟩ := List.mem_flatMap.1 hu
  obtain ⟨h1, ⟨h2, _⟩, h3, _⟩ := (AOk_iff w base m).1 (hk m hm)
  have h1' := (MOk_iff w base m.net).1 h1
  obtain ⟨a1, c1, e1⟩ := slice_of_owns h1'.1
  obtain ⟨a2, c2, e2⟩ := slice_of_owns h1'.2.1
  obtain ⟨a3, c3, e3⟩ := slice_of_owns h2
  obtain ⟨a4, c4, e4⟩ := slice_of_owns h3
  simp only [MArm.cells, List.mem_cons, List.mem_nil_iff, or_false] at hu
  rcases hu with rfl | rfl | rfl | rfl | rfl | rfl
  · rfl
  · rfl
  · rw [e1]; rfl
  · rw [e2]; rfl
  · rw [e3]; rfl
  · rw [e4]; rfl
theorem step_grow_elems {ops : Array Oper} {o : Oper} {a : Act} {w : World} {K : Act → World → Prop} {Q : Exit → Act → World → Prop} {E : Prop}
    (hg : o.guard = none) (s x : Operand) (hop : o.op = .call { callee := .builtin .append, args := #[s, x], argTypes := #[50, 50] })
    (base lo : Nat) (ra : Option Addr) (rc : Nat) (ms ks : List MElem) (ad : Option Addr) (c : Nat) (hs : a.eval s = .slice ra ms.length rc) (hx : a.eval x = .slice ad ks.length c)
    (hrow : ERow w base (.slice ra ms.length rc) ms) (hxs : 0 < ks.length → ∃ p, ad = some p ∧ ∀ j u, (eCells ks)[j]? = some u → w.cell? (p.add j) = some u)
    (hk : ∀ m ∈ ks, EOk w base m) (hp : (Value.slice ra ms.length rc :: (eVals ms ++ eVals ks)).Pairwise Aside) (hl : ms.length + ks.length ≤ 1000000) (hbase : base ≤ w.heap.size) (hlo : lo ≤ w.heap.size) (hvl : ∀ k, (Value.slice ra ms.length rc).ownBlock = some k → lo ≤ k)
    (hK : ∀ a' c' w', ERow w' base (.slice a' (ms.length + ks.length) c') (ms ++ ks) → Below lo w w' → (∀ k, (Value.slice a' (ms.length + ks.length) c').ownBlock = some k → lo ≤ k) → K (a.put o.dst (.slice a' (ms.length + ks.length) c')) w') :
    if Region.wanted o (yielded ops a.tmps) = true then Oper.wp Tryz.prog o a w K Q else E := by
  obtain ⟨i0, hi, hz0, hz1, hz2⟩ := info_parts info_Elem
  by_cases hd : ks.length = 0
  · have hn : ks = [] := List.length_eq_zero_iff.1 hd
    subst hn
    have hw : Region.wanted o (yielded ops a.tmps) = true := by simp [Region.wanted, hg]
    rw [if_pos hw]
    have hcap : ms.length ≤ rc := by
      rcases hrow.1.2 with ⟨h0, h1⟩ | ⟨g, c', cur, h0, _, _, hnc, _⟩
      · rw [h1]; exact Nat.zero_le _
      · simp only [Value.slice.injEq] at h0
        rw [h0.2.2]; exact hnc
    have hk2 := hK ra rc w (by simpa using hrow) (Below.refl _ _) (by simpa using hvl)
    simp only [List.length_nil, Nat.add_zero] at hk2 hx
    unfold Oper.wp execOp
    cases ad
    · have e : Sem.run Tryz.prog (Builtin.append_ #[50, 50] o.type #[.slice ra ms.length rc, .slice none 0 c]) w = .ok (.slice ra ms.length rc) w := by cases ra <;> simp [Builtin.append_, go_sem, hcap]
      simp only [hop, resolve, invoke, builtin, Sem.run_bind, Sem.run_pure, Result.andThen_ok, List.map_toArray, List.map_cons, List.map_nil, hs, hx, e]
      exact hk2
    · rename_i t1
      have e : Sem.run Tryz.prog (Builtin.append_ #[50, 50] o.type #[.slice ra ms.length rc, .slice (some t1) 0 c]) w = .ok (.slice ra ms.length rc) w := by cases ra <;> simp [Builtin.append_, go_sem, hcap]
      simp only [hop, resolve, invoke, builtin, Sem.run_bind, Sem.run_pure, Result.andThen_ok, List.map_toArray, List.map_cons, List.map_nil, hs, hx, e]
      exact hk2
  · obtain ⟨p, rfl, hcs⟩ := hxs (by omega)
    refine step_append_at hg s x _ hop base 46 i0 _ 2 32 Tryz.underlying50 hi hz0 hz1 hz2 rfl (by decide) _ _ (eCells ms) hs hrow.1 _ _ _ (eCells ks) hx (eCells_len ks) hcs (eCells_one' hk) (by unfold maxLen; omega) (by omega) hbase ?_
    intro v' w' h1 h2 h3
    obtain ⟨a6, c6, hv6⟩ := slice_of_owns h1
    subst hv6
    refine hK a6 c6 w' (hrow.add hk hp h1 h2 h3) ((Below.refl _ _).grown h2 hlo hvl) (fun k hk2 => ?_)
    rcases h3 with e | e
    · exact hvl k (by rw [← e]; exact hk2)
    · rw [e] at hk2
      cases hk2
      exact hlo
theorem wpList_grow_elems {ops : Array Oper} {rest : List Oper} {o : Oper} {a : Act} {w : World} {Q : Exit → Act → World → Prop}
    (hg : o.guard = none) (s x : Operand) (hop : o.op = .call { callee := .builtin .append, args := #[s, x], argTypes := #[50, 50] })
    (base lo : Nat) (ra : Option Addr) (rc : Nat) (ms ks : List MElem) (ad : Option Addr) (c : Nat) (hs : a.eval s = .slice ra ms.length rc) (hx : a.eval x = .slice ad ks.length c)
    (hrow : ERow w base (.slice ra ms.length rc) ms) (hxs : 0 < ks.length → ∃ p, ad = some p ∧ ∀ j u, (eCells ks)[j]? = some u → w.cell? (p.add j) = some u)
    (hk : ∀ m ∈ ks, EOk w base m) (hp : (Value.slice ra ms.length rc :: (eVals ms ++ eVals ks)).Pairwise Aside) (hl : ms.length + ks.length ≤ 1000000) (hbase : base ≤ w.heap.size) (hlo : lo ≤ w.heap.size) (hvl : ∀ k, (Value.slice ra ms.length rc).ownBlock = some k → lo ≤ k)
    (h : ∀ a' c' w', ERow w' base (.slice a' (ms.length + ks.length) c') (ms ++ ks) → Below lo w w' → (∀ k, (Value.slice a' (ms.length + ks.length) c').ownBlock = some k → lo ≤ k) → wpList Tryz.prog ops Q rest (a.put o.dst (.slice a' (ms.length + ks.length) c')) w') :
    wpList Tryz.prog ops Q (o :: rest) a w := by
  refine wpList_plain hg fun K hK => ?_
  have hw : Region.wanted o (yielded #[] a.tmps) = true := by simp [Region.wanted, hg]
  have := step_grow_elems (ops := #[]) (K := K) (Q := Q) (E := True) hg s x hop base lo ra rc ms ks ad c hs hx hrow hxs hk hp hl hbase hlo hvl (fun a' c' w' h1 h2 h3 => hK _ _ (h a' c' w' h1 h2 h3))
  rwa [if_pos hw] at this
theorem step_grow_arms {ops : Array Oper} {o : Oper} {a : Act} {w : World} {K : Act → World → Prop} {Q : Exit → Act → World → Prop} {E : Prop}
    (hg : o.guard = none) (s x : Operand) (hop : o.op = .call { callee := .builtin .append, args := #[s, x], argTypes := #[24, 24] })
    (base lo : Nat) (ra : Option Addr) (rc : Nat) (ms ks : List MArm) (ad : Option Addr) (c : Nat) (hs : a.eval s = .slice ra ms.length rc) (hx : a.eval x = .slice ad ks.length c)
    (hrow : ARow w base (.slice ra ms.length rc) ms) (hxs : 0 < ks.length → ∃ p, ad = some p ∧ ∀ j u, (aCells ks)[j]? = some u → w.cell? (p.add j) = some u)
    (hk : ∀ m ∈ ks, AOk w base m) (hp : (Value.slice ra ms.length rc :: (aVals ms ++ aVals ks)).Pairwise Aside) (hl : ms.length + ks.length ≤ 1000000) (hbase : base ≤ w.heap.size) (hlo : lo ≤ w.heap.size) (hvl : ∀ k, (Value.slice ra ms.length rc).ownBlock = some k → lo ≤ k)
    (hK : ∀ a' c' w', ARow w' base (.slice a' (ms.length + ks.length) c') (ms ++ ks) → Below lo w w' → (∀ k, (Value.slice a' (ms.length + ks.length) c').ownBlock = some k → lo ≤ k) → K (a.put o.dst (.slice a' (ms.length + ks.length) c')) w') :
    if Region.wanted o (yielded ops a.tmps) = true then Oper.wp Tryz.prog o a w K Q else E := by
  obtain ⟨i0, hi, hz0, hz1, hz2⟩ := info_parts info_Arm
  by_cases hd : ks.length = 0
  · have hn : ks = [] := List.length_eq_zero_iff.1 hd
    subst hn
    have hw : Region.wanted o (yielded ops a.tmps) = true := by simp [Region.wanted, hg]
    rw [if_pos hw]
    have hcap : ms.length ≤ rc := by
      rcases hrow.1.2 with ⟨h0, h1⟩ | ⟨g, c', cur, h0, _, _, hnc, _⟩
      · rw [h1]; exact Nat.zero_le _
      · simp only [Value.slice.injEq] at h0
        rw [h0.2.2]; exact hnc
    have hk2 := hK ra rc w (by simpa using hrow) (Below.refl _ _) (by simpa using hvl)
    simp only [List.length_nil, Nat.add_zero] at hk2 hx
    unfold Oper.wp execOp
    cases ad
    · have e : Sem.run Tryz.prog (Builtin.append_ #[24, 24] o.type #[.slice ra ms.length rc, .slice none 0 c]) w = .ok (.slice ra ms.length rc) w := by cases ra <;> simp [Builtin.append_, go_sem, hcap]
      simp only [hop, resolve, invoke, builtin, Sem.run_bind, Sem.run_pure, Result.andThen_ok, List.map_toArray, List.map_cons, List.map_nil, hs, hx, e]
      exact hk2
    · rename_i t1
      have e : Sem.run Tryz.prog (Builtin.append_ #[24, 24] o.type #[.slice ra ms.length rc, .slice (some t1) 0 c]) w = .ok (.slice ra ms.length rc) w := by cases ra <;> simp [Builtin.append_, go_sem, hcap]
      simp only [hop, resolve, invoke, builtin, Sem.run_bind, Sem.run_pure, Result.andThen_ok, List.map_toArray, List.map_cons, List.map_nil, hs, hx, e]
      exact hk2
  · obtain ⟨p, rfl, hcs⟩ := hxs (by omega)
    refine step_append_at hg s x _ hop base 52 i0 _ 6 112 Tryz.underlying24 hi hz0 hz1 hz2 rfl (by decide) _ _ (aCells ms) hs hrow.1 _ _ _ (aCells ks) hx (aCells_len ks) hcs (aCells_one' hk) (by unfold maxLen; omega) (by omega) hbase ?_
    intro v' w' h1 h2 h3
    obtain ⟨a6, c6, hv6⟩ := slice_of_owns h1
    subst hv6
    refine hK a6 c6 w' (hrow.add hk hp h1 h2 h3) ((Below.refl _ _).grown h2 hlo hvl) (fun k hk2 => ?_)
    rcases h3 with e | e
    · exact hvl k (by rw [← e]; exact hk2)
    · rw [e] at hk2
      cases hk2
      exact hlo
theorem wpList_grow_arms {ops : Array Oper} {rest : List Oper} {o : Oper} {a : Act} {w : World} {Q : Exit → Act → World → Prop}
    (hg : o.guard = none) (s x : Operand) (hop : o.op = .call { callee := .builtin .append, args := #[s, x], argTypes := #[24, 24] })
    (base lo : Nat) (ra : Option Addr) (rc : Nat) (ms ks : List MArm) (ad : Option Addr) (c : Nat) (hs : a.eval s = .slice ra ms.length rc) (hx : a.eval x = .slice ad ks.length c)
    (hrow : ARow w base (.slice ra ms.length rc) ms) (hxs : 0 < ks.length → ∃ p, ad = some p ∧ ∀ j u, (aCells ks)[j]? = some u → w.cell? (p.add j) = some u)
    (hk : ∀ m ∈ ks, AOk w base m) (hp : (Value.slice ra ms.length rc :: (aVals ms ++ aVals ks)).Pairwise Aside) (hl : ms.length + ks.length ≤ 1000000) (hbase : base ≤ w.heap.size) (hlo : lo ≤ w.heap.size) (hvl : ∀ k, (Value.slice ra ms.length rc).ownBlock = some k → lo ≤ k)
    (h : ∀ a' c' w', ARow w' base (.slice a' (ms.length + ks.length) c') (ms ++ ks) → Below lo w w' → (∀ k, (Value.slice a' (ms.length + ks.length) c').ownBlock = some k → lo ≤ k) → wpList Tryz.prog ops Q rest (a.put o.dst (.slice a' (ms.length + ks.length) c')) w') :
    wpList Tryz.prog ops Q (o :: rest) a w := by
  refine wpList_plain hg fun K hK => ?_
  have hw : Region.wanted o (yielded #[] a.tmps) = true := by simp [Region.wanted, hg]
  have := step_grow_arms (ops := #[]) (K := K) (Q := Q) (E := True) hg s x hop base lo ra rc ms ks ad c hs hx hrow hxs hk hp hl hbase hlo hvl (fun a' c' w' h1 h2 h3 => hK _ _ (h a' c' w' h1 h2 h3))
  rwa [if_pos hw] at this
end Go.Proofs.YtbllmkmdaenglaaGreatDoor
