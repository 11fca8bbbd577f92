/- I6, I6b, I6d, I6c, I6e, I6f, I6g: texts put together. -/
import Derived.Test.YtpeojflemfppgaaGT
import Derived.Test.YtpeojflemfppgaaGU
import Derived.Deep.RegionWith
import Derived.Shelf.Abstract
import Derived.Test.YtpeojflemfppgaaGM
/- Contracts of the program's chapter 3: slices.Equal over operands, two contacts or coils that are the same. -/
namespace Go.Proofs.Ytpeojflemfppgaa
open Go.RowKit Go.Sort Go.BigFrame
open Classical in
set_option maxHeartbeats 1000000 in
set_option maxRecDepth 100000 in
theorem i_devsEqual (ds fs : List Stil.Dev) (av bv : Value) (w : World) (hat : DevsAt w av ds) (hau : DevsAt w bv fs) (hl : ds.length ≤ 1048576) (hk : fs.length ≤ 1048576) :
    Calls Try.prog 45 #[av, bv] w fun r w' => r = .returned (.bool (decide (ds = fs))) ∧ Below w.heap.size w w' := by
  obtain ⟨a, cap, rfl, hc1⟩ := hat
  obtain ⟨b, cap2, rfl, hc2⟩ := hau
  by_cases hlen : ds.length = fs.length
  · have HA : Hid (∀ i (h : i < ds.length), ∃ b o, a = some ⟨b, o, none⟩ ∧ b < w.heap.size ∧ DevAt w b (o + i * 3) ds[i]) := hc1
    have HB : Hid (∀ i (h : i < fs.length), ∃ b' o, b = some ⟨b', o, none⟩ ∧ b' < w.heap.size ∧ DevAt w b' (o + i * 3) fs[i]) := hc2
    clear hc1 hc2
    have hlb : ((ds.length : Int) != (fs.length : Int)) = false := by rw [bne_eq_false_iff_eq]; omega
    have hl1 : ds.length ≤ fs.length := by omega
    have hl2 : fs.length ≤ ds.length := by omega
    clear hlen
    go_enter Try.func45, Try.ntmps45
    go_wp2
    go_loopw [13] (fun i wr => ∃ k : Nat, k ≤ ds.length ∧ i = .int .i64 k ∧ ds.take k = fs.take k ∧ Below w.heap.size w wr) (fun i _ => ds.length - (intOf i).toNat)
    case atStart => exact ⟨0, by omega, rfl, by simp, Below.refl _ _⟩
    case round =>
      obtain ⟨k, hk, rfl, heq, hbw⟩ := hrel
      have HE : Hid (ds.take k = fs.take k) := heq
      clear heq
      by_cases hlt : k < ds.length
      · have hlt2 : k < fs.length := by omega
        obtain ⟨b1, o1, rfl, hbl1, hd1⟩ := HA.out k hlt
        obtain ⟨b2, o2, rfl, hbl2, hd2⟩ := HB.out k hlt2
        obtain ⟨x0, x1, x2⟩ := hd1.below hbw hbl1
        obtain ⟨y0, y1, y2⟩ := hd2.below hbw hbl2
        by_cases hxy : ds[k] = fs[k]
        · have HXY : Hid (ds.take (k + 1) = fs.take (k + 1)) := by
            show _ = _
            rw [List.take_succ_eq_append_getElem hlt, List.take_succ_eq_append_getElem hlt2, HE.out, hxy]
          rw [← hxy] at y0 y1 y2
          obtain ⟨x, hx⟩ : ∃ x, x = ds[k] := ⟨_, rfl⟩
          rw [← hx] at x0 x1 x2 y0 y1 y2
          clear hx hxy hd1 hd2
          go_wp2
          go_region
          all_goals go_wp2
          exact ⟨⟨k + 1, by omega, by go_num, HXY.out, hbw.drew⟩, by simp [intOf]; omega⟩
        · have HXY : Hid (¬ ds = fs) := by
            show ¬ _
            intro h; subst h; exact hxy rfl
          obtain ⟨x, hx⟩ : ∃ x, x = ds[k] := ⟨_, rfl⟩
          obtain ⟨y, hy⟩ : ∃ y, y = fs[k] := ⟨_, rfl⟩
          rw [← hx] at x0 x1 x2
          rw [← hy] at y0 y1 y2
          rw [← hx, ← hy] at hxy
          have hcase : (x.kind == y.kind) = false ∨ (x.kind = y.kind ∧ (x.n == y.n) = false) ∨ (x.kind = y.kind ∧ x.n = y.n ∧ (x.p == y.p) = false) := by
            simp only [beq_eq_false_iff_ne]
            by_cases h1 : x.kind = y.kind
            · by_cases h2 : x.n = y.n
              · exact .inr (.inr ⟨h1, h2, fun h3 => hxy ((dev_eta _ _).2 ⟨h1, h2, h3⟩)⟩)
              · exact .inr (.inl ⟨h1, h2⟩)
            · exact .inl h1
          clear hx hy hxy hd1 hd2
          rcases hcase with h1 | ⟨h1, h2⟩ | ⟨h1, h2, h3⟩
          · go_wp2
            go_region
            all_goals go_wp2
            go_ret
            exact ⟨ret_bool (by rw [decide_eq_false HXY.out]), hbw.drew⟩
          · rw [← h1] at y0
            clear h1
            go_wp2
            go_region
            all_goals go_wp2
            go_ret
            exact ⟨ret_bool (by rw [decide_eq_false HXY.out]), hbw.drew⟩
          · rw [← h1] at y0
            rw [← h2] at y1
            clear h1 h2
            go_wp2
            go_region
            all_goals go_wp2
            go_ret
            exact ⟨ret_bool (by rw [decide_eq_false HXY.out]), hbw.drew⟩
      · go_wp2
        go_ret
        have e : ds = fs := by
          have := HE.out
          rwa [List.take_of_length_le (by omega), List.take_of_length_le (by omega)] at this
        exact ⟨ret_bool (by rw [decide_eq_true e]), hbw⟩
  · have hlb : ((ds.length : Int) != (fs.length : Int)) = true := by rw [bne_iff_ne]; omega
    have HN : Hid (¬ ds = fs) := by show ¬ _; intro h; exact hlen (by rw [h])
    clear hlen hc1 hc2
    go_enter Try.func45, Try.ntmps45
    go_wp2
    go_ret
    exact ⟨ret_bool (by rw [decide_eq_false HN.out]), by (repeat (first | exact Below.refl _ _ | assumption | refine bl_alloc ?_ _ | refine bl_drewN ?_ _ | refine bl_drew ?_ | refine bl_grow ?_ _ _ | refine bl_set (Nat.le_refl _) ?_ _ | refine bl_call ?_ (by assumption)))⟩
open Classical in
set_option maxHeartbeats 1000000 in
set_option maxRecDepth 100000 in
theorem i_elemSame (x y : Stil.Elem) (hx : x.fits) (hy : y.fits) : ∀ (av avq : Value) (w : World), DevsAt w av x.args → DevsAt w avq y.args → Calls Try.prog 23 #[.agg #[.int .i64 x.op, av], .agg #[.int .i64 y.op, avq]] w fun e w' => e = .returned (.bool (decide (x = y))) ∧ Below w.heap.size w w' := by
  intro av avq w hav havq
  obtain ⟨op, ds⟩ := x
  obtain ⟨oq, fs⟩ := y
  simp only at hav havq
  have H1 : Hid (∀ W, Below w.heap.size w W → Calls Try.prog 45 #[av, avq] W fun r w' => r = .returned (.bool (decide (ds = fs))) ∧ Below W.heap.size W w') := fun W hW => i_devsEqual ds fs av avq W (hav.below hW) (havq.below hW) hx.2.1 hy.2.1
  obtain ⟨p0, r0, rfl, _⟩ := hav
  obtain ⟨p1, r1, rfl, _⟩ := havq
  clear hx hy
  by_cases ho : op = oq
  · subst ho
    have HD : Hid (decide ((⟨op, ds⟩ : Stil.Elem) = ⟨op, fs⟩) = decide (ds = fs)) := by show _ = _; simp
    go_enter Try.func23, Try.ntmps23
    go_wp2_with (go_at_call 45; refine (H1.out _ (by (repeat (first | with_reducible exact Below.refl _ _ | with_reducible assumption | with_reducible refine bl_set (by first | exact Nat.le_refl _ | (simp; done) | (simp; omega) | omega) ?_ _ | with_reducible refine bl_alloc ?_ _ | with_reducible refine bl_drewN ?_ _ | with_reducible refine bl_drew ?_ | with_reducible refine bl_grow ?_ _ _ | with_reducible refine bl_call ?_ (by assumption))))).mono ?_; rintro e w1 ⟨rfl, hb⟩)
    go_ret
    exact ⟨ret_bool (by rw [HD.out]), by (repeat (first | with_reducible exact Below.refl _ _ | with_reducible assumption | with_reducible refine bl_set (by first | exact Nat.le_refl _ | (simp; done) | (simp; omega) | omega) ?_ _ | with_reducible refine bl_alloc ?_ _ | with_reducible refine bl_drewN ?_ _ | with_reducible refine bl_drew ?_ | with_reducible refine bl_grow ?_ _ _ | with_reducible refine bl_call ?_ (by assumption)))⟩
  · have hob : (op == oq) = false := by rw [beq_eq_false_iff_ne]; exact ho
    have HD : Hid (¬ (⟨op, ds⟩ : Stil.Elem) = ⟨oq, fs⟩) := by show ¬ _; intro h; exact ho (Stil.Elem.mk.inj h).1
    clear ho
    go_enter Try.func23, Try.ntmps23
    go_wp2
    go_ret
    exact ⟨ret_bool (by rw [decide_eq_false HD.out]), by (repeat (first | with_reducible exact Below.refl _ _ | with_reducible assumption | with_reducible refine bl_set (by first | exact Nat.le_refl _ | (simp; done) | (simp; omega) | omega) ?_ _ | with_reducible refine bl_alloc ?_ _ | with_reducible refine bl_drewN ?_ _ | with_reducible refine bl_drew ?_ | with_reducible refine bl_grow ?_ _ _ | with_reducible refine bl_call ?_ (by assumption)))⟩
end Go.Proofs.Ytpeojflemfppgaa
/- Contracts of the program's chapter 3: slices.EqualFunc. -/
namespace Go.Proofs.Ytpeojflemfppgaa
open Go.RowKit Go.Sort Go.BigFrame
theorem cellAllocOld {W : World} {ob : Obj} {c p : Nat} (h : c < W.heap.size) : (W.alloc ob).cell? ⟨c, p, none⟩ = W.cell? ⟨c, p, none⟩ := (below_alloc W ob).cell (p := ⟨c, p, none⟩) h
/-- A variable of the caller's that holds this value. -/
def BoxAt (w : World) (B : Nat) (v : Value) : Prop := w.cell? ⟨B, 0, none⟩ = some v ∧ B < w.heap.size
theorem BoxAt.below {w w' : World} {B : Nat} {v : Value} (h : BoxAt w B v) (hb : Below w.heap.size w w') : BoxAt w' B v := ⟨(hb.cell (p := ⟨B, 0, none⟩) h.2).trans h.1, Nat.lt_of_lt_of_le h.2 hb.size⟩
def fnNet (B : Nat) : Value := .func (.func 22) #[] #[.pointer (some ⟨B, 0, none⟩)]
def fnArm (B C : Nat) : Value := .func (.func 25) #[] #[.pointer (some ⟨B, 0, none⟩), .pointer (some ⟨C, 0, none⟩)]
open Classical in
set_option maxHeartbeats 1000000 in
set_option maxRecDepth 100000 in
theorem i_eqfElems  (es fs : List Stil.Elem) (ih : ∀ x ∈ es, ∀ y ∈ fs, ∀ (av avq : Value) (w : World), DevsAt w av x.args → DevsAt w avq y.args → Calls Try.prog 23 #[.agg #[.int .i64 x.op, av], .agg #[.int .i64 y.op, avq] ] w fun e w' => e = .returned (.bool (decide (x = y))) ∧ Below w.heap.size w w') (v u : Value) (w : World) (hat : ElemsAt w v es) (hau : ElemsAt w u fs) (hl : es.length ≤ 1048576) (hm : fs.length ≤ 1048576) :
    Calls Try.prog 26 #[v, u, .func (.func 23) #[] #[]] w fun e w' => e = .returned (.bool (decide (es = fs))) ∧ Below w.heap.size w w' := by
  obtain ⟨a, cap, rfl, hc⟩ := hat
  obtain ⟨a2, cap2, rfl, hc2⟩ := hau
  by_cases hlen : es.length = fs.length
  · have HA : Hid (∀ i (h : i < es.length), ∃ b o, a = some ⟨b, o, none⟩ ∧ b < w.heap.size ∧ ElemAt w b (o + i * 2) es[i]) := hc
    have HB : Hid (∀ i (h : i < fs.length), ∃ b o, a2 = some ⟨b, o, none⟩ ∧ b < w.heap.size ∧ ElemAt w b (o + i * 2) fs[i]) := hc2
    have IH : Hid (∀ x ∈ es, ∀ y ∈ fs, ∀ (av avq : Value) (w : World), DevsAt w av x.args → DevsAt w avq y.args → Calls Try.prog 23 #[.agg #[.int .i64 x.op, av], .agg #[.int .i64 y.op, avq] ] w fun e w' => e = .returned (.bool (decide (x = y))) ∧ Below w.heap.size w w') := ih
    clear hc hc2 ih
    have hlb : ((es.length : Int) != (fs.length : Int)) = false := by rw [bne_eq_false_iff_eq]; omega
    have hl1 : es.length ≤ fs.length := by omega
    have hl2 : fs.length ≤ es.length := by omega
    clear hlen
    go_enter Try.func26, Try.ntmps26
    go_wp2
    go_loopw [17] (fun i wr => ∃ k : Nat, k ≤ es.length ∧ i = .int .i64 k ∧ es.take k = fs.take k ∧ Below w.heap.size w wr) (fun i _ => es.length - (intOf i).toNat)
    case atStart => exact ⟨0, by omega, rfl, by simp, Below.refl _ _⟩
    case round =>
      obtain ⟨k, hk, rfl, heq, hb⟩ := hrel
      have HE : Hid (es.take k = fs.take k) := heq
      clear heq
      by_cases hlt : k < es.length
      · have hlt2 : k < fs.length := by omega
        obtain ⟨b, o, rfl, hbl, hn⟩ := HA.out k hlt
        have hn2 := (hn.below hb hbl)
        obtain ⟨b2, o2, rfl, hbl2, hm1⟩ := HB.out k hlt2
        have hm2 := (hm1.below hb hbl2)
        obtain ⟨x0, av, x1, hav⟩ := id hn2
        obtain ⟨y0, avq, y1, havq⟩ := id hm2
        obtain ⟨bb, hbb⟩ : ∃ bb, decide (es[k] = fs[k]) = bb := ⟨_, rfl⟩
        have HI : Hid (∀ W, Below wr.heap.size wr W → Calls Try.prog 23 #[.agg #[.int .i64 es[k].op, av], .agg #[.int .i64 fs[k].op, avq] ] W fun e w' => e = .returned (.bool (decide (es[k] = fs[k]))) ∧ Below W.heap.size W w') := fun W hW => IH.out es[k] (List.getElem_mem hlt) fs[k] (List.getElem_mem hlt2) _ _ W (hav.below hW) (havq.below hW)
        have HT : Hid (bb = true → es.take (k + 1) = fs.take (k + 1)) := by
          show _ → _
          intro h
          rw [h, decide_eq_true_iff] at hbb
          rw [List.take_succ_eq_append_getElem hlt, List.take_succ_eq_append_getElem hlt2, HE.out, hbb]
        have HF : Hid (bb = false → ¬ es = fs) := by
          show _ → _
          intro h he
          rw [h, decide_eq_false_iff_not] at hbb
          subst he
          exact hbb rfl
        rw [hbb] at HI
        obtain ⟨x, hx⟩ : ∃ x, x = es[k] := ⟨_, rfl⟩
        obtain ⟨y, hy⟩ : ∃ y, y = fs[k] := ⟨_, rfl⟩
        rw [← hx] at HI x0
        rw [← hy] at HI y0
        clear hx hy hbb hn hn2 hm1 hm2 HE
        · obtain ⟨p0, r0, rfl, _⟩ := hav
          obtain ⟨pq0, rq0, rfl, _⟩ := havq
          have hsz := hb.size
          have hw1 : b < wr.heap.size := Nat.lt_of_lt_of_le hbl hb.size
          have hw2 : b2 < wr.heap.size := Nat.lt_of_lt_of_le hbl2 hb.size
          have ya0 := fun ob => (cellAllocOld (ob := ob) hw2).trans y0
          have ya1 := fun ob => (cellAllocOld (ob := ob) hw2).trans y1
          cases bb
          · have HF2 : Hid (¬ es = fs) := HF.out rfl
            clear HF HT
            go_wp2_with (go_at_call 23; refine (HI.out _ (by (repeat (first | with_reducible exact Below.refl _ _ | with_reducible assumption | with_reducible refine bl_set (by first | exact Nat.le_refl _ | (simp; done) | (simp; omega) | omega) ?_ _ | with_reducible refine bl_alloc ?_ _ | with_reducible refine bl_drewN ?_ _ | with_reducible refine bl_drew ?_ | with_reducible refine bl_grow ?_ _ _ | with_reducible refine bl_call ?_ (by assumption))))).mono ?_; rintro e w2 ⟨rfl, hb2⟩)
            go_ret
            exact ⟨ret_bool (by rw [decide_eq_false HF2.out]), bl_call hb (by (repeat (first | with_reducible exact Below.refl _ _ | with_reducible assumption | with_reducible refine bl_set (by first | exact Nat.le_refl _ | (simp; done) | (simp; omega) | omega) ?_ _ | with_reducible refine bl_alloc ?_ _ | with_reducible refine bl_drewN ?_ _ | with_reducible refine bl_drew ?_ | with_reducible refine bl_grow ?_ _ _ | with_reducible refine bl_call ?_ (by assumption))))⟩
          · have HT2 : Hid (es.take (k + 1) = fs.take (k + 1)) := HT.out rfl
            clear HF HT
            go_wp2_with (go_at_call 23; refine (HI.out _ (by (repeat (first | with_reducible exact Below.refl _ _ | with_reducible assumption | with_reducible refine bl_set (by first | exact Nat.le_refl _ | (simp; done) | (simp; omega) | omega) ?_ _ | with_reducible refine bl_alloc ?_ _ | with_reducible refine bl_drewN ?_ _ | with_reducible refine bl_drew ?_ | with_reducible refine bl_grow ?_ _ _ | with_reducible refine bl_call ?_ (by assumption))))).mono ?_; rintro e w2 ⟨rfl, hb2⟩)
            exact ⟨⟨k + 1, by omega, by go_num, HT2.out, bl_call hb (by (repeat (first | with_reducible exact Below.refl _ _ | with_reducible assumption | with_reducible refine bl_set (by first | exact Nat.le_refl _ | (simp; done) | (simp; omega) | omega) ?_ _ | with_reducible refine bl_alloc ?_ _ | with_reducible refine bl_drewN ?_ _ | with_reducible refine bl_drew ?_ | with_reducible refine bl_grow ?_ _ _ | with_reducible refine bl_call ?_ (by assumption))))⟩, by simp [intOf]; omega⟩
      · go_wp2
        go_ret
        have e : es = fs := by
          have := HE.out
          rwa [List.take_of_length_le (by omega), List.take_of_length_le (by omega)] at this
        exact ⟨ret_bool (by rw [decide_eq_true e]), hb⟩
  · have hlb : ((es.length : Int) != (fs.length : Int)) = true := by rw [bne_iff_ne]; omega
    have HN : Hid (¬ es = fs) := by show ¬ _; intro h; exact hlen (by rw [h])
    clear hlen hc hc2 ih
    go_enter Try.func26, Try.ntmps26
    go_wp2
    go_ret
    exact ⟨ret_bool (by rw [decide_eq_false HN.out]), Below.refl _ _⟩
end Go.Proofs.Ytpeojflemfppgaa
/- Contracts of the program's chapter 3: slices.EqualFunc over arms. -/
namespace Go.Proofs.Ytpeojflemfppgaa
open Go.RowKit Go.Sort Go.BigFrame
theorem two_below {w w' : World} {B C : Nat} {v u : Value} (h : BoxAt w B v ∧ BoxAt w C u) (hb : Below w.heap.size w w') : BoxAt w' B v ∧ BoxAt w' C u := ⟨h.1.below hb, h.2.below hb⟩
def TwoAt (w : World) (B C : Nat) : Prop := BoxAt w B (fnNet B) ∧ BoxAt w C (fnArm B C)
theorem TwoAt.below {w w' : World} {B C : Nat} (h : TwoAt w B C) (hb : Below w.heap.size w w') : TwoAt w' B C := two_below h hb
open Classical in
set_option maxHeartbeats 1000000 in
set_option maxRecDepth 100000 in
theorem i_eqfArms (B C : Nat) (es fs : List Stil.Arm) (ih : ∀ x ∈ es, ∀ y ∈ fs, ∀ (av nv cv kv avq nvq cvq kvq : Value) (w : World), TwoAt w B C → DevsAt w av x.net.one.args → NetsAt w nv x.net.kids → ElemsAt w cv x.coils → ArmsAt w kv x.kids → DevsAt w avq y.net.one.args → NetsAt w nvq y.net.kids → ElemsAt w cvq y.coils → ArmsAt w kvq y.kids → Calls Try.prog 25 #[.agg #[.int .i64 x.net.kind, .int .i64 x.net.one.op, av, nv, cv, kv], .agg #[.int .i64 y.net.kind, .int .i64 y.net.one.op, avq, nvq, cvq, kvq], .pointer (some ⟨B, 0, none⟩), .pointer (some ⟨C, 0, none⟩)] w fun e w' => e = .returned (.bool (decide (x = y))) ∧ Below w.heap.size w w') (v u : Value) (w : World) (hat : ArmsAt w v es) (hau : ArmsAt w u fs) (hl : es.length ≤ 1048576) (hm : fs.length ≤ 1048576) (hcond : TwoAt w B C) :
    Calls Try.prog 27 #[v, u, .func (.func 25) #[] #[.pointer (some ⟨B, 0, none⟩), .pointer (some ⟨C, 0, none⟩)]] w fun e w' => e = .returned (.bool (decide (es = fs))) ∧ Below w.heap.size w w' := by
  obtain ⟨a, cap, rfl, hc⟩ := hat
  obtain ⟨a2, cap2, rfl, hc2⟩ := hau
  have HCD : Hid (∀ W, Below w.heap.size w W → TwoAt W B C) := fun W hW => hcond.below hW
  by_cases hlen : es.length = fs.length
  · have HA : Hid (∀ i (h : i < es.length), ∃ b o, a = some ⟨b, o, none⟩ ∧ b < w.heap.size ∧ ArmAt w b (o + i * 6) es[i]) := hc
    have HB : Hid (∀ i (h : i < fs.length), ∃ b o, a2 = some ⟨b, o, none⟩ ∧ b < w.heap.size ∧ ArmAt w b (o + i * 6) fs[i]) := hc2
    have IH : Hid (∀ x ∈ es, ∀ y ∈ fs, ∀ (av nv cv kv avq nvq cvq kvq : Value) (w : World), TwoAt w B C → DevsAt w av x.net.one.args → NetsAt w nv x.net.kids → ElemsAt w cv x.coils → ArmsAt w kv x.kids → DevsAt w avq y.net.one.args → NetsAt w nvq y.net.kids → ElemsAt w cvq y.coils → ArmsAt w kvq y.kids → Calls Try.prog 25 #[.agg #[.int .i64 x.net.kind, .int .i64 x.net.one.op, av, nv, cv, kv], .agg #[.int .i64 y.net.kind, .int .i64 y.net.one.op, avq, nvq, cvq, kvq], .pointer (some ⟨B, 0, none⟩), .pointer (some ⟨C, 0, none⟩)] w fun e w' => e = .returned (.bool (decide (x = y))) ∧ Below w.heap.size w w') := ih
    clear hc hc2 ih
    have hlb : ((es.length : Int) != (fs.length : Int)) = false := by rw [bne_eq_false_iff_eq]; omega
    have hl1 : es.length ≤ fs.length := by omega
    have hl2 : fs.length ≤ es.length := by omega
    clear hlen
    go_enter Try.func27, Try.ntmps27
    go_wp2
    go_loopw [17] (fun i wr => ∃ k : Nat, k ≤ es.length ∧ i = .int .i64 k ∧ es.take k = fs.take k ∧ Below w.heap.size w wr) (fun i _ => es.length - (intOf i).toNat)
    case atStart => exact ⟨0, by omega, rfl, by simp, Below.refl _ _⟩
    case round =>
      obtain ⟨k, hk, rfl, heq, hb⟩ := hrel
      have HE : Hid (es.take k = fs.take k) := heq
      clear heq
      by_cases hlt : k < es.length
      · have hlt2 : k < fs.length := by omega
        obtain ⟨b, o, rfl, hbl, hn⟩ := HA.out k hlt
        have hn2 := (ArmAt.below hb _ _ _ hn hbl)
        obtain ⟨b2, o2, rfl, hbl2, hm1⟩ := HB.out k hlt2
        have hm2 := (ArmAt.below hb _ _ _ hm1 hbl2)
        obtain ⟨hna, cv, kv, x4, x5, hcv, hkv⟩ := (hn2).open
        obtain ⟨x0, x1, av, nv, x2, x3, hav, hnv⟩ := hna.open
        obtain ⟨hnaq, cvq, kvq, y4, y5, hcvq, hkvq⟩ := (hm2).open
        obtain ⟨y0, y1, avq, nvq, y2, y3, havq, hnvq⟩ := hnaq.open
        obtain ⟨bb, hbb⟩ : ∃ bb, decide (es[k] = fs[k]) = bb := ⟨_, rfl⟩
        have HI : Hid (∀ W, Below wr.heap.size wr W → Calls Try.prog 25 #[.agg #[.int .i64 es[k].net.kind, .int .i64 es[k].net.one.op, av, nv, cv, kv], .agg #[.int .i64 fs[k].net.kind, .int .i64 fs[k].net.one.op, avq, nvq, cvq, kvq], .pointer (some ⟨B, 0, none⟩), .pointer (some ⟨C, 0, none⟩)] W fun e w' => e = .returned (.bool (decide (es[k] = fs[k]))) ∧ Below W.heap.size W w') := fun W hW => IH.out es[k] (List.getElem_mem hlt) fs[k] (List.getElem_mem hlt2) _ _ _ _ _ _ _ _ W (HCD.out _ (bl_call hb hW)) (hav.below hW) (hnv.below hW) (hcv.below hW) (hkv.below hW) (havq.below hW) (hnvq.below hW) (hcvq.below hW) (hkvq.below hW)
        have HT : Hid (bb = true → es.take (k + 1) = fs.take (k + 1)) := by
          show _ → _
          intro h
          rw [h, decide_eq_true_iff] at hbb
          rw [List.take_succ_eq_append_getElem hlt, List.take_succ_eq_append_getElem hlt2, HE.out, hbb]
        have HF : Hid (bb = false → ¬ es = fs) := by
          show _ → _
          intro h he
          rw [h, decide_eq_false_iff_not] at hbb
          subst he
          exact hbb rfl
        rw [hbb] at HI
        obtain ⟨x, hx⟩ : ∃ x, x = es[k] := ⟨_, rfl⟩
        obtain ⟨y, hy⟩ : ∃ y, y = fs[k] := ⟨_, rfl⟩
        rw [← hx] at HI x0 x1
        rw [← hy] at HI y0 y1
        clear hx hy hbb hn hn2 hm1 hm2 HE
        · obtain ⟨p0, r0, rfl, _⟩ := hav
          obtain ⟨pq0, rq0, rfl, _⟩ := havq
          obtain ⟨p1, r1, rfl, _⟩ := hnv
          obtain ⟨pq1, rq1, rfl, _⟩ := hnvq
          obtain ⟨p2, r2, rfl, _⟩ := hcv
          obtain ⟨pq2, rq2, rfl, _⟩ := hcvq
          obtain ⟨p3, r3, rfl, _⟩ := hkv
          obtain ⟨pq3, rq3, rfl, _⟩ := hkvq
          have hsz := hb.size
          have hw1 : b < wr.heap.size := Nat.lt_of_lt_of_le hbl hb.size
          have hw2 : b2 < wr.heap.size := Nat.lt_of_lt_of_le hbl2 hb.size
          have ya0 := fun ob => (cellAllocOld (ob := ob) hw2).trans y0
          have ya1 := fun ob => (cellAllocOld (ob := ob) hw2).trans y1
          have ya2 := fun ob => (cellAllocOld (ob := ob) hw2).trans y2
          have ya3 := fun ob => (cellAllocOld (ob := ob) hw2).trans y3
          have ya4 := fun ob => (cellAllocOld (ob := ob) hw2).trans y4
          have ya5 := fun ob => (cellAllocOld (ob := ob) hw2).trans y5
          cases bb
          · have HF2 : Hid (¬ es = fs) := HF.out rfl
            clear HF HT
            go_wp2_with (go_at_call 25; refine (HI.out _ (by (repeat (first | with_reducible exact Below.refl _ _ | with_reducible assumption | with_reducible refine bl_set (by first | exact Nat.le_refl _ | (simp; done) | (simp; omega) | omega) ?_ _ | with_reducible refine bl_alloc ?_ _ | with_reducible refine bl_drewN ?_ _ | with_reducible refine bl_drew ?_ | with_reducible refine bl_grow ?_ _ _ | with_reducible refine bl_call ?_ (by assumption))))).mono ?_; rintro e w2 ⟨rfl, hb2⟩)
            go_ret
            exact ⟨ret_bool (by rw [decide_eq_false HF2.out]), bl_call hb (by (repeat (first | with_reducible exact Below.refl _ _ | with_reducible assumption | with_reducible refine bl_set (by first | exact Nat.le_refl _ | (simp; done) | (simp; omega) | omega) ?_ _ | with_reducible refine bl_alloc ?_ _ | with_reducible refine bl_drewN ?_ _ | with_reducible refine bl_drew ?_ | with_reducible refine bl_grow ?_ _ _ | with_reducible refine bl_call ?_ (by assumption))))⟩
          · have HT2 : Hid (es.take (k + 1) = fs.take (k + 1)) := HT.out rfl
            clear HF HT
            go_wp2_with (go_at_call 25; refine (HI.out _ (by (repeat (first | with_reducible exact Below.refl _ _ | with_reducible assumption | with_reducible refine bl_set (by first | exact Nat.le_refl _ | (simp; done) | (simp; omega) | omega) ?_ _ | with_reducible refine bl_alloc ?_ _ | with_reducible refine bl_drewN ?_ _ | with_reducible refine bl_drew ?_ | with_reducible refine bl_grow ?_ _ _ | with_reducible refine bl_call ?_ (by assumption))))).mono ?_; rintro e w2 ⟨rfl, hb2⟩)
            exact ⟨⟨k + 1, by omega, by go_num, HT2.out, bl_call hb (by (repeat (first | with_reducible exact Below.refl _ _ | with_reducible assumption | with_reducible refine bl_set (by first | exact Nat.le_refl _ | (simp; done) | (simp; omega) | omega) ?_ _ | with_reducible refine bl_alloc ?_ _ | with_reducible refine bl_drewN ?_ _ | with_reducible refine bl_drew ?_ | with_reducible refine bl_grow ?_ _ _ | with_reducible refine bl_call ?_ (by assumption))))⟩, by simp [intOf]; omega⟩
      · go_wp2
        go_ret
        have e : es = fs := by
          have := HE.out
          rwa [List.take_of_length_le (by omega), List.take_of_length_le (by omega)] at this
        exact ⟨ret_bool (by rw [decide_eq_true e]), hb⟩
  · have hlb : ((es.length : Int) != (fs.length : Int)) = true := by rw [bne_iff_ne]; omega
    have HN : Hid (¬ es = fs) := by show ¬ _; intro h; exact hlen (by rw [h])
    clear hlen hc hc2 ih
    go_enter Try.func27, Try.ntmps27
    go_wp2
    go_ret
    exact ⟨ret_bool (by rw [decide_eq_false HN.out]), Below.refl _ _⟩
end Go.Proofs.Ytpeojflemfppgaa
/- Contracts of the program's chapter 3: slices.EqualFunc over nets. -/
namespace Go.Proofs.Ytpeojflemfppgaa
open Go.RowKit Go.Sort Go.BigFrame
open Classical in
set_option maxHeartbeats 1000000 in
set_option maxRecDepth 100000 in
theorem i_eqfNets (B : Nat) (es fs : List Stil.Net) (ih : ∀ x ∈ es, ∀ y ∈ fs, ∀ (av kv avq kvq : Value) (w : World), BoxAt w B (fnNet B) → DevsAt w av x.one.args → NetsAt w kv x.kids → DevsAt w avq y.one.args → NetsAt w kvq y.kids → Calls Try.prog 22 #[.agg #[.int .i64 x.kind, .int .i64 x.one.op, av, kv], .agg #[.int .i64 y.kind, .int .i64 y.one.op, avq, kvq], .pointer (some ⟨B, 0, none⟩)] w fun e w' => e = .returned (.bool (decide (x = y))) ∧ Below w.heap.size w w') (v u : Value) (w : World) (hat : NetsAt w v es) (hau : NetsAt w u fs) (hl : es.length ≤ 1048576) (hm : fs.length ≤ 1048576) (hcond : BoxAt w B (fnNet B)) :
    Calls Try.prog 24 #[v, u, .func (.func 22) #[] #[.pointer (some ⟨B, 0, none⟩)]] w fun e w' => e = .returned (.bool (decide (es = fs))) ∧ Below w.heap.size w w' := by
  obtain ⟨a, cap, rfl, hc⟩ := hat
  obtain ⟨a2, cap2, rfl, hc2⟩ := hau
  have HCD : Hid (∀ W, Below w.heap.size w W → BoxAt W B (fnNet B)) := fun W hW => hcond.below hW
  by_cases hlen : es.length = fs.length
  · have HA : Hid (∀ i (h : i < es.length), ∃ b o, a = some ⟨b, o, none⟩ ∧ b < w.heap.size ∧ NetAt w b (o + i * 4) es[i]) := hc
    have HB : Hid (∀ i (h : i < fs.length), ∃ b o, a2 = some ⟨b, o, none⟩ ∧ b < w.heap.size ∧ NetAt w b (o + i * 4) fs[i]) := hc2
    have IH : Hid (∀ x ∈ es, ∀ y ∈ fs, ∀ (av kv avq kvq : Value) (w : World), BoxAt w B (fnNet B) → DevsAt w av x.one.args → NetsAt w kv x.kids → DevsAt w avq y.one.args → NetsAt w kvq y.kids → Calls Try.prog 22 #[.agg #[.int .i64 x.kind, .int .i64 x.one.op, av, kv], .agg #[.int .i64 y.kind, .int .i64 y.one.op, avq, kvq], .pointer (some ⟨B, 0, none⟩)] w fun e w' => e = .returned (.bool (decide (x = y))) ∧ Below w.heap.size w w') := ih
    clear hc hc2 ih
    have hlb : ((es.length : Int) != (fs.length : Int)) = false := by rw [bne_eq_false_iff_eq]; omega
    have hl1 : es.length ≤ fs.length := by omega
    have hl2 : fs.length ≤ es.length := by omega
    clear hlen
    go_enter Try.func24, Try.ntmps24
    go_wp2
    go_loopw [17] (fun i wr => ∃ k : Nat, k ≤ es.length ∧ i = .int .i64 k ∧ es.take k = fs.take k ∧ Below w.heap.size w wr) (fun i _ => es.length - (intOf i).toNat)
    case atStart => exact ⟨0, by omega, rfl, by simp, Below.refl _ _⟩
    case round =>
      obtain ⟨k, hk, rfl, heq, hb⟩ := hrel
      have HE : Hid (es.take k = fs.take k) := heq
      clear heq
      by_cases hlt : k < es.length
      · have hlt2 : k < fs.length := by omega
        obtain ⟨b, o, rfl, hbl, hn⟩ := HA.out k hlt
        have hn2 := (NetAt.below hb _ _ _ hn hbl)
        obtain ⟨b2, o2, rfl, hbl2, hm1⟩ := HB.out k hlt2
        have hm2 := (NetAt.below hb _ _ _ hm1 hbl2)
        obtain ⟨x0, x1, av, kv, x2, x3, hav, hkv⟩ := (hn2).open
        obtain ⟨y0, y1, avq, kvq, y2, y3, havq, hkvq⟩ := (hm2).open
        obtain ⟨bb, hbb⟩ : ∃ bb, decide (es[k] = fs[k]) = bb := ⟨_, rfl⟩
        have HI : Hid (∀ W, Below wr.heap.size wr W → Calls Try.prog 22 #[.agg #[.int .i64 es[k].kind, .int .i64 es[k].one.op, av, kv], .agg #[.int .i64 fs[k].kind, .int .i64 fs[k].one.op, avq, kvq], .pointer (some ⟨B, 0, none⟩)] W fun e w' => e = .returned (.bool (decide (es[k] = fs[k]))) ∧ Below W.heap.size W w') := fun W hW => IH.out es[k] (List.getElem_mem hlt) fs[k] (List.getElem_mem hlt2) _ _ _ _ W (HCD.out _ (bl_call hb hW)) (hav.below hW) (hkv.below hW) (havq.below hW) (hkvq.below hW)
        have HT : Hid (bb = true → es.take (k + 1) = fs.take (k + 1)) := by
          show _ → _
          intro h
          rw [h, decide_eq_true_iff] at hbb
          rw [List.take_succ_eq_append_getElem hlt, List.take_succ_eq_append_getElem hlt2, HE.out, hbb]
        have HF : Hid (bb = false → ¬ es = fs) := by
          show _ → _
          intro h he
          rw [h, decide_eq_false_iff_not] at hbb
          subst he
          exact hbb rfl
        rw [hbb] at HI
        obtain ⟨x, hx⟩ : ∃ x, x = es[k] := ⟨_, rfl⟩
        obtain ⟨y, hy⟩ : ∃ y, y = fs[k] := ⟨_, rfl⟩
        rw [← hx] at HI x0 x1
        rw [← hy] at HI y0 y1
        clear hx hy hbb hn hn2 hm1 hm2 HE
        · obtain ⟨p0, r0, rfl, _⟩ := hav
          obtain ⟨pq0, rq0, rfl, _⟩ := havq
          obtain ⟨p1, r1, rfl, _⟩ := hkv
          obtain ⟨pq1, rq1, rfl, _⟩ := hkvq
          have hsz := hb.size
          have hw1 : b < wr.heap.size := Nat.lt_of_lt_of_le hbl hb.size
          have hw2 : b2 < wr.heap.size := Nat.lt_of_lt_of_le hbl2 hb.size
          have ya0 := fun ob => (cellAllocOld (ob := ob) hw2).trans y0
          have ya1 := fun ob => (cellAllocOld (ob := ob) hw2).trans y1
          have ya2 := fun ob => (cellAllocOld (ob := ob) hw2).trans y2
          have ya3 := fun ob => (cellAllocOld (ob := ob) hw2).trans y3
          cases bb
          · have HF2 : Hid (¬ es = fs) := HF.out rfl
            clear HF HT
            go_wp2_with (go_at_call 22; refine (HI.out _ (by (repeat (first | with_reducible exact Below.refl _ _ | with_reducible assumption | with_reducible refine bl_set (by first | exact Nat.le_refl _ | (simp; done) | (simp; omega) | omega) ?_ _ | with_reducible refine bl_alloc ?_ _ | with_reducible refine bl_drewN ?_ _ | with_reducible refine bl_drew ?_ | with_reducible refine bl_grow ?_ _ _ | with_reducible refine bl_call ?_ (by assumption))))).mono ?_; rintro e w2 ⟨rfl, hb2⟩)
            go_ret
            exact ⟨ret_bool (by rw [decide_eq_false HF2.out]), bl_call hb (by (repeat (first | with_reducible exact Below.refl _ _ | with_reducible assumption | with_reducible refine bl_set (by first | exact Nat.le_refl _ | (simp; done) | (simp; omega) | omega) ?_ _ | with_reducible refine bl_alloc ?_ _ | with_reducible refine bl_drewN ?_ _ | with_reducible refine bl_drew ?_ | with_reducible refine bl_grow ?_ _ _ | with_reducible refine bl_call ?_ (by assumption))))⟩
          · have HT2 : Hid (es.take (k + 1) = fs.take (k + 1)) := HT.out rfl
            clear HF HT
            go_wp2_with (go_at_call 22; refine (HI.out _ (by (repeat (first | with_reducible exact Below.refl _ _ | with_reducible assumption | with_reducible refine bl_set (by first | exact Nat.le_refl _ | (simp; done) | (simp; omega) | omega) ?_ _ | with_reducible refine bl_alloc ?_ _ | with_reducible refine bl_drewN ?_ _ | with_reducible refine bl_drew ?_ | with_reducible refine bl_grow ?_ _ _ | with_reducible refine bl_call ?_ (by assumption))))).mono ?_; rintro e w2 ⟨rfl, hb2⟩)
            exact ⟨⟨k + 1, by omega, by go_num, HT2.out, bl_call hb (by (repeat (first | with_reducible exact Below.refl _ _ | with_reducible assumption | with_reducible refine bl_set (by first | exact Nat.le_refl _ | (simp; done) | (simp; omega) | omega) ?_ _ | with_reducible refine bl_alloc ?_ _ | with_reducible refine bl_drewN ?_ _ | with_reducible refine bl_drew ?_ | with_reducible refine bl_grow ?_ _ _ | with_reducible refine bl_call ?_ (by assumption))))⟩, by simp [intOf]; omega⟩
      · go_wp2
        go_ret
        have e : es = fs := by
          have := HE.out
          rwa [List.take_of_length_le (by omega), List.take_of_length_le (by omega)] at this
        exact ⟨ret_bool (by rw [decide_eq_true e]), hb⟩
  · have hlb : ((es.length : Int) != (fs.length : Int)) = true := by rw [bne_iff_ne]; omega
    have HN : Hid (¬ es = fs) := by show ¬ _; intro h; exact hlen (by rw [h])
    clear hlen hc hc2 ih
    go_enter Try.func24, Try.ntmps24
    go_wp2
    go_ret
    exact ⟨ret_bool (by rw [decide_eq_false HN.out]), Below.refl _ _⟩
end Go.Proofs.Ytpeojflemfppgaa
/- Contracts of the program's chapter 3: the closure that compares two nets. -/
namespace Go.Proofs.Ytpeojflemfppgaa
open Go.RowKit Go.Sort Go.BigFrame
open Classical in
set_option maxHeartbeats 1000000 in
set_option maxRecDepth 100000 in
theorem i_sameNet (B : Nat) (n : Stil.Net) : ∀ m : Stil.Net, Stil.netFits n → Stil.netFits m → ∀ (av kv avq kvq : Value) (w : World), BoxAt w B (fnNet B) → DevsAt w av n.one.args → NetsAt w kv n.kids → DevsAt w avq m.one.args → NetsAt w kvq m.kids → Calls Try.prog 22 #[.agg #[.int .i64 n.kind, .int .i64 n.one.op, av, kv], .agg #[.int .i64 m.kind, .int .i64 m.one.op, avq, kvq], .pointer (some ⟨B, 0, none⟩)] w fun e w' => e = .returned (.bool (decide (n = m))) ∧ Below w.heap.size w w' := by
  induction n using Stil.net_ind with
  | h k e kids ih =>
    intro m hft hfm av kv avq kvq w hbx hav hkv havq hkvq
    obtain ⟨k2, f, kids2⟩ := m
    obtain ⟨_, he, hl, hk⟩ := (Stil.netFits_eq _ _ _).1 hft
    obtain ⟨_, he2, hl2, hk2⟩ := (Stil.netFits_eq _ _ _).1 hfm
    simp only at hav hkv havq hkvq
    have H1 : Hid (∀ W, Below w.heap.size w W → Calls Try.prog 23 #[.agg #[.int .i64 e.op, av], .agg #[.int .i64 f.op, avq]] W fun r w' => r = .returned (.bool (decide (e = f))) ∧ Below W.heap.size W w') := fun W hW => i_elemSame e f he he2 av avq W (hav.below hW) (havq.below hW)
    have H2 : Hid (∀ W, Below w.heap.size w W → Calls Try.prog 24 #[kv, kvq, .func (.func 22) #[] #[.pointer (some ⟨B, 0, none⟩)]] W fun r w' => r = .returned (.bool (decide (kids = kids2))) ∧ Below W.heap.size W w') := fun W hW => i_eqfNets B kids kids2 (fun x hx y hy => ih x hx y (hk x hx) (hk2 y hy)) kv kvq W (hkv.below hW) (hkvq.below hW) hl hl2 (hbx.below hW)
    have HBX : Hid (∀ W, Below w.heap.size w W → W.cell? ⟨B, 0, none⟩ = some (.func (.func 22) #[] #[.pointer (some ⟨B, 0, none⟩)])) := fun W hW => (hbx.below hW).1
    obtain ⟨p0, r0, rfl, _⟩ := hav
    obtain ⟨p1, r1, rfl, _⟩ := hkv
    obtain ⟨p2, r2, rfl, _⟩ := havq
    obtain ⟨p3, r3, rfl, _⟩ := hkvq
    clear ih hft he hl hk hfm he2 hl2 hk2 hbx
    by_cases hkk : k = k2
    · subst hkk
      cases hd : decide (e = f)
      · have HD : Hid (¬ (⟨k, e, kids⟩ : Stil.Net) = ⟨k, f, kids2⟩) := by show ¬ _; rw [decide_eq_false_iff_not] at hd; intro h; exact hd (Stil.Net.mk.inj h).2.1
        rw [hd] at H1
        clear hd
        go_enter Try.func22, Try.ntmps22
        go_wp2_with (go_at_call 23; refine (H1.out _ (by (repeat (first | with_reducible exact Below.refl _ _ | with_reducible assumption | with_reducible refine bl_set (by first | exact Nat.le_refl _ | (simp; done) | (simp; omega) | omega) ?_ _ | with_reducible refine bl_alloc ?_ _ | with_reducible refine bl_drewN ?_ _ | with_reducible refine bl_drew ?_ | with_reducible refine bl_grow ?_ _ _ | with_reducible refine bl_call ?_ (by assumption))))).mono ?_; rintro e w1 ⟨rfl, hb⟩)
        go_ret
        exact ⟨ret_bool (by rw [decide_eq_false HD.out]), by (repeat (first | with_reducible exact Below.refl _ _ | with_reducible assumption | with_reducible refine bl_set (by first | exact Nat.le_refl _ | (simp; done) | (simp; omega) | omega) ?_ _ | with_reducible refine bl_alloc ?_ _ | with_reducible refine bl_drewN ?_ _ | with_reducible refine bl_drew ?_ | with_reducible refine bl_grow ?_ _ _ | with_reducible refine bl_call ?_ (by assumption)))⟩
      · have HD : Hid (decide ((⟨k, e, kids⟩ : Stil.Net) = ⟨k, f, kids2⟩) = decide (kids = kids2)) := by show _ = _; rw [decide_eq_true_iff] at hd; simp [hd]
        rw [hd] at H1
        clear hd
        obtain ⟨bb, hbb⟩ : ∃ bb, bb = decide (kids = kids2) := ⟨_, rfl⟩
        rw [← hbb] at H2 HD
        clear hbb
        go_enter Try.func22, Try.ntmps22
        go_wp2_with (first | (go_at_call 23; refine (H1.out _ (by (repeat (first | with_reducible exact Below.refl _ _ | with_reducible assumption | with_reducible refine bl_set (by first | exact Nat.le_refl _ | (simp; done) | (simp; omega) | omega) ?_ _ | with_reducible refine bl_alloc ?_ _ | with_reducible refine bl_drewN ?_ _ | with_reducible refine bl_drew ?_ | with_reducible refine bl_grow ?_ _ _ | with_reducible refine bl_call ?_ (by assumption))))).mono ?_; rintro e w1 ⟨rfl, hb⟩; obtain ⟨hc, hf⟩ := bcell hb; have hbx := HBX.out w1 (by (repeat (first | with_reducible exact Below.refl _ _ | with_reducible assumption | with_reducible refine bl_set (by first | exact Nat.le_refl _ | (simp; done) | (simp; omega) | omega) ?_ _ | with_reducible refine bl_alloc ?_ _ | with_reducible refine bl_drewN ?_ _ | with_reducible refine bl_drew ?_ | with_reducible refine bl_grow ?_ _ _ | with_reducible refine bl_call ?_ (by assumption))))) | (go_at_call 24; refine (H2.out _ (by (repeat (first | with_reducible exact Below.refl _ _ | with_reducible assumption | with_reducible refine bl_set (by first | exact Nat.le_refl _ | (simp; done) | (simp; omega) | omega) ?_ _ | with_reducible refine bl_alloc ?_ _ | with_reducible refine bl_drewN ?_ _ | with_reducible refine bl_drew ?_ | with_reducible refine bl_grow ?_ _ _ | with_reducible refine bl_call ?_ (by assumption))))).mono ?_; rintro e w2 ⟨rfl, hb2⟩))
        go_ret
        exact ⟨ret_bool (by rw [HD.out]), by (repeat (first | with_reducible exact Below.refl _ _ | with_reducible assumption | with_reducible refine bl_set (by first | exact Nat.le_refl _ | (simp; done) | (simp; omega) | omega) ?_ _ | with_reducible refine bl_alloc ?_ _ | with_reducible refine bl_drewN ?_ _ | with_reducible refine bl_drew ?_ | with_reducible refine bl_grow ?_ _ _ | with_reducible refine bl_call ?_ (by assumption)))⟩
    · have hob : (k == k2) = false := by rw [beq_eq_false_iff_ne]; exact hkk
      have HD : Hid (¬ (⟨k, e, kids⟩ : Stil.Net) = ⟨k2, f, kids2⟩) := by show ¬ _; intro h; exact hkk (Stil.Net.mk.inj h).1
      clear hkk
      go_enter Try.func22, Try.ntmps22
      go_wp2
      go_ret
      exact ⟨ret_bool (by rw [decide_eq_false HD.out]), by (repeat (first | with_reducible exact Below.refl _ _ | with_reducible assumption | with_reducible refine bl_set (by first | exact Nat.le_refl _ | (simp; done) | (simp; omega) | omega) ?_ _ | with_reducible refine bl_alloc ?_ _ | with_reducible refine bl_drewN ?_ _ | with_reducible refine bl_drew ?_ | with_reducible refine bl_grow ?_ _ _ | with_reducible refine bl_call ?_ (by assumption)))⟩
end Go.Proofs.Ytpeojflemfppgaa
/- Contracts of the program's chapter 3: the closure that compares two arms, and TreeSame. -/
namespace Go.Proofs.Ytpeojflemfppgaa
open Go.RowKit Go.Sort Go.BigFrame
open Classical in
set_option maxHeartbeats 2000000 in
set_option maxRecDepth 100000 in
theorem i_sameArm (B C : Nat) (n : Stil.Arm) : ∀ m : Stil.Arm, Stil.armFits n → Stil.armFits m → ∀ (av nv cv kv avq nvq cvq kvq : Value) (w : World), TwoAt w B C → DevsAt w av n.net.one.args → NetsAt w nv n.net.kids → ElemsAt w cv n.coils → ArmsAt w kv n.kids → DevsAt w avq m.net.one.args → NetsAt w nvq m.net.kids → ElemsAt w cvq m.coils → ArmsAt w kvq m.kids → Calls Try.prog 25 #[.agg #[.int .i64 n.net.kind, .int .i64 n.net.one.op, av, nv, cv, kv], .agg #[.int .i64 m.net.kind, .int .i64 m.net.one.op, avq, nvq, cvq, kvq], .pointer (some ⟨B, 0, none⟩), .pointer (some ⟨C, 0, none⟩)] w fun e w' => e = .returned (.bool (decide (n = m))) ∧ Below w.heap.size w w' := by
  induction n using Stil.arm_ind with
  | h n coils kids ih =>
    intro m hft hfm av nv cv kv avq nvq cvq kvq w hbx hav hnv hcv hkv havq hnvq hcvq hkvq
    obtain ⟨n2, coils2, kids2⟩ := m
    obtain ⟨hn, hl1, hcw, hl, hk⟩ := (Stil.armFits_eq _ _ _).1 hft
    obtain ⟨hn2, hl12, hcw2, hl2, hk2⟩ := (Stil.armFits_eq _ _ _).1 hfm
    simp only at hav hnv hcv hkv havq hnvq hcvq hkvq
    have H1 : Hid (∀ W, Below w.heap.size w W → Calls Try.prog 22 #[.agg #[.int .i64 n.kind, .int .i64 n.one.op, av, nv], .agg #[.int .i64 n2.kind, .int .i64 n2.one.op, avq, nvq], .pointer (some ⟨B, 0, none⟩)] W fun r w' => r = .returned (.bool (decide (n = n2))) ∧ Below W.heap.size W w') := fun W hW => i_sameNet B n n2 hn hn2 av nv avq nvq W (hbx.1.below hW) (hav.below hW) (hnv.below hW) (havq.below hW) (hnvq.below hW)
    have H2 : Hid (∀ W, Below w.heap.size w W → Calls Try.prog 26 #[cv, cvq, .func (.func 23) #[] #[]] W fun r w' => r = .returned (.bool (decide (coils = coils2))) ∧ Below W.heap.size W w') := fun W hW => i_eqfElems coils coils2 (fun x hx y hy => i_elemSame x y (hcw x hx) (hcw2 y hy)) cv cvq W (hcv.below hW) (hcvq.below hW) hl1 hl12
    have H3 : Hid (∀ W, Below w.heap.size w W → Calls Try.prog 27 #[kv, kvq, .func (.func 25) #[] #[.pointer (some ⟨B, 0, none⟩), .pointer (some ⟨C, 0, none⟩)]] W fun r w' => r = .returned (.bool (decide (kids = kids2))) ∧ Below W.heap.size W w') := fun W hW => i_eqfArms B C kids kids2 (fun x hx y hy => ih x hx y (hk x hx) (hk2 y hy)) kv kvq W (hkv.below hW) (hkvq.below hW) hl hl2 (hbx.below hW)
    have HBX : Hid (∀ W, Below w.heap.size w W → W.cell? ⟨C, 0, none⟩ = some (.func (.func 25) #[] #[.pointer (some ⟨B, 0, none⟩), .pointer (some ⟨C, 0, none⟩)])) := fun W hW => (hbx.2.below hW).1
    have hbn : w.cell? ⟨B, 0, none⟩ = some (.func (.func 22) #[] #[.pointer (some ⟨B, 0, none⟩)]) := hbx.1.1
    have hBlt := hbx.1.2
    have hba : ∀ ob ob2, ((w.alloc ob).alloc ob2).cell? ⟨B, 0, none⟩ = some (.func (.func 22) #[] #[.pointer (some ⟨B, 0, none⟩)]) := fun ob ob2 => (cellAllocOld (by simp; omega)).trans ((cellAllocOld hBlt).trans hbn)
    obtain ⟨p0, r0, rfl, _⟩ := hav
    obtain ⟨p1, r1, rfl, _⟩ := hnv
    obtain ⟨p2, r2, rfl, _⟩ := hcv
    obtain ⟨p3, r3, rfl, _⟩ := hkv
    obtain ⟨p4, r4, rfl, _⟩ := havq
    obtain ⟨p5, r5, rfl, _⟩ := hnvq
    obtain ⟨p6, r6, rfl, _⟩ := hcvq
    obtain ⟨p7, r7, rfl, _⟩ := hkvq
    clear ih hft hn hl1 hcw hl hk hfm hn2 hl12 hcw2 hl2 hk2 hbx
    cases hd : decide (n = n2)
    · have HD : Hid (¬ (⟨n, coils, kids⟩ : Stil.Arm) = ⟨n2, coils2, kids2⟩) := by show ¬ _; rw [decide_eq_false_iff_not] at hd; intro h; exact hd (Stil.Arm.mk.inj h).1
      rw [hd] at H1
      clear hd
      go_enter Try.func25, Try.ntmps25
      go_wp2_with (go_at_call 22; refine (H1.out _ (by (repeat (first | with_reducible exact Below.refl _ _ | with_reducible assumption | with_reducible refine bl_set (by first | exact Nat.le_refl _ | (simp; done) | (simp; omega) | omega) ?_ _ | with_reducible refine bl_alloc ?_ _ | with_reducible refine bl_drewN ?_ _ | with_reducible refine bl_drew ?_ | with_reducible refine bl_grow ?_ _ _ | with_reducible refine bl_call ?_ (by assumption))))).mono ?_; rintro e w1 ⟨rfl, hb⟩)
      go_ret
      exact ⟨ret_bool (by rw [decide_eq_false HD.out]), by (repeat (first | with_reducible exact Below.refl _ _ | with_reducible assumption | with_reducible refine bl_set (by first | exact Nat.le_refl _ | (simp; done) | (simp; omega) | omega) ?_ _ | with_reducible refine bl_alloc ?_ _ | with_reducible refine bl_drewN ?_ _ | with_reducible refine bl_drew ?_ | with_reducible refine bl_grow ?_ _ _ | with_reducible refine bl_call ?_ (by assumption)))⟩
    · rw [decide_eq_true_iff] at hd
      cases hd2 : decide (coils = coils2)
      · have HD : Hid (¬ (⟨n, coils, kids⟩ : Stil.Arm) = ⟨n2, coils2, kids2⟩) := by show ¬ _; rw [decide_eq_false_iff_not] at hd2; intro h; exact hd2 (Stil.Arm.mk.inj h).2.1
        rw [hd2] at H2
        rw [decide_eq_true hd] at H1
        clear hd hd2
        go_enter Try.func25, Try.ntmps25
        go_wp2_with (first | (go_at_call 22; refine (H1.out _ (by (repeat (first | with_reducible exact Below.refl _ _ | with_reducible assumption | with_reducible refine bl_set (by first | exact Nat.le_refl _ | (simp; done) | (simp; omega) | omega) ?_ _ | with_reducible refine bl_alloc ?_ _ | with_reducible refine bl_drewN ?_ _ | with_reducible refine bl_drew ?_ | with_reducible refine bl_grow ?_ _ _ | with_reducible refine bl_call ?_ (by assumption))))).mono ?_; rintro e w1 ⟨rfl, hb⟩; obtain ⟨hc, hf⟩ := bcell hb; have hz0 : w.heap.size < w1.heap.size := Nat.lt_of_lt_of_le (by simp; omega) hb.size; have hz1 : w.heap.size + 1 < w1.heap.size := Nat.lt_of_lt_of_le (by simp) hb.size) | (go_at_call 26; refine (H2.out _ (by (repeat (first | with_reducible exact Below.refl _ _ | with_reducible assumption | with_reducible refine bl_set (by first | exact Nat.le_refl _ | (simp; done) | (simp; omega) | omega) ?_ _ | with_reducible refine bl_alloc ?_ _ | with_reducible refine bl_drewN ?_ _ | with_reducible refine bl_drew ?_ | with_reducible refine bl_grow ?_ _ _ | with_reducible refine bl_call ?_ (by assumption))))).mono ?_; rintro e w2 ⟨rfl, hb2⟩))
        go_ret
        exact ⟨ret_bool (by rw [decide_eq_false HD.out]), by (repeat (first | with_reducible exact Below.refl _ _ | with_reducible assumption | with_reducible refine bl_set (by first | exact Nat.le_refl _ | (simp; done) | (simp; omega) | omega) ?_ _ | with_reducible refine bl_alloc ?_ _ | with_reducible refine bl_drewN ?_ _ | with_reducible refine bl_drew ?_ | with_reducible refine bl_grow ?_ _ _ | with_reducible refine bl_call ?_ (by assumption)))⟩
      · rw [decide_eq_true_iff] at hd2
        have HD : Hid (decide ((⟨n, coils, kids⟩ : Stil.Arm) = ⟨n2, coils2, kids2⟩) = decide (kids = kids2)) := by show _ = _; simp [hd, hd2]
        rw [decide_eq_true hd2] at H2
        rw [decide_eq_true hd] at H1
        clear hd hd2
        obtain ⟨bb, hbb⟩ : ∃ bb, bb = decide (kids = kids2) := ⟨_, rfl⟩
        rw [← hbb] at H3 HD
        clear hbb
        go_enter Try.func25, Try.ntmps25
        go_wp2_with (first | (go_at_call 22; refine (H1.out _ (by (repeat (first | with_reducible exact Below.refl _ _ | with_reducible assumption | with_reducible refine bl_set (by first | exact Nat.le_refl _ | (simp; done) | (simp; omega) | omega) ?_ _ | with_reducible refine bl_alloc ?_ _ | with_reducible refine bl_drewN ?_ _ | with_reducible refine bl_drew ?_ | with_reducible refine bl_grow ?_ _ _ | with_reducible refine bl_call ?_ (by assumption))))).mono ?_; rintro e w1 ⟨rfl, hb⟩; obtain ⟨hc, hf⟩ := bcell hb; have hz0 : w.heap.size < w1.heap.size := Nat.lt_of_lt_of_le (by simp; omega) hb.size; have hz1 : w.heap.size + 1 < w1.heap.size := Nat.lt_of_lt_of_le (by simp) hb.size) | (go_at_call 26; refine (H2.out _ (by (repeat (first | with_reducible exact Below.refl _ _ | with_reducible assumption | with_reducible refine bl_set (by first | exact Nat.le_refl _ | (simp; done) | (simp; omega) | omega) ?_ _ | with_reducible refine bl_alloc ?_ _ | with_reducible refine bl_drewN ?_ _ | with_reducible refine bl_drew ?_ | with_reducible refine bl_grow ?_ _ _ | with_reducible refine bl_call ?_ (by assumption))))).mono ?_; rintro e w2 ⟨rfl, hb2⟩; obtain ⟨hc2, hf2⟩ := bcell hb2; have hbx := HBX.out w2 (by (repeat (first | with_reducible exact Below.refl _ _ | with_reducible assumption | with_reducible refine bl_set (by first | exact Nat.le_refl _ | (simp; done) | (simp; omega) | omega) ?_ _ | with_reducible refine bl_alloc ?_ _ | with_reducible refine bl_drewN ?_ _ | with_reducible refine bl_drew ?_ | with_reducible refine bl_grow ?_ _ _ | with_reducible refine bl_call ?_ (by assumption))))) | (go_at_call 27; refine (H3.out _ (by (repeat (first | with_reducible exact Below.refl _ _ | with_reducible assumption | with_reducible refine bl_set (by first | exact Nat.le_refl _ | (simp; done) | (simp; omega) | omega) ?_ _ | with_reducible refine bl_alloc ?_ _ | with_reducible refine bl_drewN ?_ _ | with_reducible refine bl_drew ?_ | with_reducible refine bl_grow ?_ _ _ | with_reducible refine bl_call ?_ (by assumption))))).mono ?_; rintro e w3 ⟨rfl, hb3⟩))
        go_ret
        exact ⟨ret_bool (by rw [HD.out]), by (repeat (first | with_reducible exact Below.refl _ _ | with_reducible assumption | with_reducible refine bl_set (by first | exact Nat.le_refl _ | (simp; done) | (simp; omega) | omega) ?_ _ | with_reducible refine bl_alloc ?_ _ | with_reducible refine bl_drewN ?_ _ | with_reducible refine bl_drew ?_ | with_reducible refine bl_grow ?_ _ _ | with_reducible refine bl_call ?_ (by assumption)))⟩
end Go.Proofs.Ytpeojflemfppgaa
/- Contracts of the program's chapter 3: TreeSame. -/
namespace Go.Proofs.Ytpeojflemfppgaa
open Go.RowKit Go.Sort Go.BigFrame
open Classical in
set_option maxHeartbeats 1000000 in
set_option maxRecDepth 100000 in
theorem i_treeSame (la lb : List Stil.Arm) (v u : Value) (w : World) (hav : ArmsAt w v la) (hbv : ArmsAt w u lb) (hfa : ∀ x ∈ la, Stil.armFits x) (hfb : ∀ x ∈ lb, Stil.armFits x) (hl : la.length ≤ 1048576) (hm : lb.length ≤ 1048576) :
    Calls Try.prog 12 #[v, u] w fun r w' => r = .returned (.bool (decide (la = lb))) ∧ Below w.heap.size w w' := by
  have hmf : ∀ (fn : Fn) (first cap : Array Value) (w : World), (Instr.makeFunc fn first cap).run Try.prog w = .ok (.func fn first cap) w := fun _ _ _ _ => rfl
  have hst : ∀ (fn : Fn) (fi ca : Array Value) (P : Program) (w : World) (a : Addr) (m : Mode), (store a (.func fn fi ca) m).run P w = stored P w a (.func fn fi ca) m := fun fn fi ca P w a m => run_store P w a _ m rfl
  have H1 : Hid (∀ W, Below w.heap.size w W → ∀ B C, TwoAt W B C → Calls Try.prog 27 #[v, u, .func (.func 25) #[] #[.pointer (some ⟨B, 0, none⟩), .pointer (some ⟨C, 0, none⟩)]] W fun r w' => r = .returned (.bool (decide (la = lb))) ∧ Below W.heap.size W w') := fun W hW B C hbx => i_eqfArms B C la lb (fun x hx y hy => i_sameArm B C x y (hfa x hx) (hfb y hy)) v u W (hav.below hW) (hbv.below hW) hl hm hbx
  obtain ⟨p0, r0, rfl, _⟩ := hav
  obtain ⟨p1, r1, rfl, _⟩ := hbv
  obtain ⟨bb, hbb⟩ : ∃ bb, bb = decide (la = lb) := ⟨_, rfl⟩
  rw [← hbb] at H1 ⊢
  clear hbb hfa hfb
  go_enter Try.func12, Try.ntmps12
  go_wp2_with (go_at_call 27; refine (H1.out _ (by (repeat (first | with_reducible exact Below.refl _ _ | with_reducible assumption | with_reducible refine bl_set (by first | exact Nat.le_refl _ | (simp; done) | (simp; omega) | omega) ?_ _ | with_reducible refine bl_alloc ?_ _ | with_reducible refine bl_drewN ?_ _ | with_reducible refine bl_drew ?_ | with_reducible refine bl_grow ?_ _ _ | with_reducible refine bl_call ?_ (by assumption)))) w.heap.size (w.heap.size + 1) ⟨⟨?b1, ?b2⟩, ⟨?b3, ?b4⟩⟩).mono ?_)
  case b1 => simp [go_sem, fnNet]
  case b2 => simp; omega
  case b3 => simp [go_sem, fnArm]
  case b4 => simp
  rintro e w1 ⟨rfl, hb⟩
  go_wp2
  go_ret
  exact ⟨rfl, by (repeat (first | with_reducible exact Below.refl _ _ | with_reducible assumption | with_reducible refine bl_set (by first | exact Nat.le_refl _ | (simp; done) | (simp; omega) | omega) ?_ _ | with_reducible refine bl_alloc ?_ _ | with_reducible refine bl_drewN ?_ _ | with_reducible refine bl_drew ?_ | with_reducible refine bl_grow ?_ _ _ | with_reducible refine bl_call ?_ (by assumption)))⟩
end Go.Proofs.Ytpeojflemfppgaa
