/- D37, D38, D39, D40, D41, D41b, D41c: texts put together. -/
import Derived.Test.YtbfkfdbkjbgneaaGreatDoorHk
/- Lists of instructions that grow. -/
namespace Go.Proofs.YtbfkfdbkjbgneaaGreatDoor
open Go.RowKit Go.Sort Go.BigFrame
/-- A list that grows in memory of its own, beside a reader. -/
def ListSt (q : Nat) (w W : World) (g P : Nat) (v : Value) (n : Nat) : Prop := ∃ (l : List Stil.Inst) (xs : List Value), W.ownsRow w.heap.size 43 3 v l.length xs ∧ RowOf 3 (InstC (Off g v) W) xs l ∧ (∀ i ∈ l, ITame i ∧ i.one.args.length ≤ q) ∧ l.length ≤ n ∧ RdAt W g P ∧ w.grownBy W (some g)
/-- An instruction in a variable, apart from the row v. -/
def HeldI (W : World) (g : Nat) (v : Value) (b : Nat) (i : Stil.Inst) : Prop := Off g v b ∧ b < W.heap.size ∧ InstIn (Off g v) W b 0 i
theorem ListSt.grown {q : Nat} {w W W' : World} {g P P' n : Nat} {v : Value} (h : ListSt q w W g P v n) (hg : W.grownBy W' (some g)) (hw : g < w.heap.size) (hr : RdAt W' g P') : ListSt q w W' g P' v n := by
  obtain ⟨l, xs, a, b, c, d, e, f⟩ := h
  exact ⟨l, xs, own_grown a hg hw, b.imp fun _ _ _ h => h.keep (KeepsIn.of_grown hg fun b hb e => by have := hb.1; simp only [Option.some.injEq] at e; omega), c, d, hr, grown_trans f hg⟩
theorem ListSt.below {q : Nat} {w W W' : World} {g P n : Nat} {v : Value} (h : ListSt q w W g P v n) (hb : Below W.heap.size W W') (hw : g < w.heap.size) : ListSt q w W' g P v n := by
  obtain ⟨l, xs, a, b, c, d, e, f⟩ := id h
  exact h.grown (grown_below hb _) hw (rd_grown e (grown_below hb none) (by simp))
theorem ListSt.later {q : Nat} {w W : World} {g P P' n n' : Nat} {v : Value} (h : ListSt q w W g P v n) (h1 : P ≤ P') (h2 : n ≤ n') : ListSt q w W g P' v n' := by
  obtain ⟨l, xs, a, b, c, d, e, f⟩ := h
  exact ⟨l, xs, a, b, c, by omega, rd_mono e h1, f⟩
theorem ListSt.rd {q : Nat} {w W : World} {g P n : Nat} {v : Value} (h : ListSt q w W g P v n) : RdAt W g P := by
  obtain ⟨l, xs, a, b, c, d, e, f⟩ := h
  exact e
theorem ListSt.list {q : Nat} {w W : World} {g P n : Nat} {v : Value} (h : ListSt q w W g P v n) (hw : g < w.heap.size) : ListOut q (.returned v) w W g P n := by
  obtain ⟨l, xs, a, b, c, d, e, f⟩ := h
  exact ⟨l, v, rfl, instsIn_of_row a (b.imp fun _ _ _ h => h.mono fun b _ hb => hb.1) fun b hb => by have := (a.lt _ hb).1; omega, c, d, e, below_grown_at f (by omega)⟩
theorem HeldI.grown {W W' : World} {g b : Nat} {v : Value} {i : Stil.Inst} (h : HeldI W g v b i) (hg : W.grownBy W' (some g)) : HeldI W' g v b i := by
  obtain ⟨a, c, d⟩ := h
  exact ⟨a, Nat.lt_of_lt_of_le c hg.size, d.keep (KeepsIn.of_grown hg fun b hb e => by have := hb.1; simp only [Option.some.injEq] at e; omega) a c⟩
theorem HeldI.below {W W' : World} {g b : Nat} {v : Value} {i : Stil.Inst} (h : HeldI W g v b i) (hb : Below W.heap.size W W') : HeldI W' g v b i := h.grown (grown_below hb _)
theorem HeldI.cells {W : World} {g b : Nat} {v : Value} {i : Stil.Inst} (h : HeldI W g v b i) : b < W.heap.size ∧ ∃ (a : Option Addr) (c : Nat), W.cell? ⟨b, 0, none⟩ = some (.int .i64 i.code) ∧ W.cell? ⟨b, 1, none⟩ = some (.int .i64 i.one.op) ∧ W.cell? ⟨b, 2, none⟩ = some (.slice a i.one.args.length c) ∧ DevsIn (Off g v) W (.slice a i.one.args.length c) i.one.args := by
  obtain ⟨a, c, d, e, av, f, hd⟩ := h
  obtain ⟨a', c', rfl, -⟩ := id hd
  exact ⟨c, a', c', by simpa using d, by simpa using e, by simpa using f, hd⟩
set_option maxHeartbeats 1000000 in
theorem wpList_grow_insts {q : Nat} {ops : Array Oper} {rest : List Oper} {o : Oper} {a : Act} {Q : Exit → Act → World → Prop} (hgd : o.guard = none) (s x : Operand)
    (ho : o.op = .call { callee := .builtin .append, args := #[s, x], argTypes := #[23, 23] }) (w W : World) (g P n : Nat) (v : Value) (hs : a.eval s = v) (hst : ListSt q w W g P v n) (hgw : g < w.heap.size)
    (es : List Stil.Inst) (ad : Addr) (m c : Nat) (news : List Value) (hm : m = es.length) (hx : a.eval x = .slice (some ad) m c) (hrow : RowOf 3 (InstC (Off g v) W) news es) (hcl : ∀ j u, news[j]? = some u → W.cell? (ad.add j) = some u) (h1 : ∀ u ∈ news, u.oneCell' = true)
    (ht : ∀ i ∈ es, ITame i ∧ i.one.args.length ≤ q) (hn : n + es.length ≤ 1000000)
    (h : ∀ v' w', ListSt q w w' g P v' (n + es.length) → (∀ b i, HeldI W g v b i → HeldI w' g v' b i) → wpList Tryz.prog ops Q rest (a.put o.dst v') w') : wpList Tryz.prog ops Q (o :: rest) a W := by
  subst hm
  obtain ⟨i0, hi, hy0, hy1, hy2⟩ := info_parts info_inst
  obtain ⟨l, xs, hown, hr, htm, hln, hrd, hgr⟩ := hst
  refine wpList_append_own_at W hgd s x 23 ho w.heap.size 43 i0 (.agg #[.int .i64 0, .int .i64 0, .slice none 0 0]) 3 40 Tryz.underlying23 hi hy0 hy1 hy2 rfl (by decide) v l.length xs hs hown ad es.length c news hx hrow.1 hcl h1 (by unfold maxLen; omega) (by omega) hgr.size ?_
  intro v' w' hown' hgr' _ hat
  have hlo : ∀ k, v.ownBlock = some k → w.heap.size ≤ k := fun k hk => (hown.lt k hk).1
  have hk : ∀ cs e, InstC (Off g v) W cs e → InstC (Off g v') w' cs e := fun cs e h => by
    have h1 : InstC (fun b => Off g v b ∧ Off g v' b) W cs e := h.mono fun b hb hp => ⟨hp, off_mono hat b hb hp⟩
    exact (h1.keep (keep_mono (off_keep (B := g) hgr') fun b _ hp => hp.1)).mono fun b _ hp => hp.2
  refine h v' w' ⟨l ++ es, xs ++ news, by simpa using hown', (hr.append hrow).imp fun cs e _ => hk cs e, fun i hi => ?_, by simp; omega, rd_grown hrd hgr' (fun k hk => by have := hlo k hk; omega), ?_⟩ ?_
  · rcases List.mem_append.1 hi with h | h
    · exact htm i h
    · exact ht i h
  · exact gr_own hgr hgr' (fun k hk => hlo k hk)
  · rintro b i ⟨p1, p2, p3, p4, av, p5, p6⟩
    have hkb : KeepsIn (Off g v) W w' := off_keep hgr'
    have hd : DevsIn (Off g v') w' av i.one.args := by
      have h1 : DevsIn (fun b => Off g v b ∧ Off g v' b) W av i.one.args := p6.mono fun b hb hp => ⟨hp, off_mono hat b hb hp⟩
      exact (h1.keep (keep_mono hkb fun b _ hp => hp.1)).mono fun b _ hp => hp.2
    have e : w'.heap[b]? = W.heap[b]? := hgr'.block b p2 (fun e => p1.2 e.symm)
    have hc : ∀ o, w'.cell? ⟨b, o, none⟩ = W.cell? ⟨b, o, none⟩ := fun o => by unfold World.cell?; rw [e]
    exact ⟨off_mono hat b p2 p1, Nat.lt_of_lt_of_le p2 hgr'.size, (hc _).trans p3, (hc _).trans p4, av, (hc _).trans p5, hd⟩
end Go.Proofs.YtbfkfdbkjbgneaaGreatDoor
/- Contracts of the specification's draws: a list at its bounds. -/
namespace Go.Proofs.YtbfkfdbkjbgneaaGreatDoor
open Go.RowKit Go.Sort Go.BigFrame
theorem list_new {q : Nat} (w : World) {g P : Nat} (h : RdAt w g P) : ListSt q w (w.alloc (.cells #[] 43)) g P (.slice (some ⟨w.heap.size, 0, none⟩) 0 0) 0 := by
  have hown0 : (w.alloc (.cells #[] 43)).ownsRow w.heap.size 43 3 (.slice (some ⟨w.heap.size, 0, none⟩) 0 0) 0 [] := by
    have := World.ownsRow_lit (base := w.heap.size) (e := 43) (size := 3) w #[] 0 (by omega) (by unfold maxLen; omega) rfl
    simpa using this
  exact ⟨[], [], hown0, RowOf.nil _ _, fun _ h => (by cases h), by simp, rd_alloc h _, grown_below (below_alloc _ _) _⟩
theorem HeldI.new {W : World} {g : Nat} {v : Value} {i : Stil.Inst} {a : Option Addr} {c : Nat} (hd : DevsIn (Off g v) W (.slice a i.one.args.length c) i.one.args) (hg : g < W.heap.size) (hv : ∀ b, v.ownBlock = some b → b < W.heap.size) : HeldI (W.alloc (.cells #[.int .i64 i.code, .int .i64 i.one.op, .slice a i.one.args.length c] 43)) g v W.heap.size i := by
  refine ⟨⟨hg, fun e => by have := hv _ e; omega⟩, by simp, by simp [go_sem], by simp [go_sem], _, by simp [go_sem], hd.keep (KeepsIn.of_below (below_alloc _ _))⟩
theorem rows_two {R : List Value → Stil.Inst → Prop} {a b c d e f : Value} {x y : Stil.Inst} (h : R [a, b, c] x) (k : R [d, e, f] y) : RowOf 3 R [a, b, c, d, e, f] [x, y] := RowOf.append (xs := [a, b, c]) (us := [x]) (RowOf.one rfl h) (RowOf.one rfl k)
theorem tame_code {c : Int} (h : 1 ≤ c ∧ c ≤ 11) : ITame ⟨c, ⟨0, []⟩⟩ ∧ ([] : List Stil.Dev).length ≤ 3 := ⟨⟨by simp only; omega, by simp, fun _ h => (by cases h), by simp⟩, by simp⟩
set_option maxHeartbeats 4000000 in
set_option maxRecDepth 100000 in
theorem s_l6Deep (g P : Nat) (w : World) (hr : RdAt w g P) (hP : P ≤ 1000000) :
    Calls Tryz.prog 25 #[.pointer (some ⟨g, 0, none⟩)] w fun e w' => ListOut 3 e w w' g (P + 400) 60 := by
  have hg := rd_lt hr
  have hst0 := list_new (q := 3) w hr
  have HST0 : Hid (ListSt 3 w (w.alloc (.cells #[] 43)) g P (.slice (some ⟨w.heap.size, 0, none⟩) 0 0) 0) := hst0
  clear hst0 hr
  have hvb : ∀ W : World, w.heap.size < W.heap.size → ∀ b, (Value.slice (some ⟨w.heap.size, 0, none⟩) 0 0).ownBlock = some b → b < W.heap.size := fun W h b hb => by simp [Value.ownBlock] at hb; omega
  go_enter Tryz.func25, Tryz.ntmps25
  go_upto_region 2 with fail
  go_cut [4] (fun s4 wc => ∃ (b : Nat) (i : Stil.Inst), s4 = .pointer (some ⟨b, 0, none⟩) ∧ ListSt 3 w wc g (P + 20) (.slice (some ⟨w.heap.size, 0, none⟩) 0 0) 0 ∧ HeldI wc g (.slice (some ⟨w.heap.size, 0, none⟩) 0 0) b i ∧ (ITame i ∧ i.one.args.length ≤ 3) ∧ w.heap.size < wc.heap.size)
  case first =>
    go_wp2_with (go_at_call 36; refine (s_l2Contact g _ _ HST0.out.rd (by omega)).mono ?_; rintro e w1 ⟨op, av, ds, rfl, hop, hav, hsd, hdl, hrd1, hgr1⟩; have HL1 : Hid (ListSt 3 w w1 g (P + 20) (.slice (some ⟨w.heap.size, 0, none⟩) 0 0) 0) := HST0.out.grown hgr1 hg hrd1; have hs1 : w.heap.size < w1.heap.size := (by have := hgr1.size; simp at this; omega); have HAV : Hid (DevsIn (Off g (.slice (some ⟨w.heap.size, 0, none⟩) 0 0)) w1 av ds) := (devs_of_el hav).mono (fun b _ hb => (by simp at hb; exact ⟨by omega, by simp [Value.ownBlock]; omega⟩)); obtain ⟨b1, c1, rfl, -⟩ := id hav)
    go_meet
    exact ⟨_, ⟨1, ⟨op, ds⟩⟩, rfl, HL1.out.below (below_alloc _ _) hg, HeldI.new (i := ⟨1, ⟨op, ds⟩⟩) HAV.out (by omega) (hvb _ hs1), ⟨⟨by simp only; omega, hop, hsd, by simp only; omega⟩, hdl⟩, by simp; omega⟩
  case rest =>
    obtain ⟨bl, il, rfl, hst, hhl, htl, hzw⟩ := hcut
    have HST1 : Hid (ListSt 3 w wc g (P + 20) (.slice (some ⟨w.heap.size, 0, none⟩) 0 0) 0) := hst
    have HHL : Hid (HeldI wc g (.slice (some ⟨w.heap.size, 0, none⟩) 0 0) bl il) := hhl
    have HTL : Hid (ITame il ∧ il.one.args.length ≤ 3) := htl
    clear hst hhl htl HST0
    go_upto_region 3 with fail
    go_cut [5] (fun s5 wd => ∃ (b : Nat) (i : Stil.Inst), s5 = .pointer (some ⟨b, 0, none⟩) ∧ ListSt 3 w wd g (P + 60) (.slice (some ⟨w.heap.size, 0, none⟩) 0 0) 0 ∧ HeldI wd g (.slice (some ⟨w.heap.size, 0, none⟩) 0 0) bl il ∧ HeldI wd g (.slice (some ⟨w.heap.size, 0, none⟩) 0 0) b i ∧ (ITame i ∧ i.one.args.length ≤ 3))
    case first =>
      go_wp2_with (go_at_call 37; refine (s_l2Coil g _ _ HST1.out.rd (by omega)).mono ?_; rintro e w1 ⟨op, av, ds, rfl, hop, hav, hsd, hdl, hrd1, hgr1⟩; have HL1 : Hid (ListSt 3 w w1 g (P + 60) (.slice (some ⟨w.heap.size, 0, none⟩) 0 0) 0) := HST1.out.grown hgr1 hg (rd_mono hrd1 (by omega)); have HH1 : Hid (HeldI w1 g (.slice (some ⟨w.heap.size, 0, none⟩) 0 0) bl il) := HHL.out.grown hgr1; have hs1 : w.heap.size < w1.heap.size := (by have := hgr1.size; omega); have HAV : Hid (DevsIn (Off g (.slice (some ⟨w.heap.size, 0, none⟩) 0 0)) w1 av ds) := (devs_of_el hav).mono (fun b _ hb => (by exact ⟨by omega, by simp [Value.ownBlock]; omega⟩)); obtain ⟨b1, c1, rfl, -⟩ := id hav)
      go_meet
      exact ⟨_, ⟨10, ⟨op, ds⟩⟩, rfl, HL1.out.below (below_alloc _ _) hg, HH1.out.below (below_alloc _ _), HeldI.new (i := ⟨10, ⟨op, ds⟩⟩) HAV.out (by omega) (hvb _ hs1), ⟨⟨by simp only; omega, hop, hsd, by simp only; omega⟩, hdl⟩⟩
    case rest =>
      obtain ⟨bc, ic, rfl, hst, hhl, hhc, htc⟩ := hcut
      have HST2 : Hid (ListSt 3 w wc g (P + 60) (.slice (some ⟨w.heap.size, 0, none⟩) 0 0) 0) := hst
      have HHL2 : Hid (HeldI wc g (.slice (some ⟨w.heap.size, 0, none⟩) 0 0) bl il) := hhl
      have HHC2 : Hid (HeldI wc g (.slice (some ⟨w.heap.size, 0, none⟩) 0 0) bc ic) := hhc
      have HTC : Hid (ITame ic ∧ ic.one.args.length ≤ 3) := htc
      have hgd := rd_lt hst.rd
      clear hst hhl hhc htc HST1 HHL
      go_upto_if 23 with (first | (go_at_call 38; refine (s_num g _ _ _ [15, 16, 17] _ (HST2.out.below (below_alloc _ _) hg).rd (by omega) (ints_of_from (by simp [IntsFrom, go_sem])) (by simp) (by first | (simp; omega) | omega) (by simp) (by simp)).mono ?_; rintro e w2 ⟨x, rfl, hx, hrd2, hgr2⟩; have HST3 : Hid (ListSt 3 w w2 g (P + 70) (.slice (some ⟨w.heap.size, 0, none⟩) 0 0) 0) := (HST2.out.below (below_alloc _ _) hg).grown hgr2 hg (rd_mono hrd2 (by omega)); have HHL3 : Hid (HeldI w2 g (.slice (some ⟨w.heap.size, 0, none⟩) 0 0) bl il) := (HHL2.out.below (below_alloc _ _)).grown hgr2; have HHC3 : Hid (HeldI w2 g (.slice (some ⟨w.heap.size, 0, none⟩) 0 0) bc ic) := (HHC2.out.below (below_alloc _ _)).grown hgr2) | (go_at_call 24; refine (s_pick g _ _ _ HST3.out.rd (by omega) (by omega) (by omega)).mono ?_; rintro e w3 ⟨y, rfl, hy0, hy1, hrd3, hgr3⟩; have HST4 : Hid (ListSt 3 w w3 g (P + 80) (.slice (some ⟨w.heap.size, 0, none⟩) 0 0) 0) := HST3.out.grown hgr3 hg (rd_mono hrd3 (by omega)); have HHL4 : Hid (HeldI w3 g (.slice (some ⟨w.heap.size, 0, none⟩) 0 0) bl il) := HHL3.out.grown hgr3; have HHC4 : Hid (HeldI w3 g (.slice (some ⟨w.heap.size, 0, none⟩) 0 0) bc ic) := HHC3.out.grown hgr3))
      simp only [List.mem_cons, List.not_mem_nil, or_false] at hx
      obtain ⟨N, rfl⟩ : ∃ N : Nat, x = N := ⟨x.toNat, by omega⟩
      clear HST2 HHL2 HHC2 HST3 HHL3 HHC3 hrd2 hgr2 hrd3 hgr3
      by_cases hy : y = 0
      · subst hy
        go_wp2
        go_loopw [3, 7] (fun o i wr => ∃ j : Nat, j ≤ N ∧ i = .int .i64 (j : Int) ∧ ListSt 3 w wr g (P + 80) o j ∧ HeldI wr g o bl il ∧ HeldI wr g o bc ic) (fun _ i _ => N - (intOf i).toNat)
        case atStart => exact ⟨0, by omega, rfl, HST4.out, HHL4.out, HHC4.out⟩
        case round =>
          clear HST4 HHL4 HHC4
          obtain ⟨j, hj, rfl, hst, hhl, hhc⟩ := hrel
          have HSJ : Hid (ListSt 3 w wr g (P + 80) _ j) := hst
          have HHL : Hid (HeldI wr g _ bl il) := hhl
          have HHC : Hid (HeldI wr g _ bc ic) := hhc
          clear hst hhl hhc
          by_cases hlt : j < N
          · obtain ⟨hzl, al, cl, l0, l1, l2, hdl⟩ := HHL.out.cells
            go_wp2_with (at_builtin; refine wpList_grow_insts rfl _ _ rfl w _ g _ _ u3 rfl (HSJ.out.below (below_alloc _ _) hg) hg [il] _ _ _ [Value.int .i64 il.code, .int .i64 il.one.op, .slice al il.one.args.length cl] rfl rfl (RowOf.one rfl ⟨_, rfl, hdl.keep (KeepsIn.of_below (below_alloc _ _))⟩) (by exact cells_new _ _ _ _ (by simp)) (by intro u hu; simp at hu; rcases hu with rfl | rfl | rfl <;> rfl) (by intro i hi; rw [List.mem_singleton.1 hi]; exact HTL.out) (by simp; omega) ?_; intro v6 w6 hst6 hheld6)
            go_roundw
            case rel => exact ⟨j + 1, by omega, by simp, hst6, hheld6 _ _ (HHL.out.below (below_alloc _ _)), hheld6 _ _ (HHC.out.below (below_alloc _ _))⟩
            case measure => simp [intOf]; omega
          · obtain rfl : j = N := by omega
            go_wp2
            go_loopw [3, 8] (fun o i wr => ∃ q : Nat, 1 ≤ q ∧ q ≤ j ∧ i = .int .i64 (q : Int) ∧ ListSt 3 w wr g (P + 80 + 2 * q) o (j + q) ∧ HeldI wr g o bc ic) (fun _ i _ => j - (intOf i).toNat)
            case atStart => exact ⟨1, by omega, by omega, rfl, HSJ.out.later (by omega) (by omega), HHC.out⟩
            case round =>
              clear HSJ HHL HHC
              obtain ⟨q, hq1, hq, rfl, hst, hhc⟩ := hrel
              have HSJ : Hid (ListSt 3 w wr g (P + 80 + 2 * q) _ (j + q)) := hst
              have HHC : Hid (HeldI wr g _ bc ic) := hhc
              clear hst hhc
              by_cases hlt : q < j
              · go_wp2_with (first | (go_at_call 24; refine (s_pick g _ _ _ HSJ.out.rd (by omega) (by omega) (by omega)).mono ?_; rintro e w5 ⟨z, rfl, hz0, hz1, hrd5, hgr5⟩; have HS5 : Hid (ListSt 3 w w5 g (P + 80 + 2 * q + 1) _ (j + q)) := HSJ.out.grown hgr5 hg (rd_mono hrd5 (by omega)); have HH5 : Hid (HeldI w5 g _ bc ic) := HHC.out.grown hgr5; have hwz : IntKind.i64.wrap (4 + z) = 4 + z := (by rw [IntKind.wrap_i64]; omega)) | (at_builtin; refine wpList_grow_insts rfl _ _ rfl w _ g _ _ u3 rfl (HS5.out.below (below_alloc _ _) hg) hg [⟨4 + z, ⟨0, []⟩⟩] _ _ _ [Value.int .i64 (4 + z), .int .i64 0, .slice none 0 0] rfl rfl (RowOf.one rfl ⟨_, rfl, devs_nil _ _⟩) (by exact cells_new _ _ _ _ (by simp)) (by intro u hu; simp at hu; rcases hu with rfl | rfl | rfl <;> rfl) (by intro i hi; rw [List.mem_singleton.1 hi]; exact tame_code (by omega)) (by simp; omega) ?_; intro v6 w6 hst6 hheld6))
                go_roundw
                case rel => exact ⟨q + 1, by omega, by omega, by simp, hst6.later (by omega) (by simp; omega), hheld6 _ _ (HH5.out.below (below_alloc _ _))⟩
                case measure => simp [intOf]; omega
              · obtain rfl : q = j := by omega
                obtain ⟨hzc, ac, cc, c0, c1, c2, hdc⟩ := HHC.out.cells
                go_wp2_with (at_builtin; refine wpList_grow_insts rfl _ _ rfl w _ g _ _ u3 rfl (HSJ.out.below (below_alloc _ _) hg) hg [ic, ⟨11, ⟨0, []⟩⟩] _ _ _ [Value.int .i64 ic.code, .int .i64 ic.one.op, .slice ac ic.one.args.length cc, Value.int .i64 11, .int .i64 0, .slice none 0 0] rfl rfl (rows_two ⟨_, rfl, hdc.keep (KeepsIn.of_below (below_alloc _ _))⟩ ⟨_, rfl, devs_nil _ _⟩) (by exact cells_new _ _ _ _ (by simp)) (by intro u hu; simp at hu; rcases hu with rfl | rfl | rfl | rfl | rfl | rfl <;> rfl) (by intro i hi; rcases List.mem_cons.1 hi with h | h; (rw [h]; exact HTC.out); (rw [List.mem_singleton.1 h]; exact tame_code (by omega))) (by simp; omega) ?_; intro v6 w6 hst6 hheld6)
                go_ret
                exact (hst6.later (by omega) (by simp; omega)).list hg
      · go_upto_region 16 with (go_at_call 38; refine (s_num g _ _ _ [7, 8, 9] _ (HST4.out.below (below_alloc _ _) hg).rd (by omega) (ints_of_from (by simp [IntsFrom, go_sem])) (by simp) (by have := rd_lt HST4.out.rd; first | (simp; omega) | omega) (by simp) (by simp)).mono ?_; rintro e w4 ⟨x2, rfl, hx2, hrd4, hgr4⟩; have HST5 : Hid (ListSt 3 w w4 g (P + 90) (.slice (some ⟨w.heap.size, 0, none⟩) 0 0) 0) := (HST4.out.below (below_alloc _ _) hg).grown hgr4 hg (rd_mono hrd4 (by omega)); have HHL5 : Hid (HeldI w4 g (.slice (some ⟨w.heap.size, 0, none⟩) 0 0) bl il) := (HHL4.out.below (below_alloc _ _)).grown hgr4; have HHC5 : Hid (HeldI w4 g (.slice (some ⟨w.heap.size, 0, none⟩) 0 0) bc ic) := (HHC4.out.below (below_alloc _ _)).grown hgr4)
        simp only [List.mem_cons, List.not_mem_nil, or_false] at hx2
        obtain ⟨M, rfl⟩ : ∃ M : Nat, x2 = M := ⟨x2.toNat, by omega⟩
        clear HST4 HHL4 HHC4 hrd4 hgr4
        obtain ⟨hzl, al, cl, l0, l1, l2, hdl⟩ := HHL5.out.cells
        go_wp2_with (at_builtin; refine wpList_grow_insts rfl _ _ rfl w _ g _ _ (.slice (some ⟨w.heap.size, 0, none⟩) 0 0) rfl (HST5.out.below (below_alloc _ _) hg) hg [il] _ _ _ [Value.int .i64 il.code, .int .i64 il.one.op, .slice al il.one.args.length cl] rfl rfl (RowOf.one rfl ⟨_, rfl, hdl.keep (KeepsIn.of_below (below_alloc _ _))⟩) (by exact cells_new _ _ _ _ (by simp)) (by intro u hu; simp at hu; rcases hu with rfl | rfl | rfl <;> rfl) (by intro i hi; rw [List.mem_singleton.1 hi]; exact HTL.out) (by simp) ?_; intro v6 w6 hst6 hheld6)
        have hhc6 := hheld6 _ _ (HHC5.out.below (below_alloc _ _))
        go_loopw [3, 9] (fun o i wr => ∃ j : Nat, j ≤ M ∧ i = .int .i64 (j : Int) ∧ ListSt 3 w wr g (P + 90) o (1 + j) ∧ HeldI wr g o bc ic) (fun _ i _ => M - (intOf i).toNat)
        case atStart => exact ⟨0, by omega, rfl, hst6.later (by omega) (by simp), hhc6⟩
        case round =>
          clear HST5 HHL5 HHC5 hst6 hhc6 hheld6 l0 l1 l2 hdl
          obtain ⟨j, hj, rfl, hst, hhc⟩ := hrel
          have HSJ : Hid (ListSt 3 w wr g (P + 90) _ (1 + j)) := hst
          have HHC : Hid (HeldI wr g _ bc ic) := hhc
          clear hst hhc
          by_cases hlt : j < M
          · go_wp2_with (at_builtin; refine wpList_grow_insts rfl _ _ rfl w _ g _ _ u3 rfl (HSJ.out.below (below_alloc _ _) hg) hg [⟨7, ⟨0, []⟩⟩] _ _ _ [Value.int .i64 7, .int .i64 0, .slice none 0 0] rfl rfl (RowOf.one rfl ⟨_, rfl, devs_nil _ _⟩) (by exact cells_new _ _ _ _ (by simp)) (by intro u hu; simp at hu; rcases hu with rfl | rfl | rfl <;> rfl) (by intro i hi; rw [List.mem_singleton.1 hi]; exact tame_code (by omega)) (by simp; omega) ?_; intro v6 w6 hst6 hheld6)
            go_roundw
            case rel => exact ⟨j + 1, by omega, by simp, hst6.later (by omega) (by simp; omega), hheld6 _ _ (HHC.out.below (below_alloc _ _))⟩
            case measure => simp [intOf]; omega
          · obtain rfl : j = M := by omega
            go_wp2
            go_loopw [3, 10] (fun o i wr => ∃ q : Nat, q ≤ j ∧ i = .int .i64 (q : Int) ∧ ListSt 3 w wr g (P + 90) o (1 + j + 2 * q) ∧ HeldI wr g o bc ic) (fun _ i _ => j - (intOf i).toNat)
            case atStart => exact ⟨0, by omega, rfl, HSJ.out.later (by omega) (by omega), HHC.out⟩
            case round =>
              clear HSJ HHC
              obtain ⟨q, hq, rfl, hst, hhc⟩ := hrel
              have HSJ : Hid (ListSt 3 w wr g (P + 90) _ (1 + j + 2 * q)) := hst
              have HHC : Hid (HeldI wr g _ bc ic) := hhc
              clear hst hhc
              by_cases hlt : q < j
              · obtain ⟨hzc, ac, cc, c0, c1, c2, hdc⟩ := HHC.out.cells
                go_wp2_with (at_builtin; refine wpList_grow_insts rfl _ _ rfl w _ g _ _ u3 rfl (HSJ.out.below (below_alloc _ _) hg) hg [ic, ⟨9, ⟨0, []⟩⟩] _ _ _ [Value.int .i64 ic.code, .int .i64 ic.one.op, .slice ac ic.one.args.length cc, Value.int .i64 9, .int .i64 0, .slice none 0 0] rfl rfl (rows_two ⟨_, rfl, hdc.keep (KeepsIn.of_below (below_alloc _ _))⟩ ⟨_, rfl, devs_nil _ _⟩) (by exact cells_new _ _ _ _ (by simp)) (by intro u hu; simp at hu; rcases hu with rfl | rfl | rfl | rfl | rfl | rfl <;> rfl) (by intro i hi; rcases List.mem_cons.1 hi with h | h; (rw [h]; exact HTC.out); (rw [List.mem_singleton.1 h]; exact tame_code (by omega))) (by simp; omega) ?_; intro v6 w6 hst6 hheld6)
                go_roundw
                case rel => exact ⟨q + 1, by omega, by simp, hst6.later (by omega) (by simp; omega), hheld6 _ _ (HHC.out.below (below_alloc _ _))⟩
                case measure => simp [intOf]; omega
              · obtain rfl : q = j := by omega
                obtain ⟨hzc, ac, cc, c0, c1, c2, hdc⟩ := HHC.out.cells
                go_wp2_with (at_builtin; refine wpList_grow_insts rfl _ _ rfl w _ g _ _ u3 rfl (HSJ.out.below (below_alloc _ _) hg) hg [ic, ⟨11, ⟨0, []⟩⟩] _ _ _ [Value.int .i64 ic.code, .int .i64 ic.one.op, .slice ac ic.one.args.length cc, Value.int .i64 11, .int .i64 0, .slice none 0 0] rfl rfl (rows_two ⟨_, rfl, hdc.keep (KeepsIn.of_below (below_alloc _ _))⟩ ⟨_, rfl, devs_nil _ _⟩) (by exact cells_new _ _ _ _ (by simp)) (by intro u hu; simp at hu; rcases hu with rfl | rfl | rfl | rfl | rfl | rfl <;> rfl) (by intro i hi; rcases List.mem_cons.1 hi with h | h; (rw [h]; exact HTC.out); (rw [List.mem_singleton.1 h]; exact tame_code (by omega))) (by simp; omega) ?_; intro v6 w6 hst6 hheld6)
                go_ret
                exact (hst6.later (by omega) (by simp; omega)).list hg
end Go.Proofs.YtbfkfdbkjbgneaaGreatDoor
/- Lists of instructions that grow: one of them read, one written anew. -/
namespace Go.Proofs.YtbfkfdbkjbgneaaGreatDoor
open Go.RowKit Go.Sort Go.BigFrame
theorem ListSt.long {q : Nat} {w W : World} {g P n m cap : Nat} {a : Option Addr} (h : ListSt q w W g P (.slice a m cap) n) : m ≤ n := by
  obtain ⟨l, xs, hown, -, -, hln, -⟩ := h
  obtain ⟨a', c', hv, -⟩ := own_open hown
  injection hv with h1 h2 h3
  omega
theorem ListSt.open {q : Nat} {w W : World} {g P n : Nat} {v : Value} (h : ListSt q w W g P v n) : ∃ (a : Option Addr) (m cap : Nat), v = .slice a m cap ∧ (0 < m → ∃ b, a = some ⟨b, 0, none⟩) := by
  obtain ⟨l, xs, hown, -⟩ := h
  obtain ⟨a', c', hv, -, hz, hn⟩ := own_open hown
  refine ⟨a', _, c', hv, fun hm => ?_⟩
  cases a' with
  | none => exact absurd rfl (hn hm)
  | some ad =>
    obtain ⟨b, o, sp⟩ := ad
    obtain ⟨rfl, rfl, -⟩ := hz _ _ _ rfl
    exact ⟨b, rfl⟩
theorem ListSt.at {q : Nat} {w W : World} {g P n b m cap k : Nat} (h : ListSt q w W g P (.slice (some ⟨b, 0, none⟩) m cap) n) (hk : k < m) : ∃ (e : Stil.Inst) (a : Option Addr) (c : Nat), (W.cell? ⟨b, k * 3, none⟩ = some (.int .i64 e.code) ∧ W.cell? ⟨b, k * 3 + 1, none⟩ = some (.int .i64 e.one.op) ∧ W.cell? ⟨b, k * 3 + 2, none⟩ = some (.slice a e.one.args.length c)) ∧ (W.frozen? ⟨b, k * 3, none⟩ = false ∧ W.frozen? ⟨b, k * 3 + 1, none⟩ = false ∧ W.frozen? ⟨b, k * 3 + 2, none⟩ = false) ∧ DevsIn (Off g (.slice (some ⟨b, 0, none⟩) m cap)) W (.slice a e.one.args.length c) e.one.args ∧ (ITame e ∧ e.one.args.length ≤ q) ∧ b < W.heap.size ∧ w.heap.size ≤ b := by
  obtain ⟨l, xs, hown, hr, htm, hln, hrd, hgr⟩ := h
  obtain rfl : m = l.length := by
    obtain ⟨a', c', hv, -⟩ := own_open hown
    injection hv with h1 h2 h3
  obtain ⟨gb, c, hv, hb0, hb1, hb2, hc⟩ := ownsRow_cells hown (by omega)
  simp only [Value.slice.injEq, Option.some.injEq, Addr.mk.injEq] at hv
  obtain ⟨⟨rfl, _⟩, _⟩ := hv
  obtain ⟨av, he, hd⟩ := hr.2 k hk
  obtain ⟨a', c', rfl, -⟩ := id hd
  have hx := row_at hr hk he
  exact ⟨l[k], a', c', ⟨hc _ _ (hx 0 _ rfl), hc _ _ (hx 1 _ rfl), hc _ _ (hx 2 _ rfl)⟩, ⟨hown.frozenAt _, hown.frozenAt _, hown.frozenAt _⟩, hd, htm _ (List.getElem_mem hk), (hown.lt _ rfl).2, (hown.lt _ rfl).1⟩
theorem triple_set {xs : List Value} {k : Nat} (c0 c1 c2 : Value) (h : k * 3 + 3 ≤ xs.length) : (((((xs.set (k * 3) c0).set (k * 3 + 1) c1).set (k * 3 + 2) c2).drop (k * 3)).take 3 = [c0, c1, c2]) ∧ ∀ j, j < k * 3 ∨ k * 3 + 3 ≤ j → (((xs.set (k * 3) c0).set (k * 3 + 1) c1).set (k * 3 + 2) c2)[j]? = xs[j]? := by
  constructor
  · apply List.ext_getElem?
    intro j
    rw [List.getElem?_take]
    by_cases hj : j < 3
    · rw [if_pos hj, List.getElem?_drop]
      have : j = 0 ∨ j = 1 ∨ j = 2 := by omega
      rcases this with rfl | rfl | rfl
      · rw [List.getElem?_set_ne (by omega), List.getElem?_set_ne (by omega), Nat.add_zero, List.getElem?_set_self (by omega)]; rfl
      · rw [List.getElem?_set_ne (by omega), List.getElem?_set_self (by simp; omega)]; rfl
      · rw [List.getElem?_set_self (by simp; omega)]; rfl
    · rw [if_neg hj, List.getElem?_eq_none (by simp; omega)]
  · intro j hj
    rw [List.getElem?_set_ne (by omega), List.getElem?_set_ne (by omega), List.getElem?_set_ne (by omega)]
/-- One instruction of the list, written anew. -/
theorem ListSt.store {q : Nat} {w W : World} {g P n b m cap k : Nat} {e : Stil.Inst} {av : Value} (h : ListSt q w W g P (.slice (some ⟨b, 0, none⟩) m cap) n) (hw : g < w.heap.size) (hk : k < m) (hd : DevsIn (Off g (.slice (some ⟨b, 0, none⟩) m cap)) W av e.one.args) (ht : ITame e ∧ e.one.args.length ≤ q) : ListSt q w (((W.setCell ⟨b, k * 3, none⟩ (.int .i64 e.code)).setCell ⟨b, k * 3 + 1, none⟩ (.int .i64 e.one.op)).setCell ⟨b, k * 3 + 2, none⟩ av) g P (.slice (some ⟨b, 0, none⟩) m cap) n := by
  obtain ⟨l, xs, hown, hr, htm, hln, hrd, hgr⟩ := h
  obtain rfl : m = l.length := by
    obtain ⟨a', c', hv, -⟩ := own_open hown
    injection hv with h1 h2 h3
  have hlo : w.heap.size ≤ b := (hown.lt b rfl).1
  have s1 := hown.stored (k * 3) (.int .i64 e.code)
  have s2 := s1.1.stored (k * 3 + 1) (.int .i64 e.one.op)
  have s3 := s2.1.stored (k * 3 + 2) av
  have hkp : KeepsIn (Off g (.slice (some ⟨b, 0, none⟩) l.length cap)) W (((W.setCell ⟨b, k * 3, none⟩ (.int .i64 e.code)).setCell ⟨b, k * 3 + 1, none⟩ (.int .i64 e.one.op)).setCell ⟨b, k * 3 + 2, none⟩ av) := ((KeepsIn.set (fun h => h.2 rfl) _).trans (KeepsIn.set (fun h => h.2 rfl) _)).trans (KeepsIn.set (fun h => h.2 rfl) _)
  have hl : xs.length = l.length * 3 := hr.1
  obtain ⟨t1, t2⟩ := triple_set (xs := xs) (k := k) (.int .i64 e.code) (.int .i64 e.one.op) av (by omega)
  refine ⟨l.set k e, _, by simpa using s3.1, RowOf.set (hr.imp fun _ _ _ h => h.keep hkp) hk (by simp) ⟨av, t1, hd.keep hkp⟩ t2, fun i hi => ?_, by simpa using hln, rd_set (rd_set (rd_set hrd (by omega) _) (by omega) _) (by omega) _, gr_own (gr_own (gr_own hgr s1.2 ?_) s2.2 ?_) s3.2 ?_⟩
  · rcases List.mem_or_eq_of_mem_set hi with h1 | rfl
    · exact htm i h1
    · exact ht
  all_goals
    intro j hj
    simp only [Option.some.injEq] at hj
    omega
end Go.Proofs.YtbfkfdbkjbgneaaGreatDoor
/- Lists of instructions that grow: cut, and put onto a cut one. -/
namespace Go.Proofs.YtbfkfdbkjbgneaaGreatDoor
open Go.RowKit Go.Sort Go.BigFrame
theorem own_take {w : World} {base : Nat} {e : TypeId} {size b n cap k : Nat} {xs : List Value} (h : w.ownsRow base e size (.slice (some ⟨b, 0, none⟩) n cap) n xs) (hk : k ≤ n) : w.ownsRow base e size (.slice (some ⟨b, 0, none⟩) k cap) k (xs.take (k * size)) := by
  have hm : k * size ≤ n * size := Nat.mul_le_mul_right _ hk
  rcases h.2 with ⟨h0, -⟩ | ⟨g', cap', cur, hv, hb, hh, hc, hcm, hcs, ht⟩
  · simp at h0
  · simp only [Value.slice.injEq, Option.some.injEq, Addr.mk.injEq, and_true, true_and] at hv
    obtain ⟨rfl, rfl⟩ := hv
    refine ⟨by rw [List.length_take, h.1]; omega, .inr ⟨b, cap, cur, rfl, hb, hh, by omega, hcm, hcs, ?_⟩⟩
    rw [← ht, List.take_take]
    congr 1
    omega
theorem RowOf.take {α : Type} {s : Nat} {R : List Value → α → Prop} {xs : List Value} {us : List α} (h : RowOf s R xs us) (k : Nat) (hk : k ≤ us.length) : RowOf s R (xs.take (k * s)) (us.take k) := by
  have hm : k * s ≤ us.length * s := Nat.mul_le_mul_right _ hk
  refine ⟨by rw [List.length_take, List.length_take, h.1, Nat.min_eq_left hm, Nat.min_eq_left hk], fun i hi => ?_⟩
  rw [List.length_take, Nat.min_eq_left hk] at hi
  have := h.2 i (by omega)
  rw [List.getElem_take, List.drop_take, List.take_take]
  have hs : s ≤ k * s - i * s := by rw [← Nat.sub_mul]; exact Nat.le_mul_of_pos_left _ (by omega)
  rw [Nat.min_eq_left hs]
  exact this
theorem RowOf.drop {α : Type} {s : Nat} {R : List Value → α → Prop} {xs : List Value} {us : List α} (h : RowOf s R xs us) (k : Nat) : RowOf s R (xs.drop (k * s)) (us.drop k) := by
  refine ⟨by rw [List.length_drop, List.length_drop, h.1, Nat.sub_mul], fun i hi => ?_⟩
  rw [List.length_drop] at hi
  have := h.2 (k + i) (by omega)
  rw [List.getElem_drop, List.drop_drop, ← Nat.add_mul]
  exact this
theorem ListSt.cut {q : Nat} {w W : World} {g P n b m cap k : Nat} (h : ListSt q w W g P (.slice (some ⟨b, 0, none⟩) m cap) n) (hk : k ≤ m) : ListSt q w W g P (.slice (some ⟨b, 0, none⟩) k cap) k := by
  obtain ⟨l, xs, hown, hr, htm, hln, hrd, hgr⟩ := h
  obtain rfl : m = l.length := by
    obtain ⟨a', c', hv, -⟩ := own_open hown
    injection hv with h1 h2 h3
  have hl : (l.take k).length = k := by rw [List.length_take]; omega
  refine ⟨l.take k, xs.take (k * 3), by rw [hl]; exact own_take hown hk, (hr.imp fun _ _ _ h => h.mono fun b _ hb => ⟨hb.1, hb.2⟩).take k hk, fun i hi => htm i (List.mem_of_mem_take hi), by omega, hrd, hgr⟩
/-- What lies behind a place of the list, as it is put onto another. -/
theorem ListSt.behind {q : Nat} {w W : World} {g P n b m cap k : Nat} (h : ListSt q w W g P (.slice (some ⟨b, 0, none⟩) m cap) n) (hk : k ≤ m) : ∃ (es : List Stil.Inst) (news : List Value), es.length = m - k ∧ RowOf 3 (InstC (Off g (.slice (some ⟨b, 0, none⟩) m cap)) W) news es ∧ (∀ j u, news[j]? = some u → W.cell? ((⟨b, k * 3, none⟩ : Addr).add j) = some u) ∧ (∀ u ∈ news, u.oneCell' = true) ∧ ∀ i ∈ es, ITame i ∧ i.one.args.length ≤ q := by
  obtain ⟨l, xs, hown, hr, htm, hln, hrd, hgr⟩ := h
  obtain rfl : m = l.length := by
    obtain ⟨a', c', hv, -⟩ := own_open hown
    injection hv with h1 h2 h3
  refine ⟨l.drop k, xs.drop (k * 3), by rw [List.length_drop], hr.drop k, fun j u hj => ?_, fun u hu => ?_, fun i hi => htm i (List.mem_of_mem_drop hi)⟩
  · rw [List.getElem?_drop] at hj
    have hlt : k * 3 + j < xs.length := (List.getElem?_eq_some_iff.1 hj).1
    have := hown.cellAt (k * 3 + j) (by rw [← hown.1]; exact hlt)
    by_cases h0 : j = 0
    · subst h0
      simpa [Addr.add] using this.trans hj
    · simpa [Addr.add, h0] using this.trans hj
  · have hx := List.mem_of_mem_drop hu
    obtain ⟨j, hj, rfl⟩ := List.getElem_of_mem hx
    have hl : xs.length = l.length * 3 := hr.1
    obtain ⟨av, he, hd⟩ := hr.2 (j / 3) (by omega)
    obtain ⟨a', c', rfl, -⟩ := id hd
    have hx := row_at hr (by omega) he
    have h3 : j % 3 = 0 ∨ j % 3 = 1 ∨ j % 3 = 2 := by omega
    have hj3 : j / 3 * 3 + j % 3 = j := by omega
    have e : xs[j]? = some xs[j] := List.getElem?_eq_getElem hj
    rcases h3 with h | h | h
    · have := hx 0 _ rfl
      rw [show j / 3 * 3 + 0 = j by omega, e] at this
      rw [Option.some.inj this]; rfl
    · have := hx 1 _ rfl
      rw [show j / 3 * 3 + 1 = j by omega, e] at this
      rw [Option.some.inj this]; rfl
    · have := hx 2 _ rfl
      rw [show j / 3 * 3 + 2 = j by omega, e] at this
      rw [Option.some.inj this]; rfl
end Go.Proofs.YtbfkfdbkjbgneaaGreatDoor
/- Lists of instructions that grow: a part of one written anew; a copy; growth in a region that draws. -/
namespace Go.Proofs.YtbfkfdbkjbgneaaGreatDoor
open Go.RowKit Go.Sort Go.BigFrame
/-- The Code of one instruction of the list, written anew. -/
theorem ListSt.code {q : Nat} {w W : World} {g P n b m cap k : Nat} {c : Int} (h : ListSt q w W g P (.slice (some ⟨b, 0, none⟩) m cap) n) (hw : g < w.heap.size) (hk : k < m) (hc : -1000000 ≤ c ∧ c ≤ 1000000) : ListSt q w (W.setCell ⟨b, k * 3, none⟩ (.int .i64 c)) g P (.slice (some ⟨b, 0, none⟩) m cap) n := by
  obtain ⟨l, xs, hown, hr, htm, hln, hrd, hgr⟩ := h
  obtain rfl : m = l.length := by
    obtain ⟨a', c', hv, -⟩ := own_open hown
    injection hv with h1 h2 h3
  have hlo : w.heap.size ≤ b := (hown.lt b rfl).1
  have s1 := hown.stored (k * 3) (.int .i64 c)
  have hkp : KeepsIn (Off g (.slice (some ⟨b, 0, none⟩) l.length cap)) W (W.setCell ⟨b, k * 3, none⟩ (.int .i64 c)) := KeepsIn.set (fun h => h.2 rfl) _
  have hl : xs.length = l.length * 3 := hr.1
  obtain ⟨av, he, hd⟩ := hr.2 k hk
  have hx := row_at hr hk he
  have hte := htm _ (List.getElem_mem hk)
  refine ⟨l.set k ⟨c, l[k].one⟩, _, by simpa using s1.1, RowOf.set (hr.imp fun _ _ _ h => h.keep hkp) hk (by simp) ⟨av, ?_, hd.keep hkp⟩ ?_, fun i hi => ?_, by simpa using hln, rd_set hrd (by omega) _, gr_own hgr s1.2 ?_⟩
  · apply List.ext_getElem?
    intro j
    rw [List.getElem?_take]
    by_cases hj : j < 3
    · rw [if_pos hj, List.getElem?_drop]
      have : j = 0 ∨ j = 1 ∨ j = 2 := by omega
      rcases this with rfl | rfl | rfl
      · rw [Nat.add_zero, List.getElem?_set_self (by omega)]; rfl
      · rw [List.getElem?_set_ne (by omega)]; exact hx 1 _ rfl
      · rw [List.getElem?_set_ne (by omega)]; exact hx 2 _ rfl
    · rw [if_neg hj, List.getElem?_eq_none (by simp; omega)]
  · intro j hj
    rw [List.getElem?_set_ne (by omega)]
  · rcases List.mem_or_eq_of_mem_set hi with h1 | rfl
    · exact htm i h1
    · exact ⟨⟨hc, hte.1.2⟩, hte.2⟩
  · intro j hj
    simp only [Option.some.injEq] at hj
    omega
/-- The contact or coil of one instruction of the list, written anew. -/
theorem ListSt.one {q : Nat} {w W : World} {g P n b m cap k : Nat} {o : Stil.Elem} {av : Value} (h : ListSt q w W g P (.slice (some ⟨b, 0, none⟩) m cap) n) (hw : g < w.heap.size) (hk : k < m) (hd : DevsIn (Off g (.slice (some ⟨b, 0, none⟩) m cap)) W av o.args) (ht : ETame o ∧ o.args.length ≤ q) : ListSt q w ((W.setCell ⟨b, k * 3 + 1, none⟩ (.int .i64 o.op)).setCell ⟨b, k * 3 + 2, none⟩ av) g P (.slice (some ⟨b, 0, none⟩) m cap) n := by
  obtain ⟨l, xs, hown, hr, htm, hln, hrd, hgr⟩ := h
  obtain rfl : m = l.length := by
    obtain ⟨a', c', hv, -⟩ := own_open hown
    injection hv with h1 h2 h3
  have hlo : w.heap.size ≤ b := (hown.lt b rfl).1
  have s1 := hown.stored (k * 3 + 1) (.int .i64 o.op)
  have s2 := s1.1.stored (k * 3 + 2) av
  have hkp : KeepsIn (Off g (.slice (some ⟨b, 0, none⟩) l.length cap)) W ((W.setCell ⟨b, k * 3 + 1, none⟩ (.int .i64 o.op)).setCell ⟨b, k * 3 + 2, none⟩ av) := (KeepsIn.set (fun h => h.2 rfl) _).trans (KeepsIn.set (fun h => h.2 rfl) _)
  have hl : xs.length = l.length * 3 := hr.1
  obtain ⟨av0, he, hd0⟩ := hr.2 k hk
  have hx := row_at hr hk he
  have hte := htm _ (List.getElem_mem hk)
  refine ⟨l.set k ⟨l[k].code, o⟩, _, by simpa using s2.1, RowOf.set (hr.imp fun _ _ _ h => h.keep hkp) hk (by simp) ⟨av, ?_, hd.keep hkp⟩ ?_, fun i hi => ?_, by simpa using hln, rd_set (rd_set hrd (by omega) _) (by omega) _, gr_own (gr_own hgr s1.2 ?_) s2.2 ?_⟩
  · apply List.ext_getElem?
    intro j
    rw [List.getElem?_take]
    by_cases hj : j < 3
    · rw [if_pos hj, List.getElem?_drop]
      have : j = 0 ∨ j = 1 ∨ j = 2 := by omega
      rcases this with rfl | rfl | rfl
      · rw [List.getElem?_set_ne (by omega), List.getElem?_set_ne (by omega)]; exact hx 0 _ rfl
      · rw [List.getElem?_set_ne (by omega), List.getElem?_set_self (by omega)]; rfl
      · rw [List.getElem?_set_self (by simp; omega)]; rfl
    · rw [if_neg hj, List.getElem?_eq_none (by simp; omega)]
  · intro j hj
    rw [List.getElem?_set_ne (by omega), List.getElem?_set_ne (by omega)]
  · rcases List.mem_or_eq_of_mem_set hi with h1 | rfl
    · exact htm i h1
    · exact ⟨⟨hte.1.1, ht.1⟩, ht.2⟩
  all_goals
    intro j hj
    simp only [Option.some.injEq] at hj
    omega
/-- A copy in memory of its own. -/
theorem list_copied {q : Nat} {w W : World} {g P bb cc : Nat} {l : List Stil.Inst} {xs : List Value} (hr : RdAt w g P) (ht : ∀ i ∈ l, ITame i ∧ i.one.args.length ≤ q) (hown : W.ownsRow w.heap.size 43 3 (.slice (some ⟨bb, 0, none⟩) l.length cc) l.length xs) (hrow : RowOf 3 (InstC (fun b => (g < b ∧ b < w.heap.size) ∧ b < w.heap.size) W) xs l) (hb : w.heap.size ≤ bb) (hg : (w.alloc (.cells #[] 43)).grownBy W (some w.heap.size)) : ListSt q w W g P (.slice (some ⟨bb, 0, none⟩) l.length cc) l.length := by
  have hgz := rd_lt hr
  exact ⟨l, xs, hown, hrow.imp fun _ _ _ h => h.mono fun b _ hb => ⟨hb.1.1, by simp [Value.ownBlock]; omega⟩, ht, Nat.le_refl _, rd_grown (rd_alloc hr _) hg (fun k hk => by simp only [Option.some.injEq] at hk; omega), gr_own (grown_below (below_alloc _ _) _) hg (fun k hk => by simp only [Option.some.injEq] at hk; omega)⟩
set_option maxHeartbeats 1000000 in
theorem step_grow_insts {q : Nat} {ops : Array Oper} {o : Oper} {a : Act} {K : Act → World → Prop} {Q : Exit → Act → World → Prop} {E : Prop} (hgd : o.guard = none) (s x : Operand)
    (ho : o.op = .call { callee := .builtin .append, args := #[s, x], argTypes := #[23, 23] }) (w W : World) (g P n : Nat) (v : Value) (hs : a.eval s = v) (hst : ListSt q w W g P v n) (hgw : g < w.heap.size)
    (es : List Stil.Inst) (ad : Addr) (m c : Nat) (news : List Value) (hm : m = es.length) (hx : a.eval x = .slice (some ad) m c) (hrow : RowOf 3 (InstC (Off g v) W) news es) (hcl : ∀ j u, news[j]? = some u → W.cell? (ad.add j) = some u) (h1 : ∀ u ∈ news, u.oneCell' = true)
    (ht : ∀ i ∈ es, ITame i ∧ i.one.args.length ≤ q) (hn : n + es.length ≤ 1000000)
    (h : ∀ v' w', ListSt q w w' g P v' (n + es.length) → (∀ b i, HeldI W g v b i → HeldI w' g v' b i) → K (a.put o.dst v') w') : if Region.wanted o (yielded ops a.tmps) = true then Oper.wp Tryz.prog o a W K Q else E := by
  subst hm
  obtain ⟨i0, hi, hy0, hy1, hy2⟩ := info_parts info_inst
  obtain ⟨l, xs, hown, hr, htm, hln, hrd, hgr⟩ := hst
  refine step_append_at hgd s x 23 ho w.heap.size 43 i0 (.agg #[.int .i64 0, .int .i64 0, .slice none 0 0]) 3 40 Tryz.underlying23 hi hy0 hy1 hy2 rfl (by decide) v l.length xs hs hown ad es.length c news hx hrow.1 hcl h1 (by unfold maxLen; omega) (by omega) hgr.size ?_
  intro v' w' hown' hgr' hat
  have hlo : ∀ k, v.ownBlock = some k → w.heap.size ≤ k := fun k hk => (hown.lt k hk).1
  have hk : ∀ cs e, InstC (Off g v) W cs e → InstC (Off g v') w' cs e := fun cs e h => by
    have h1 : InstC (fun b => Off g v b ∧ Off g v' b) W cs e := h.mono fun b hb hp => ⟨hp, off_mono hat b hb hp⟩
    exact (h1.keep (keep_mono (off_keep (B := g) hgr') fun b _ hp => hp.1)).mono fun b _ hp => hp.2
  refine h v' w' ⟨l ++ es, xs ++ news, by simpa using hown', (hr.append hrow).imp fun cs e _ => hk cs e, fun i hi => ?_, by simp; omega, rd_grown hrd hgr' (fun k hk => by have := hlo k hk; omega), gr_own hgr hgr' (fun k hk => hlo k hk)⟩ ?_
  · rcases List.mem_append.1 hi with h | h
    · exact htm i h
    · exact ht i h
  · rintro b i ⟨p1, p2, p3, p4, av, p5, p6⟩
    have hkb : KeepsIn (Off g v) W w' := off_keep hgr'
    have hd : DevsIn (Off g v') w' av i.one.args := by
      have h1 : DevsIn (fun b => Off g v b ∧ Off g v' b) W av i.one.args := p6.mono fun b hb hp => ⟨hp, off_mono hat b hb hp⟩
      exact (h1.keep (keep_mono hkb fun b _ hp => hp.1)).mono fun b _ hp => hp.2
    have e : w'.heap[b]? = W.heap[b]? := hgr'.block b p2 (fun e => p1.2 e.symm)
    have hc : ∀ o, w'.cell? ⟨b, o, none⟩ = W.cell? ⟨b, o, none⟩ := fun o => by unfold World.cell?; rw [e]
    exact ⟨off_mono hat b p2 p1, Nat.lt_of_lt_of_le p2 hgr'.size, (hc _).trans p3, (hc _).trans p4, av, (hc _).trans p5, hd⟩
end Go.Proofs.YtbfkfdbkjbgneaaGreatDoor
/- Lists of instructions that grow: with the length told; one list behind another. -/
namespace Go.Proofs.YtbfkfdbkjbgneaaGreatDoor
open Go.RowKit Go.Sort Go.BigFrame
set_option maxHeartbeats 1000000 in
theorem wpList_grow_len {q : Nat} {ops : Array Oper} {rest : List Oper} {o : Oper} {a : Act} {Q : Exit → Act → World → Prop} (hgd : o.guard = none) (s x : Operand)
    (ho : o.op = .call { callee := .builtin .append, args := #[s, x], argTypes := #[23, 23] }) (w W : World) (g P n : Nat) (a0 : Option Addr) (m0 c0 : Nat) (hs : a.eval s = .slice a0 m0 c0) (hst : ListSt q w W g P (.slice a0 m0 c0) n) (hgw : g < w.heap.size)
    (e1 : Stil.Inst) (ad : Addr) (c : Nat) (news : List Value) (hx : a.eval x = .slice (some ad) 1 c) (hrow : RowOf 3 (InstC (Off g (.slice a0 m0 c0)) W) news [e1]) (hcl : ∀ j u, news[j]? = some u → W.cell? (ad.add j) = some u) (h1 : ∀ u ∈ news, u.oneCell' = true)
    (ht : ITame e1 ∧ e1.one.args.length ≤ q) (hn : n + 1 ≤ 1000000)
    (h : ∀ a' c' w', ListSt q w w' g P (.slice a' (m0 + 1) c') (n + 1) → (∀ b i, HeldI W g (.slice a0 m0 c0) b i → HeldI w' g (.slice a' (m0 + 1) c') b i) → wpList Tryz.prog ops Q rest (a.put o.dst (.slice a' (m0 + 1) c')) w') : wpList Tryz.prog ops Q (o :: rest) a W := by
  obtain ⟨i0, hi, hy0, hy1, hy2⟩ := info_parts info_inst
  obtain ⟨l, xs, hown, hr, htm, hln, hrd, hgr⟩ := hst
  obtain rfl : m0 = l.length := by
    obtain ⟨a', c', hv, -⟩ := own_open hown
    injection hv with h1 h2 h3
  refine wpList_append_own_at W hgd s x 23 ho w.heap.size 43 i0 (.agg #[.int .i64 0, .int .i64 0, .slice none 0 0]) 3 40 Tryz.underlying23 hi hy0 hy1 hy2 rfl (by decide) _ l.length xs hs hown ad 1 c news hx hrow.1 hcl h1 (by unfold maxLen; omega) (by omega) hgr.size ?_
  intro v' w' hown' hgr' _ hat
  obtain ⟨a', c', rfl, -⟩ := own_open hown'
  have hlo : ∀ k, (Value.slice a0 l.length c0).ownBlock = some k → w.heap.size ≤ k := fun k hk => (hown.lt k hk).1
  have hk : ∀ cs e, InstC (Off g (.slice a0 l.length c0)) W cs e → InstC (Off g (.slice a' (l.length + 1) c')) w' cs e := fun cs e h => by
    have h1 : InstC (fun b => Off g (.slice a0 l.length c0) b ∧ Off g (.slice a' (l.length + 1) c') b) W cs e := h.mono fun b hb hp => ⟨hp, off_mono hat b hb hp⟩
    exact (h1.keep (keep_mono (off_keep (B := g) hgr') fun b _ hp => hp.1)).mono fun b _ hp => hp.2
  refine h a' c' w' ⟨l ++ [e1], xs ++ news, by simpa using hown', (hr.append hrow).imp fun cs e _ => hk cs e, fun i hi => ?_, by simp; omega, rd_grown hrd hgr' (fun k hk => by have := hlo k hk; omega), ?_⟩ ?_
  · rcases List.mem_append.1 hi with h | h
    · exact htm i h
    · rw [List.mem_singleton.1 h]; exact ht
  · exact gr_own hgr hgr' (fun k hk => hlo k hk)
  · rintro b i ⟨p1, p2, p3, p4, av, p5, p6⟩
    have hkb : KeepsIn (Off g (.slice a0 l.length c0)) W w' := off_keep hgr'
    have hd : DevsIn (Off g (.slice a' (l.length + 1) c')) w' av i.one.args := by
      have h1 : DevsIn (fun b => Off g (.slice a0 l.length c0) b ∧ Off g (.slice a' (l.length + 1) c') b) W av i.one.args := p6.mono fun b hb hp => ⟨hp, off_mono hat b hb hp⟩
      exact (h1.keep (keep_mono hkb fun b _ hp => hp.1)).mono fun b _ hp => hp.2
    have e : w'.heap[b]? = W.heap[b]? := hgr'.block b p2 (fun e => p1.2 e.symm)
    have hc : ∀ o, w'.cell? ⟨b, o, none⟩ = W.cell? ⟨b, o, none⟩ := fun o => by unfold World.cell?; rw [e]
    exact ⟨off_mono hat b p2 p1, Nat.lt_of_lt_of_le p2 hgr'.size, (hc _).trans p3, (hc _).trans p4, av, (hc _).trans p5, hd⟩
theorem row_cells {P : Nat → Prop} {w : World} {xs : List Value} {ns : List Stil.Inst} (h : RowOf 3 (InstC P w) xs ns) : ∀ u ∈ xs, u.oneCell' = true := by
  intro u hu
  obtain ⟨j, hj⟩ := List.getElem?_of_mem hu
  have hjl : j < ns.length * 3 := by rw [← h.1]; exact (List.getElem?_eq_some_iff.1 hj).1
  obtain ⟨av, he, hav⟩ := h.2 (j / 3) (by omega)
  have hm : xs[j]? = ((xs.drop (j / 3 * 3)).take 3)[j % 3]? := by
    rw [List.getElem?_take, if_pos (by omega), List.getElem?_drop, Nat.mul_comm, Nat.div_add_mod]
  rw [hm, he] at hj
  obtain ⟨p1, c1, rfl, _⟩ := hav
  have : u ∈ [Value.int .i64 ns[j / 3].code, .int .i64 ns[j / 3].one.op, .slice p1 ns[j / 3].one.args.length c1] := List.mem_of_getElem? hj
  simp only [List.mem_cons, List.not_mem_nil, or_false] at this
  rcases this with rfl | rfl | rfl <;> rfl
set_option maxHeartbeats 1000000 in
/-- One list behind another. -/
theorem step_join_insts {ops : Array Oper} {o : Oper} {a : Act} {w : World} {K : Act → World → Prop} {Q : Exit → Act → World → Prop} {E : Prop} (hgd : o.guard = none) (s x : Operand)
    (ho : o.op = .call { callee := .builtin .append, args := #[s, x], argTypes := #[23, 23] }) (base g b0 m0 c0 : Nat) (kv : Value) (l ms : List Stil.Inst) (xs : List Value) (hs : a.eval s = .slice (some ⟨b0, 0, none⟩) m0 c0) (hx : a.eval x = kv)
    (hm0 : m0 = l.length) (hown : w.ownsRow base 43 3 (.slice (some ⟨b0, 0, none⟩) m0 c0) l.length xs) (hrow : RowOf 3 (InstC (Off g (.slice (some ⟨b0, 0, none⟩) m0 c0)) w) xs l) (hk : InstsIn (Off g (.slice (some ⟨b0, 0, none⟩) m0 c0)) w kv ms)
    (hl : l.length + ms.length ≤ 1000000) (hb : base ≤ w.heap.size) (hgb : g < base)
    (h : ∀ a' c' w', InstsIn (fun b => g < b) w' (.slice a' (l ++ ms).length c') (l ++ ms) → w.grownBy w' (some b0) → K (a.put o.dst (.slice a' (l ++ ms).length c')) w') : if Region.wanted o (yielded ops a.tmps) = true then Oper.wp Tryz.prog o a w K Q else E := by
  subst hm0
  obtain ⟨i0, hi, hy0, hy1, hy2⟩ := info_parts info_inst
  obtain ⟨ad, cap, rfl, hq, us, hrk, hcell⟩ := row_of_insts hk
  by_cases hd : ms.length = 0
  · obtain rfl := List.length_eq_zero_iff.1 hd
    have hwt : Region.wanted o (yielded ops a.tmps) = true := by simp [Region.wanted, hgd]
    rw [if_pos hwt]
    have hin := instsIn_of_row (P := fun b => g < b) hown (hrow.imp fun _ _ _ h => h.mono fun b _ hp => hp.1) fun b hb => by have := (hown.lt b hb).1; omega
    have hk3 := h (some ⟨b0, 0, none⟩) c0 w (by simpa using hin) (grown_refl _ _)
    obtain ⟨a', c', hv, hcp, -⟩ := own_open hown
    injection hv with e1 e2 e3
    subst e3
    have hc1 := hcp.1
    simp only [List.length_nil, List.append_nil] at hk3 hx
    unfold Oper.wp execOp
    cases ad
    · have e : Sem.run Tryz.prog (Builtin.append_ #[23, 23] o.type #[.slice (some ⟨b0, 0, none⟩) l.length c0, .slice none 0 cap]) w = .ok (.slice (some ⟨b0, 0, none⟩) l.length c0) w := by
        simp [Builtin.append_, go_sem]
        omega
      simp only [ho, resolve, invoke, builtin, Sem.run_bind, Sem.run_pure, Result.andThen_ok, List.map_toArray, List.map_cons, List.map_nil, hs, hx, e]
      exact hk3
    · rename_i t1
      have e : Sem.run Tryz.prog (Builtin.append_ #[23, 23] o.type #[.slice (some ⟨b0, 0, none⟩) l.length c0, .slice (some t1) 0 cap]) w = .ok (.slice (some ⟨b0, 0, none⟩) l.length c0) w := by
        simp [Builtin.append_, go_sem]
        omega
      simp only [ho, resolve, invoke, builtin, Sem.run_bind, Sem.run_pure, Result.andThen_ok, List.map_toArray, List.map_cons, List.map_nil, hs, hx, e]
      exact hk3
  · obtain ⟨p, rfl⟩ : ∃ p, ad = some p := by
      cases ad with
      | none => exact absurd (hq.2 rfl) (by have := hq.1; omega)
      | some p => exact ⟨p, rfl⟩
    refine step_append_at hgd s x 23 ho base 43 i0 (.agg #[.int .i64 0, .int .i64 0, .slice none 0 0]) 3 40 Tryz.underlying23 hi hy0 hy1 hy2 rfl (by decide) _ l.length xs hs hown p ms.length cap us hx hrk.1 (hcell _ rfl) (row_cells hrk) (by unfold maxLen; omega) (by omega) hb ?_
    intro v' w' hown' hgr' hat
    obtain ⟨a', c', rfl, -⟩ := own_open hown'
    have hk2 : ∀ cs e, InstC (Off g (.slice (some ⟨b0, 0, none⟩) l.length c0)) w cs e → InstC (fun b => g < b) w' cs e := fun cs e h => (h.keep (off_keep (B := g) hgr')).mono fun b _ hp => hp.1
    have hin := instsIn_of_row (P := fun b => g < b) (es := l ++ ms) (by simpa using hown') ((hrow.append hrk).imp fun cs e _ => hk2 cs e) fun b hb => by have := (hown'.lt b hb).1; omega
    have := h a' c' w' (by simpa using hin) hgr'
    simpa using this
end Go.Proofs.YtbfkfdbkjbgneaaGreatDoor
/- Lists of instructions that grow: growth in a region that draws, with what it leaves as it was; what lies behind a place of another list. -/
namespace Go.Proofs.YtbfkfdbkjbgneaaGreatDoor
open Go.RowKit Go.Sort Go.BigFrame
set_option maxHeartbeats 1000000 in
theorem step_grow_more {q : Nat} {ops : Array Oper} {o : Oper} {a : Act} {K : Act → World → Prop} {Q : Exit → Act → World → Prop} {E : Prop} (hgd : o.guard = none) (s x : Operand)
    (ho : o.op = .call { callee := .builtin .append, args := #[s, x], argTypes := #[23, 23] }) (w W : World) (g P n : Nat) (v : Value) (hs : a.eval s = v) (hst : ListSt q w W g P v n) (hgw : g < w.heap.size)
    (es : List Stil.Inst) (ad : Addr) (m c : Nat) (news : List Value) (hm : m = es.length) (hx : a.eval x = .slice (some ad) m c) (hrow : RowOf 3 (InstC (Off g v) W) news es) (hcl : ∀ j u, news[j]? = some u → W.cell? (ad.add j) = some u) (h1 : ∀ u ∈ news, u.oneCell' = true)
    (ht : ∀ i ∈ es, ITame i ∧ i.one.args.length ≤ q) (hn : n + es.length ≤ 1000000)
    (h : ∀ v' w', ListSt q w w' g P v' (n + es.length) → W.grownBy w' v.ownBlock → (v'.ownBlock = v.ownBlock ∨ v'.ownBlock = some W.heap.size) → K (a.put o.dst v') w') : if Region.wanted o (yielded ops a.tmps) = true then Oper.wp Tryz.prog o a W K Q else E := by
  subst hm
  obtain ⟨i0, hi, hy0, hy1, hy2⟩ := info_parts info_inst
  obtain ⟨l, xs, hown, hr, htm, hln, hrd, hgr⟩ := hst
  refine step_append_at hgd s x 23 ho w.heap.size 43 i0 (.agg #[.int .i64 0, .int .i64 0, .slice none 0 0]) 3 40 Tryz.underlying23 hi hy0 hy1 hy2 rfl (by decide) v l.length xs hs hown ad es.length c news hx hrow.1 hcl h1 (by unfold maxLen; omega) (by omega) hgr.size ?_
  intro v' w' hown' hgr' hat
  have hlo : ∀ k, v.ownBlock = some k → w.heap.size ≤ k := fun k hk => (hown.lt k hk).1
  have hk : ∀ cs e, InstC (Off g v) W cs e → InstC (Off g v') w' cs e := fun cs e h => by
    have h1 : InstC (fun b => Off g v b ∧ Off g v' b) W cs e := h.mono fun b hb hp => ⟨hp, off_mono hat b hb hp⟩
    exact (h1.keep (keep_mono (off_keep (B := g) hgr') fun b _ hp => hp.1)).mono fun b _ hp => hp.2
  refine h v' w' ⟨l ++ es, xs ++ news, by simpa using hown', (hr.append hrow).imp fun cs e _ => hk cs e, fun i hi => ?_, by simp; omega, rd_grown hrd hgr' (fun k hk => by have := hlo k hk; omega), gr_own hgr hgr' (fun k hk => hlo k hk)⟩ hgr' hat
  rcases List.mem_append.1 hi with h | h
  · exact htm i h
  · exact ht i h
theorem ListSt.own {q : Nat} {w W : World} {g P n : Nat} {v : Value} (h : ListSt q w W g P v n) : ∀ b, v.ownBlock = some b → w.heap.size ≤ b ∧ b < W.heap.size := by
  obtain ⟨l, xs, hown, -⟩ := h
  exact fun b hb => hown.lt b hb
theorem list_fresh {q : Nat} {w D : World} {g P : Nat} (h : RdAt D g P) (hgr : w.grownBy D (some g)) : ListSt q w (D.alloc (.cells #[] 43)) g P (.slice (some ⟨D.heap.size, 0, none⟩) 0 0) 0 := by
  have hown0 : (D.alloc (.cells #[] 43)).ownsRow w.heap.size 43 3 (.slice (some ⟨D.heap.size, 0, none⟩) 0 0) 0 [] := by
    have := World.ownsRow_lit (base := w.heap.size) (e := 43) (size := 3) D #[] 0 hgr.size (by unfold maxLen; omega) rfl
    simpa using this
  exact ⟨[], [], hown0, RowOf.nil _ _, fun _ h => (by cases h), by simp, rd_alloc h _, grown_trans hgr (grown_below (below_alloc _ _) _)⟩
/-- Instructions in memory beyond g and below lo, in a row from a place on. -/
def Tail (g lo : Nat) (W : World) (b o : Nat) (es : List Stil.Inst) (news : List Value) : Prop := (g < b ∧ b < lo ∧ lo ≤ W.heap.size) ∧ RowOf 3 (InstC (fun b => g < b ∧ b < lo) W) news es ∧ ∀ j u, news[j]? = some u → W.cell? ((⟨b, o, none⟩ : Addr).add j) = some u
theorem add_block (b o j : Nat) : ((⟨b, o, none⟩ : Addr).add j).block = b := by
  unfold Addr.add
  split <;> rfl
theorem Tail.grown {g lo b o : Nat} {W W' : World} {r : Option Nat} {es : List Stil.Inst} {news : List Value} (h : Tail g lo W b o es news) (hg : W.grownBy W' r) (hr : ∀ j, r = some j → j = g ∨ lo ≤ j) : Tail g lo W' b o es news := by
  obtain ⟨⟨h1, h2, h3⟩, h4, h5⟩ := h
  have hk : ∀ c, g < c → c < lo → r ≠ some c := fun c q1 q2 e => by rcases hr c e with h | h <;> omega
  refine ⟨⟨h1, h2, Nat.le_trans h3 hg.size⟩, h4.imp fun _ _ _ h => h.keep (KeepsIn.of_grown hg fun c hc => hk c hc.1 hc.2), fun j u hj => ?_⟩
  have e : W'.heap[b]? = W.heap[b]? := hg.block b (by omega) (fun e => hk b h1 h2 e.symm)
  rw [← h5 j u hj]
  unfold World.cell?
  rw [add_block, e]
theorem Tail.row {g lo b o : Nat} {W : World} {es : List Stil.Inst} {news : List Value} (h : Tail g lo W b o es news) {v : Value} (hv : ∀ c, v.ownBlock = some c → lo ≤ c) : RowOf 3 (InstC (Off g v) W) news es :=
  h.2.1.imp fun _ _ _ h => h.mono fun c _ hc => ⟨hc.1, fun e => by have := hv c e; omega⟩
theorem ListSt.tail {q : Nat} {w W : World} {g P n b m cap k : Nat} (h : ListSt q w W g P (.slice (some ⟨b, 0, none⟩) m cap) n) (hw : g < w.heap.size) (hk : k ≤ m) : ∃ (es : List Stil.Inst) (news : List Value), es.length = m - k ∧ Tail g W.heap.size W b (k * 3) es news ∧ (∀ u ∈ news, u.oneCell' = true) ∧ ∀ i ∈ es, ITame i ∧ i.one.args.length ≤ q := by
  obtain ⟨es, news, h1, h2, h3, h4, h5⟩ := h.behind hk
  have ho := h.own b rfl
  exact ⟨es, news, h1, ⟨⟨by omega, by omega, Nat.le_refl _⟩, h2.imp fun _ _ _ h => h.mono fun c hc hp => ⟨hp.1, hc⟩, h3⟩, h4, h5⟩
end Go.Proofs.YtbfkfdbkjbgneaaGreatDoor
