/- R10, R11: texts put together. -/
import Derived.Test.YtipdjmbgbehkaaaGreatDoorR9b
import Derived.Test.YtipdjmbgbehkaaaGreatDoorGK
import Derived.Test.YtipdjmbgbehkaaaGreatDoorGC
import Derived.Test.YtipdjmbgbehkaaaGreatDoorGY
/- Contracts of the program's chapter 2: elemParse. -/
namespace Go.Proofs.YtipdjmbgbehkaaaGreatDoor
open Go.RowKit Go.Sort Go.BigFrame
theorem ne_nilE (w : World) : Sem.run Tryz.prog (binOp BinOp.neq 53 .nilIface .nilIface) w = .ok (.bool false) w := by kernel_rfl
theorem args_fit {l : List UInt8} {x : Stil.Elem} (h : Stil.ieguess l = some x) : (∀ d ∈ x.args, d.fits) ∧ x.args.length ≤ 10 := by
  have hall : ∀ (ts : List (List UInt8)) (ds : List Stil.Dev), Stil.ireadAll ts = some ds → (∀ d ∈ ds, d.fits) ∧ ds.length = ts.length := by
    intro ts
    induction ts with
    | nil => intro ds h; cases h; exact ⟨by simp, rfl⟩
    | cons t r ih =>
      intro ds h
      rw [Stil.ireadAll, Stil.idevRead_eq] at h
      cases hb : Stil.devReadB t
      · rw [hb] at h; cases h
      · rw [hb, if_pos rfl] at h
        simp only [Option.bind_some] at h
        obtain ⟨ds', h1, h2⟩ := Option.map_eq_some_iff.1 h
        obtain ⟨q1, q2⟩ := ih ds' h1
        subst h2
        refine ⟨fun d hd => ?_, by simp [q2]⟩
        rcases List.mem_cons.1 hd with rfl | hd
        · exact devRead_fits t
        · exact q1 d hd
  have hof : ∀ (op : Nat) (ts : List (List UInt8)), ts.length ≤ 10 → Stil.iof op ts = some x → (∀ d ∈ x.args, d.fits) ∧ x.args.length ≤ 10 := by
    intro op ts hl h
    unfold Stil.iof at h
    obtain ⟨ds, h1, h2⟩ := Option.map_eq_some_iff.1 h
    obtain ⟨q1, q2⟩ := hall ts ds h1
    subst h2
    exact ⟨q1, by simp only; omega⟩
  unfold Stil.ieguess at h
  split at h
  · exact hof _ _ (split4_len _ _).1 h
  · unfold Stil.iother at h
    split at h
    · exact hof _ _ (by simp) h
    · unfold Stil.ihead at h
      split at h
      · exact hof _ _ (by simp) h
      · split at h
        · exact hof _ _ (split4_len _ _).1 h
        · split at h
          · exact hof _ _ (split4_len _ _).1 h
          · exact hof _ _ (by simp) h
theorem ne_ifaceE (s : ByteArray) (w : World) : Sem.run Tryz.prog (binOp BinOp.neq 53 (.iface 155 (.agg #[.string s])) .nilIface) w = .ok (.bool true) w := by kernel_rfl
theorem out_none {W W1 : World} {rv ev : Value} (h : OfOut W W1 rv ev none) : rv = .agg #[.int .i64 0, .slice none 0 0] ∧ ∃ t, ev = .iface 155 (.agg #[.string t]) := by
  rcases h with ⟨x, a, n, c, h, _⟩ | ⟨_, h⟩
  · cases h
  · exact h
theorem out_some {W W1 : World} {rv ev : Value} {x : Stil.Elem} (h : OfOut W W1 rv ev (some x)) : ∃ a n c, rv = .agg #[.int .i64 x.op, .slice a n c] ∧ ev = .nilIface ∧ W1.ownsRow W.heap.size 74 3 (.slice a n c) x.args.length (devsCells x.args) := by
  rcases h with ⟨y, a, n, c, h, h2, h3, h4⟩ | ⟨h, _⟩
  · cases h
    exact ⟨a, n, c, h2, h3, h4⟩
  · cases h
set_option maxHeartbeats 2000000 in
set_option maxRecDepth 100000 in
theorem i_elemParse (l : List UInt8) (w : World) (hr : RowsAt w) (hw : WordsAt w) (hp : PowAt w) (hL : LibAt w) (hs : l.length ≤ 1000000000) :
    Calls Tryz.prog 125 #[.string ⟨l.toArray⟩] w fun e w' => EOut e w w' (Stil.ielemRead l) := by
  have hn1 := ne_nilE
  have hn2 := ne_ifaceE
  have HE : Hid (∀ W, Below w.heap.size w W → Calls Tryz.prog 161 #[.string ⟨l.toArray⟩] W fun e w' => EOut e W w' (Stil.ieguess l)) := fun W h => i_elemGuess l W (hr.below h) (hw.below h) (hp.below h) (hL.below h) hs
  cases hi : Stil.ieguess l with
  | none =>
    have HR : Hid (Stil.ielemRead l = none) := by show _ = _; unfold Stil.ielemRead; rw [hi]; rfl
    rw [hi] at HE
    clear hi hr hw hp hL
    go_enter Tryz.func125, Tryz.ntmps125
    go_wp2_with (go_at_call 161; refine (HE.out _ (by (repeat (first | exact Below.refl _ _ | assumption | refine bl_alloc ?_ _ | refine bl_drewN ?_ _ | refine bl_drew ?_ | refine bl_grow ?_ _ _ | refine bl_set (Nat.le_refl _) ?_ _ | refine bl_call ?_ (by assumption))))).mono ?_; rintro e w1 ⟨rv, ev, rfl, hout, hb1⟩; obtain ⟨rfl, t0, rfl⟩ := out_none hout; clear hout; have hbx : Below (w.heap.size + 1) (w.alloc (.cells #[.int .i64 0, .slice none 0 0] 29)) w1 := (by have q := hb1; rw [World.size_alloc] at q; exact q); obtain ⟨c0, f0, c1, f1, hz1⟩ := res2 hbx)
    refine bodyPost_ret (v := .tuple #[.agg #[.int .i64 0, .slice none 0 0], .iface 155 (.agg #[.string t0])]) (by simp [results, Tryz.results125, go_sem, c0, c1, hz1]) rfl ?_
    rw [HR.out]
    have hbw : Below w.heap.size w w1 := (below_alloc w _).trans (hbx.mono (Nat.le_succ _))
    exact ⟨_, _, rfl, Or.inr ⟨rfl, rfl, _, rfl⟩, by (repeat (first | with_reducible exact Below.refl _ _ | with_reducible assumption | with_reducible refine bl_set (by first | exact Nat.le_refl _ | (simp; done) | (simp; omega) | omega) ?_ _ | with_reducible refine bl_alloc ?_ _ | with_reducible refine bl_drewN ?_ _ | with_reducible refine bl_drew ?_ | with_reducible refine bl_grow ?_ _ _ | with_reducible refine bl_call ?_ (by assumption)))⟩
  | some x =>
    obtain ⟨hfit, hlen⟩ := args_fit hi
    have HT : Hid (∀ W v, Below w.heap.size w W → DevsAt W v x.args → Calls Tryz.prog 46 #[.agg #[.int .i64 x.op, v]] W fun e w' => e = .returned (.string ⟨(Stil.elemText x.op x.args).toArray⟩) ∧ Below W.heap.size W w') := fun W v h hd => i_elemText x.op v x.args W (hr.below h) (hw.below h) (hp.below h) hd hfit (by omega)
    have HR : Hid (Stil.ielemRead l = if Stil.elemText x.op x.args = l then some x else none) := by show _ = _; unfold Stil.ielemRead; rw [hi]; rfl
    obtain ⟨y, hy⟩ : ∃ y, y = Stil.elemText x.op x.args := ⟨_, rfl⟩
    rw [← hy] at HT HR
    rw [hi] at HE
    clear hi hr hw hp hL hy hfit hlen
    by_cases ht : y = l
    · have HR2 : Hid (Stil.ielemRead l = some x) := by show _ = _; rw [HR.out, if_pos ht]
      clear HR
      subst ht
      go_enter Tryz.func125, Tryz.ntmps125
      go_wp2_with (first | (go_at_call 161; refine (HE.out _ (by (repeat (first | exact Below.refl _ _ | assumption | refine bl_alloc ?_ _ | refine bl_drewN ?_ _ | refine bl_drew ?_ | refine bl_grow ?_ _ _ | refine bl_set (Nat.le_refl _) ?_ _ | refine bl_call ?_ (by assumption))))).mono ?_; rintro e w1 ⟨rv, ev, rfl, hout, hb1⟩; obtain ⟨a, n, c, rfl, rfl, hown⟩ := out_some hout; clear hout; rw [World.size_alloc] at hown; have hbx : Below (w.heap.size + 1) (w.alloc (.cells #[.int .i64 0, .slice none 0 0] 29)) w1 := (by have q := hb1; rw [World.size_alloc] at q; exact q); obtain ⟨c0, f0, c1, f1, hz1⟩ := res2 hbx) | (go_at_call 46; refine (HT.out _ _ (by have := (below_alloc w (.cells #[.int .i64 0, .slice none 0 0] 29)).trans (hbx.mono (Nat.le_succ _)); (repeat (first | exact Below.refl _ _ | assumption | refine bl_alloc ?_ _ | refine bl_drewN ?_ _ | refine bl_drew ?_ | refine bl_grow ?_ _ _ | refine bl_set (Nat.le_refl _) ?_ _ | refine bl_call ?_ (by assumption)))) ((DevsAt.of_owns hown).below (below_alloc _ _))).mono ?_; rintro e w2 ⟨rfl, hb2⟩; have hbx2 : Below (w.heap.size + 1) (w.alloc (.cells #[.int .i64 0, .slice none 0 0] 29)) w2 := (blN (blN hbx (below_alloc _ _) (by simp)) hb2 (by simp)); have hown2 := ownsRow_below (hown.alloc (.cells #[.int .i64 x.op, .slice a n c] 29)) hb2; obtain ⟨d0, g0, d1, g1, hz2⟩ := res2 hbx2; have hbw : Below w.heap.size w w2 := (below_alloc w _).trans (hbx2.mono (Nat.le_succ _)); have k0 : w2.cell? ⟨w1.heap.size, 0, none⟩ = some (.int .i64 x.op) := (by refine (hb2.cell (p := ⟨w1.heap.size, 0, none⟩) (by first | with_reducible assumption | (simp; done) | (simp; omega))).trans ?_; (repeat (first | with_reducible assumption | with_reducible refine cell_drew.trans ?_ | with_reducible refine (cell_set_other (by omega)).trans ?_ | with_reducible refine (cell_set_off (by omega)).trans ?_ | with_reducible refine (cell_alloc_old (by first | with_reducible assumption | (simp; done) | (simp; omega))).trans ?_ | with_reducible apply cell_set_at | (simp [go_sem]; done)))); have k1 : w2.cell? ⟨w1.heap.size, 1, none⟩ = some (.slice a n c) := (by refine (hb2.cell (p := ⟨w1.heap.size, 1, none⟩) (by first | with_reducible assumption | (simp; done) | (simp; omega))).trans ?_; (repeat (first | with_reducible assumption | with_reducible refine cell_drew.trans ?_ | with_reducible refine (cell_set_other (by omega)).trans ?_ | with_reducible refine (cell_set_off (by omega)).trans ?_ | with_reducible refine (cell_alloc_old (by first | with_reducible assumption | (simp; done) | (simp; omega))).trans ?_ | with_reducible apply cell_set_at | (simp [go_sem]; done)))); have hy2 : w1.heap.size < w2.heap.size := Nat.lt_of_lt_of_le (by first | with_reducible assumption | (simp; done) | (simp; omega)) hb2.size))
      refine bodyPost_ret (v := .tuple #[.agg #[.int .i64 x.op, .slice a n c], .nilIface]) (by simp [results, Tryz.results125, go_sem, d0, d1]) rfl ?_
      rw [HR2.out]
      refine ⟨_, _, rfl, Or.inl ⟨x, a, n, c, rfl, rfl, rfl, ?_⟩, by (repeat (first | with_reducible exact Below.refl _ _ | with_reducible assumption | with_reducible refine bl_set (by first | exact Nat.le_refl _ | (simp; done) | (simp; omega) | omega) ?_ _ | with_reducible refine bl_alloc ?_ _ | with_reducible refine bl_drewN ?_ _ | with_reducible refine bl_drew ?_ | with_reducible refine bl_grow ?_ _ _ | with_reducible refine bl_call ?_ (by assumption)))⟩
      exact Joins.ownsRow_le (ownsRow_setCell_below (ownsRow_setCell_below hown2 (show w.heap.size < w.heap.size + 1 by omega) _) (show w.heap.size < w.heap.size + 1 by omega) _) (by omega)
    · have HR2 : Hid (Stil.ielemRead l = none) := by show _ = _; rw [HR.out, if_neg ht]
      have hte : (y == l) = false := beq_eq_false_iff_ne.2 ht
      clear HR
      go_enter Tryz.func125, Tryz.ntmps125
      go_wp2_with (first | (go_at_call 161; refine (HE.out _ (by (repeat (first | exact Below.refl _ _ | assumption | refine bl_alloc ?_ _ | refine bl_drewN ?_ _ | refine bl_drew ?_ | refine bl_grow ?_ _ _ | refine bl_set (Nat.le_refl _) ?_ _ | refine bl_call ?_ (by assumption))))).mono ?_; rintro e w1 ⟨rv, ev, rfl, hout, hb1⟩; obtain ⟨a, n, c, rfl, rfl, hown⟩ := out_some hout; clear hout; rw [World.size_alloc] at hown; have hbx : Below (w.heap.size + 1) (w.alloc (.cells #[.int .i64 0, .slice none 0 0] 29)) w1 := (by have q := hb1; rw [World.size_alloc] at q; exact q); obtain ⟨c0, f0, c1, f1, hz1⟩ := res2 hbx) | (go_at_call 46; refine (HT.out _ _ (by have := (below_alloc w (.cells #[.int .i64 0, .slice none 0 0] 29)).trans (hbx.mono (Nat.le_succ _)); (repeat (first | exact Below.refl _ _ | assumption | refine bl_alloc ?_ _ | refine bl_drewN ?_ _ | refine bl_drew ?_ | refine bl_grow ?_ _ _ | refine bl_set (Nat.le_refl _) ?_ _ | refine bl_call ?_ (by assumption)))) ((DevsAt.of_owns hown).below (below_alloc _ _))).mono ?_; rintro e w2 ⟨rfl, hb2⟩; have hbx2 : Below (w.heap.size + 1) (w.alloc (.cells #[.int .i64 0, .slice none 0 0] 29)) w2 := (blN (blN hbx (below_alloc _ _) (by simp)) hb2 (by simp)); have hown2 := ownsRow_below (hown.alloc (.cells #[.int .i64 x.op, .slice a n c] 29)) hb2; obtain ⟨d0, g0, d1, g1, hz2⟩ := res2 hbx2; have hbw : Below w.heap.size w w2 := (below_alloc w _).trans (hbx2.mono (Nat.le_succ _)); have k0 : w2.cell? ⟨w1.heap.size, 0, none⟩ = some (.int .i64 x.op) := (by refine (hb2.cell (p := ⟨w1.heap.size, 0, none⟩) (by first | with_reducible assumption | (simp; done) | (simp; omega))).trans ?_; (repeat (first | with_reducible assumption | with_reducible refine cell_drew.trans ?_ | with_reducible refine (cell_set_other (by omega)).trans ?_ | with_reducible refine (cell_set_off (by omega)).trans ?_ | with_reducible refine (cell_alloc_old (by first | with_reducible assumption | (simp; done) | (simp; omega))).trans ?_ | with_reducible apply cell_set_at | (simp [go_sem]; done)))); have k1 : w2.cell? ⟨w1.heap.size, 1, none⟩ = some (.slice a n c) := (by refine (hb2.cell (p := ⟨w1.heap.size, 1, none⟩) (by first | with_reducible assumption | (simp; done) | (simp; omega))).trans ?_; (repeat (first | with_reducible assumption | with_reducible refine cell_drew.trans ?_ | with_reducible refine (cell_set_other (by omega)).trans ?_ | with_reducible refine (cell_set_off (by omega)).trans ?_ | with_reducible refine (cell_alloc_old (by first | with_reducible assumption | (simp; done) | (simp; omega))).trans ?_ | with_reducible apply cell_set_at | (simp [go_sem]; done)))); have hy2 : w1.heap.size < w2.heap.size := Nat.lt_of_lt_of_le (by first | with_reducible assumption | (simp; done) | (simp; omega)) hb2.size))
      refine bodyPost_ret (v := .tuple #[.agg #[.int .i64 0, .slice none 0 0], .iface 155 (.agg #[.string ⟨l.toArray⟩])]) (by simp [results, Tryz.results125, go_sem, d0, d1]) rfl ?_
      rw [HR2.out]
      exact ⟨_, _, rfl, Or.inr ⟨rfl, rfl, _, rfl⟩, by (repeat (first | with_reducible exact Below.refl _ _ | with_reducible assumption | with_reducible refine bl_set (by first | exact Nat.le_refl _ | (simp; done) | (simp; omega) | omega) ?_ _ | with_reducible refine bl_alloc ?_ _ | with_reducible refine bl_drewN ?_ _ | with_reducible refine bl_drew ?_ | with_reducible refine bl_grow ?_ _ _ | with_reducible refine bl_call ?_ (by assumption)))⟩
end Go.Proofs.YtipdjmbgbehkaaaGreatDoor
/- Contracts of the program's chapter 2: ElemRead. -/
namespace Go.Proofs.YtipdjmbgbehkaaaGreatDoor
open Go.RowKit Go.Sort Go.BigFrame
theorem eread (l : List UInt8) : Stil.ielemRead l = if Stil.elemReadB l then some (Stil.elemRead l) else none := by
  by_cases h : l = []
  · subst h
    have e : Stil.ielemRead [] = none := by unfold Stil.ielemRead; rw [Stil.ieguess_nil]; rfl
    rw [e]
    rfl
  · exact Stil.ielemRead_eq l h
set_option maxHeartbeats 2000000 in
set_option maxRecDepth 100000 in
theorem i_elemRead (l : List UInt8) (w : World) (hr : RowsAt w) (hw : WordsAt w) (hp : PowAt w) (hL : LibAt w) (hg : ErrTypeAt w) (hs : l.length ≤ 1000000000) :
    Calls Tryz.prog 89 #[.string ⟨l.toArray⟩] w fun e w' => ∃ v, e = .returned (.tuple #[.agg #[.int .i64 (Stil.elemRead l).op, v], .bool (Stil.elemReadB l)]) ∧ w'.ownsRow w.heap.size 74 3 v (Stil.elemRead l).args.length (devsCells (Stil.elemRead l).args) ∧ Below w.heap.size w w' := by
  have HE : Hid (∀ W, Below w.heap.size w W → Calls Tryz.prog 125 #[.string ⟨l.toArray⟩] W fun e w' => EOut e W w' (Stil.ielemRead l)) := fun W h => i_elemParse l W (hr.below h) (hw.below h) (hp.below h) (hL.below h) hs
  have HG : Hid (∀ W, Below w.heap.size w W → ErrTypeAt W) := fun W h => hg.below h
  clear hr hw hp hL hg
  have hrd := eread l
  cases hb : Stil.elemReadB l
  · have hd : Stil.elemRead l = ⟨0, []⟩ := by unfold Stil.elemRead; rw [hb]; rfl
    rw [hb] at hrd
    rw [hrd] at HE
    have HE2 : Hid (∀ W, Below w.heap.size w W → Calls Tryz.prog 125 #[.string ⟨l.toArray⟩] W fun e w' => EOut e W w' none) := HE
    rw [hd]
    clear hrd hd hb HE
    go_enter Tryz.func89, Tryz.ntmps89
    go_wp2_with (first | (go_at_call 125; refine (HE2.out _ (by (repeat (first | exact Below.refl _ _ | assumption | refine bl_alloc ?_ _ | refine bl_drewN ?_ _ | refine bl_drew ?_ | refine bl_grow ?_ _ _ | refine bl_set (Nat.le_refl _) ?_ _ | refine bl_call ?_ (by assumption))))).mono ?_; rintro e w1 ⟨rv, ev, rfl, hout, hb1⟩; obtain ⟨rfl, t0, rfl⟩ := out_none hout; clear hout; have hbx : Below (w.heap.size + 1) (w.alloc (.cells #[.int .i64 0, .slice none 0 0] 29)) w1 := (by have q := hb1; rw [World.size_alloc] at q; exact q); obtain ⟨c0, f0, c1, f1, hz1⟩ := res2 hbx) | (go_at_call 67; refine (as_hitS t0 ⟨w1.heap.size + 1, 0, none⟩ _ _ (HG.out _ (by have := (below_alloc w (.cells #[.int .i64 0, .slice none 0 0] 29)).trans (hbx.mono (Nat.le_succ _)); (repeat (first | exact Below.refl _ _ | assumption | refine bl_alloc ?_ _ | refine bl_drewN ?_ _ | refine bl_drew ?_ | refine bl_grow ?_ _ _ | refine bl_set (Nat.le_refl _) ?_ _ | refine bl_call ?_ (by assumption))))) (by simp [go_sem]; rfl) (by simp [go_sem])).mono ?_; rintro e w' ⟨rfl, w4, hb4, rfl⟩; have hbx4 := blN (blN (blN hbx (below_alloc w1 (.cells #[.int .i64 0, .slice none 0 0] 29)) (by simp)) (below_alloc _ (.cells #[.string ⟨#[]⟩] 155)) (by simp)) hb4 (by simp); obtain ⟨d0, g0, d1, g1, hz4⟩ := res2 hbx4; have hne : w.heap.size ≠ w1.heap.size + 1 := (by omega); have hne2 : ¬ w.heap.size = w1.heap.size + 1 := hne; have hne3 : ¬ w1.heap.size + 1 = w.heap.size := (by omega)))
    have hbw : Below w.heap.size w w4 := (below_alloc w _).trans (hbx4.mono (Nat.le_succ _))
    refine bodyPost_ret (v := .tuple #[.agg #[.int .i64 0, .slice none 0 0], .bool false]) (by simp [results, Tryz.results89, go_sem, d0, d1]) rfl ?_
    exact ⟨_, rfl, ⟨rfl, Or.inl ⟨rfl, rfl⟩⟩, by (repeat (first | with_reducible exact Below.refl _ _ | with_reducible assumption | with_reducible refine bl_set (by first | exact Nat.le_refl _ | (simp; done) | (simp; omega) | omega) ?_ _ | with_reducible refine bl_alloc ?_ _ | with_reducible refine bl_drewN ?_ _ | with_reducible refine bl_drew ?_ | with_reducible refine bl_grow ?_ _ _ | with_reducible refine bl_call ?_ (by assumption)))⟩
  · rw [hb] at hrd
    rw [hrd] at HE
    have HE2 : Hid (∀ W, Below w.heap.size w W → Calls Tryz.prog 125 #[.string ⟨l.toArray⟩] W fun e w' => EOut e W w' (some (Stil.elemRead l))) := HE
    obtain ⟨x, hx⟩ : ∃ x, x = Stil.elemRead l := ⟨_, rfl⟩
    rw [← hx] at HE2 ⊢
    clear hrd hb HE hx
    go_enter Tryz.func89, Tryz.ntmps89
    go_wp2_with (first | (go_at_call 125; refine (HE2.out _ (by (repeat (first | exact Below.refl _ _ | assumption | refine bl_alloc ?_ _ | refine bl_drewN ?_ _ | refine bl_drew ?_ | refine bl_grow ?_ _ _ | refine bl_set (Nat.le_refl _) ?_ _ | refine bl_call ?_ (by assumption))))).mono ?_; rintro e w1 ⟨rv, ev, rfl, hout, hb1⟩; obtain ⟨a, n, c, rfl, rfl, hown⟩ := out_some hout; clear hout; rw [World.size_alloc] at hown; have hbx : Below (w.heap.size + 1) (w.alloc (.cells #[.int .i64 0, .slice none 0 0] 29)) w1 := (by have q := hb1; rw [World.size_alloc] at q; exact q); obtain ⟨c0, f0, c1, f1, hz1⟩ := res2 hbx) | (go_at_call 67; refine (as_nil _ _).mono ?_; rintro e w2 ⟨rfl, rfl⟩))
    have hbw : Below w.heap.size w w1 := (below_alloc w _).trans (hbx.mono (Nat.le_succ _))
    refine bodyPost_ret (v := .tuple #[.agg #[.int .i64 x.op, .slice a n c], .bool true]) (by simp [results, Tryz.results89, go_sem, c0, c1, hz1]) rfl ?_
    refine ⟨_, rfl, ?_, by (repeat (first | with_reducible exact Below.refl _ _ | with_reducible assumption | with_reducible refine bl_set (by first | exact Nat.le_refl _ | (simp; done) | (simp; omega) | omega) ?_ _ | with_reducible refine bl_alloc ?_ _ | with_reducible refine bl_drewN ?_ _ | with_reducible refine bl_drew ?_ | with_reducible refine bl_grow ?_ _ _ | with_reducible refine bl_call ?_ (by assumption)))⟩
    exact Joins.ownsRow_le (((ownsRow_setCell_below (ownsRow_setCell_below hown (show w.heap.size < w.heap.size + 1 by omega) _) (show w.heap.size < w.heap.size + 1 by omega) _).alloc _).alloc _) (by omega)
end Go.Proofs.YtipdjmbgbehkaaaGreatDoor
