/- Contracts of the program's chapter 2: elemGuess of a text with a sign. -/
import Derived.Test.YtipdjmbgbehkaaaGreatDoorGS
namespace Go.Proofs.YtipdjmbgbehkaaaGreatDoor
open Go.RowKit Go.Sort Go.BigFrame
theorem sign_range (l : List UInt8) (h : l.any Stil.isSign = true) : Stil.fromOf l < Stil.pastOf l ∧ Stil.pastOf l ≤ l.length := by
  unfold Stil.fromOf Stil.pastOf
  refine ⟨?_, by omega⟩
  obtain ⟨x, hx, hs⟩ := List.any_eq_true.1 h
  have h1 : l.findIdx Stil.isSign < l.length := List.findIdx_lt_length_of_exists ⟨x, hx, hs⟩
  have h2 : Stil.isSign l[l.findIdx Stil.isSign] = true := List.findIdx_getElem (w := h1)
  by_cases hc : l.findIdx Stil.isSign < l.length - l.reverse.findIdx Stil.isSign
  · exact hc
  · exfalso
    have h3 : l.length - 1 - l.findIdx Stil.isSign < l.reverse.findIdx Stil.isSign := by omega
    have h4 := List.not_of_lt_findIdx h3
    rw [List.getElem_reverse] at h4
    have e : l.length - 1 - (l.length - 1 - l.findIdx Stil.isSign) = l.findIdx Stil.isSign := by omega
    simp only [e] at h4
    rw [h2] at h4
    exact absurd h4 (by decide)
theorem TextsAt.below {w w' : World} {v : Value} {ts : List (List UInt8)} (h : TextsAt w v ts) (hb : Below w.heap.size w w') : TextsAt w' v ts := by
  obtain ⟨a, cap, hv, hx⟩ := h
  refine ⟨a, cap, hv, fun i hi => ?_⟩
  obtain ⟨b, o, h1, h2, h3⟩ := hx i hi
  exact ⟨b, o, h1, Nat.lt_of_lt_of_le h2 hb.size, by rw [hb.cell (p := ⟨b, o + i, none⟩) h2]; exact h3⟩
theorem texts_two (W : World) (x y : List UInt8) : TextsAt (W.alloc (.cells #[.string ⟨x.toArray⟩, .string ⟨y.toArray⟩] 9)) (.slice (some ⟨W.heap.size, 0, none⟩) 2 2) [x, y] := by
  refine ⟨_, 2, rfl, fun i hi => ⟨W.heap.size, 0, rfl, by simp, ?_⟩⟩
  have : i = 0 ∨ i = 1 := by simp at hi; omega
  rw [World.cell?_alloc_at _ _ _ _ rfl]
  rcases this with rfl | rfl <;> simp
set_option maxHeartbeats 2000000 in
set_option maxRecDepth 100000 in
theorem i_elemGuess_sgnF (l : List UInt8) (w : World) (hr : RowsAt w) (hw : WordsAt w) (hp : PowAt w) (hL : LibAt w) (hs : l.length ≤ 1000000000) (hany : l.any Stil.isSign = true) (h58 : ¬ 58 ∈ l) :
    Calls Tryz.prog 161 #[.string ⟨l.toArray⟩] w fun e w' => EOut e w w' (Stil.ieguess l) := by
  have HG : Hid (Stil.ieguess l = Stil.iof (Stil.findContact ((l.take (Stil.pastOf l)).drop (Stil.fromOf l))) [l.take (Stil.fromOf l), l.drop (Stil.pastOf l)]) := by show _ = _; unfold Stil.ieguess; rw [if_neg (by intro h; exact h58 h.1)]; unfold Stil.iother; rw [hany, if_pos rfl]
  have HC : Hid (∀ W, Below w.heap.size w W → Calls Tryz.prog 174 #[.string ⟨l.toArray⟩, .string ⟨#[58]⟩] W fun e w' => e = .returned (.tuple #[.string ⟨l.toArray⟩, .string ⟨#[]⟩, .bool false]) ∧ Below W.heap.size W w') := fun W h => by
    have := i_cut58 l W (hL.below h) hs
    rw [if_neg h58, if_neg h58, decide_eq_false h58] at this
    exact this
  clear h58
  obtain ⟨hfp, hpl⟩ := sign_range l hany
  have HI : Hid (∀ W, Calls Tryz.prog 178 #[.string ⟨l.toArray⟩, .func (.func 179) #[] #[]] W fun e w' => e = .returned (.int .i64 (Stil.fromOf l : Nat)) ∧ Below W.heap.size W w') := fun W => by have := i_indexFunc l W; rw [hany] at this; exact this
  have HJ : Hid (∀ W, Below w.heap.size w W → Calls Tryz.prog 180 #[.string ⟨l.toArray⟩, .func (.func 179) #[] #[]] W fun e w' => e = .returned (.int .i64 ((Stil.pastOf l : Nat) - 1)) ∧ Below W.heap.size W w') := fun W h => by have := i_lastFunc l W (hL.below h) hs; rw [hany] at this; exact this
  obtain ⟨f, hf⟩ : ∃ f, f = Stil.fromOf l := ⟨_, rfl⟩
  obtain ⟨p, hpp⟩ : ∃ p, p = Stil.pastOf l := ⟨_, rfl⟩
  rw [← hf, ← hpp] at HG hfp
  rw [← hf] at HI
  rw [← hpp] at HJ hpl
  have hx1 : (⟨l.toArray⟩ : ByteArray).extract f p = ⟨((l.take p).drop f).toArray⟩ := ba_ext l f p
  have hx2 : (⟨l.toArray⟩ : ByteArray).extract 0 f = ⟨(l.take f).toArray⟩ := ba_take l f
  have hx3 : (⟨l.toArray⟩ : ByteArray).extract p l.length = ⟨(l.drop p).toArray⟩ := ba_drop l p
  obtain ⟨mid, hm⟩ : ∃ mid, mid = (l.take p).drop f := ⟨_, rfl⟩
  obtain ⟨x, hx⟩ : ∃ x, x = l.take f := ⟨_, rfl⟩
  obtain ⟨y, hy⟩ : ∃ y, y = l.drop p := ⟨_, rfl⟩
  have hxl : x.length ≤ 1000000000 := by rw [hx]; simp; omega
  have hyl : y.length ≤ 1000000000 := by rw [hy]; simp; omega
  rw [← hm, ← hx, ← hy] at HG
  rw [← hm] at hx1
  rw [← hx] at hx2
  rw [← hy] at hx3
  have HF2 : Hid (∀ W, Calls Tryz.prog 175 #[.string ⟨mid.toArray⟩, .func (.func 70) #[] #[]] W fun e w' => e = .returned (.int .i64 (Stil.findContact mid : Nat)) ∧ Below W.heap.size W w') := fun W => i_findContact mid W
  obtain ⟨op, hop⟩ : ∃ op, op = Stil.findContact mid := ⟨_, rfl⟩
  rw [← hop] at HG HF2
  have HO : Hid (∀ W v, Below w.heap.size w W → TextsAt W v [x, y] → Calls Tryz.prog 176 #[.int .i64 op, v] W fun e w' => EOut e W w' (Stil.iof op [x, y])) := fun W v h ht => i_elemOf' op v _ W (hr.below h) (hw.below h) (hp.below h) ht (by simp) (fun z hz => by simp at hz; rcases hz with rfl | rfl; exact hxl; exact hyl)
  have hge : decide ((0 : Int) ≤ (f : Int)) = true := decide_eq_true (by omega)
  clear hr hw hp hL hany hf hpp hm hx hy hop
  go_enter Tryz.func161, Tryz.ntmps161
  go_wp2_with (first | (go_at_call 174; refine (HC.out _ (by (repeat (first | exact Below.refl _ _ | assumption | refine bl_alloc ?_ _ | refine bl_drewN ?_ _ | refine bl_drew ?_ | refine bl_grow ?_ _ _ | refine bl_set (Nat.le_refl _) ?_ _ | refine bl_call ?_ (by assumption))))).mono ?_; rintro e w2 ⟨rfl, hb1⟩) | (go_at_call 175; refine (HF2.out _).mono ?_; rintro e w8 ⟨rfl, hb8⟩) | (go_at_call 178; refine (HI.out _).mono ?_; rintro e w6 ⟨rfl, hb6⟩) | (go_at_call 180; refine (HJ.out _ (by (repeat (first | exact Below.refl _ _ | assumption | refine bl_alloc ?_ _ | refine bl_drewN ?_ _ | refine bl_drew ?_ | refine bl_grow ?_ _ _ | refine bl_set (Nat.le_refl _) ?_ _ | refine bl_call ?_ (by assumption))))).mono ?_; rintro e w7 ⟨rfl, hb7⟩))
  have hdone : True := trivial
  go_region_with (first | (go_at_call 175; refine (HF2.out _).mono ?_; rintro e w8 ⟨rfl, hb8⟩) | (go_at_call 176; refine (HO.out _ _ (by (repeat (first | exact Below.refl _ _ | assumption | refine bl_alloc ?_ _ | refine bl_drewN ?_ _ | refine bl_drew ?_ | refine bl_grow ?_ _ _ | refine bl_set (Nat.le_refl _) ?_ _ | refine bl_call ?_ (by assumption)))) (by first | exact texts_two w8 x y | exact (texts_two w7.drew x y).below hb8)).mono ?_; rintro e w4 ⟨rv, ev, rfl, hout, hb4⟩; have hout2 := eout_done hout; obtain ⟨xo, xa, xn, xc, rfl, hev⟩ := hout2; have hz8 : w.heap.size < w8.heap.size := (by have q : Below (w.alloc (.cells #[.int .i64 0, .slice none 0 0] 29)).heap.size (w.alloc (.cells #[.int .i64 0, .slice none 0 0] 29)) w8 := (by (repeat (first | exact Below.refl _ _ | assumption | refine bl_alloc ?_ _ | refine bl_drewN ?_ _ | refine bl_drew ?_ | refine bl_grow ?_ _ _ | refine bl_set (Nat.le_refl _) ?_ _ | refine bl_call ?_ (by assumption)))); have q2 := q.size; simp at q2; omega); have hbx : Below (w.heap.size + 1) (w.alloc (.cells #[.int .i64 0, .slice none 0 0] 29)) w4 := (by have q : Below (w.alloc (.cells #[.int .i64 0, .slice none 0 0] 29)).heap.size (w.alloc (.cells #[.int .i64 0, .slice none 0 0] 29)) w4 := (by (repeat (first | exact Below.refl _ _ | assumption | refine bl_alloc ?_ _ | refine bl_drewN ?_ _ | refine bl_drew ?_ | refine bl_grow ?_ _ _ | refine bl_set (Nat.le_refl _) ?_ _ | refine bl_call ?_ (by assumption)))); rw [World.size_alloc] at q; exact q); have hbw : Below w.heap.size w w4 := (by exact (below_alloc w _).trans (hbx.mono (Nat.le_succ _))); obtain ⟨c0, f0, c1, f1, hz4⟩ := res2 hbx; clear hev))
  all_goals go_wp2
  all_goals
    refine bodyPost_ret (by simp [results, Tryz.results161, go_sem, c0, c1]; rfl) rfl ?_
    rw [HG.out]
    exact eout_store hout (by first | exact hz8 | (simp; omega)) hbw
end Go.Proofs.YtipdjmbgbehkaaaGreatDoor
