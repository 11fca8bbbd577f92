/- Contracts of the program's chapter 2: elemGuess of a text with a sign and a colon; the whole. -/
import Derived.Test.YtipdjmbgbehkaaaGreatDoorR9
namespace Go.Proofs.YtipdjmbgbehkaaaGreatDoor
open Go.RowKit Go.Sort Go.BigFrame
set_option maxHeartbeats 2000000 in
set_option maxRecDepth 100000 in
theorem i_elemGuess_sgnT (l : List UInt8) (w : World) (hr : RowsAt w) (hw : WordsAt w) (hp : PowAt w) (hL : LibAt w) (hs : l.length ≤ 1000000000) (hany : l.any Stil.isSign = true) (h58 : 58 ∈ l) (hc : Stil.findCoil (l.takeWhile (· != 58)) = 0) :
    Calls Tryz.prog 161 #[.string ⟨l.toArray⟩] w fun e w' => EOut e w w' (Stil.ieguess l) := by
  have HG : Hid (Stil.ieguess l = Stil.iof (Stil.findContact ((l.take (Stil.pastOf l)).drop (Stil.fromOf l))) [l.take (Stil.fromOf l), l.drop (Stil.pastOf l)]) := by show _ = _; unfold Stil.ieguess; rw [if_neg (by intro h; exact h.2 hc)]; unfold Stil.iother; rw [hany, if_pos rfl]
  have HC : Hid (∀ W, Below w.heap.size w W → Calls Tryz.prog 174 #[.string ⟨l.toArray⟩, .string ⟨#[58]⟩] W fun e w' => e = .returned (.tuple #[.string ⟨(l.takeWhile (· != 58)).toArray⟩, .string ⟨((l.dropWhile (· != 58)).drop 1).toArray⟩, .bool true]) ∧ Below W.heap.size W w') := fun W h => by
    have := i_cut58 l W (hL.below h) hs
    rw [if_pos h58, if_pos h58, decide_eq_true h58] at this
    exact this
  have HF : Hid (∀ W, Calls Tryz.prog 175 #[.string ⟨(l.takeWhile (· != 58)).toArray⟩, .func (.func 72) #[] #[]] W fun e w' => e = .returned (.int .i64 0) ∧ Below W.heap.size W w') := fun W => by have := i_findCoil (l.takeWhile (· != 58)) W; rw [hc] at this; exact this
  obtain ⟨nm, hnm⟩ : ∃ nm, nm = l.takeWhile (· != 58) := ⟨_, rfl⟩
  obtain ⟨rest, hrest⟩ : ∃ rest, rest = (l.dropWhile (· != 58)).drop 1 := ⟨_, rfl⟩
  rw [← hnm] at HC HF hc
  rw [← hrest] at HC
  clear hnm hrest hc h58
  obtain ⟨hfp, hpl⟩ := sign_range l hany
  have HI : Hid (∀ W, Calls Tryz.prog 178 #[.string ⟨l.toArray⟩, .func (.func 179) #[] #[]] W fun e w' => e = .returned (.int .i64 (Stil.fromOf l : Nat)) ∧ Below W.heap.size W w') := fun W => by have := i_indexFunc l W; rw [hany] at this; exact this
  have HJ : Hid (∀ W, Below w.heap.size w W → Calls Tryz.prog 180 #[.string ⟨l.toArray⟩, .func (.func 179) #[] #[]] W fun e w' => e = .returned (.int .i64 ((Stil.pastOf l : Nat) - 1)) ∧ Below W.heap.size W w') := fun W h => by have := i_lastFunc l W (hL.below h) hs; rw [hany] at this; exact this
  obtain ⟨f, hf⟩ : ∃ f, f = Stil.fromOf l := ⟨_, rfl⟩
  obtain ⟨p, hpp⟩ : ∃ p, p = Stil.pastOf l := ⟨_, rfl⟩
  rw [← hf, ← hpp] at HG hfp
  rw [← hf] at HI
  rw [← hpp] at HJ hpl
  have hx1 : (⟨l.toArray⟩ : ByteArray).extract f p = ⟨((l.take p).drop f).toArray⟩ := ba_ext l f p
  have hx2 : (⟨l.toArray⟩ : ByteArray).extract 0 f = ⟨(l.take f).toArray⟩ := ba_take l f
  have hx3 : (⟨l.toArray⟩ : ByteArray).extract p l.length = ⟨(l.drop p).toArray⟩ := ba_drop l p
  obtain ⟨mid, hm⟩ : ∃ mid, mid = (l.take p).drop f := ⟨_, rfl⟩
  obtain ⟨x, hx⟩ : ∃ x, x = l.take f := ⟨_, rfl⟩
  obtain ⟨y, hy⟩ : ∃ y, y = l.drop p := ⟨_, rfl⟩
  have hxl : x.length ≤ 1000000000 := by rw [hx]; simp; omega
  have hyl : y.length ≤ 1000000000 := by rw [hy]; simp; omega
  rw [← hm, ← hx, ← hy] at HG
  rw [← hm] at hx1
  rw [← hx] at hx2
  rw [← hy] at hx3
  have HF2 : Hid (∀ W, Calls Tryz.prog 175 #[.string ⟨mid.toArray⟩, .func (.func 70) #[] #[]] W fun e w' => e = .returned (.int .i64 (Stil.findContact mid : Nat)) ∧ Below W.heap.size W w') := fun W => i_findContact mid W
  obtain ⟨op, hop⟩ : ∃ op, op = Stil.findContact mid := ⟨_, rfl⟩
  rw [← hop] at HG HF2
  have HO : Hid (∀ W v, Below w.heap.size w W → TextsAt W v [x, y] → Calls Tryz.prog 176 #[.int .i64 op, v] W fun e w' => EOut e W w' (Stil.iof op [x, y])) := fun W v h ht => i_elemOf' op v _ W (hr.below h) (hw.below h) (hp.below h) ht (by simp) (fun z hz => by simp at hz; rcases hz with rfl | rfl; exact hxl; exact hyl)
  have hge : decide ((0 : Int) ≤ (f : Int)) = true := decide_eq_true (by omega)
  clear hr hw hp hL hany hf hpp hm hx hy hop
  go_enter Tryz.func161, Tryz.ntmps161
  go_wp2_with (first | (go_at_call 174; refine (HC.out _ (by (repeat (first | exact Below.refl _ _ | assumption | refine bl_alloc ?_ _ | refine bl_drewN ?_ _ | refine bl_drew ?_ | refine bl_grow ?_ _ _ | refine bl_set (Nat.le_refl _) ?_ _ | refine bl_call ?_ (by assumption))))).mono ?_; rintro e w1 ⟨rfl, hb1⟩) | (have _ := hdone; go_at_call 175; refine (HF2.out _).mono ?_; rintro e w8 ⟨rfl, hb8⟩) | (go_at_call 175; refine (HF.out _).mono ?_; rintro e w2 ⟨rfl, hb2⟩; have hb1 := blJ hb1 hb2) | (go_at_call 178; refine (HI.out _).mono ?_; rintro e w6 ⟨rfl, hb6⟩) | (go_at_call 180; refine (HJ.out _ (by (repeat (first | exact Below.refl _ _ | assumption | refine bl_alloc ?_ _ | refine bl_drewN ?_ _ | refine bl_drew ?_ | refine bl_grow ?_ _ _ | refine bl_set (Nat.le_refl _) ?_ _ | refine bl_call ?_ (by assumption))))).mono ?_; rintro e w7 ⟨rfl, hb7⟩))
  have hdone : True := trivial
  go_region_with (first | (go_at_call 175; refine (HF2.out _).mono ?_; rintro e w8 ⟨rfl, hb8⟩) | (go_at_call 176; refine (HO.out _ _ (by (repeat (first | exact Below.refl _ _ | assumption | refine bl_alloc ?_ _ | refine bl_drewN ?_ _ | refine bl_drew ?_ | refine bl_grow ?_ _ _ | refine bl_set (Nat.le_refl _) ?_ _ | refine bl_call ?_ (by assumption)))) (by first | exact texts_two w8 x y | exact (texts_two w7.drew x y).below hb8)).mono ?_; rintro e w4 ⟨rv, ev, rfl, hout, hb4⟩; have hout2 := eout_done hout; obtain ⟨xo, xa, xn, xc, rfl, hev⟩ := hout2; have hz8 : w.heap.size < w8.heap.size := (by have q : Below (w.alloc (.cells #[.int .i64 0, .slice none 0 0] 29)).heap.size (w.alloc (.cells #[.int .i64 0, .slice none 0 0] 29)) w8 := (by (repeat (first | exact Below.refl _ _ | assumption | refine bl_alloc ?_ _ | refine bl_drewN ?_ _ | refine bl_drew ?_ | refine bl_grow ?_ _ _ | refine bl_set (Nat.le_refl _) ?_ _ | refine bl_call ?_ (by assumption)))); have q2 := q.size; simp at q2; omega); have hbx : Below (w.heap.size + 1) (w.alloc (.cells #[.int .i64 0, .slice none 0 0] 29)) w4 := (by have q : Below (w.alloc (.cells #[.int .i64 0, .slice none 0 0] 29)).heap.size (w.alloc (.cells #[.int .i64 0, .slice none 0 0] 29)) w4 := (by (repeat (first | exact Below.refl _ _ | assumption | refine bl_alloc ?_ _ | refine bl_drewN ?_ _ | refine bl_drew ?_ | refine bl_grow ?_ _ _ | refine bl_set (Nat.le_refl _) ?_ _ | refine bl_call ?_ (by assumption)))); rw [World.size_alloc] at q; exact q); have hbw : Below w.heap.size w w4 := (by exact (below_alloc w _).trans (hbx.mono (Nat.le_succ _))); obtain ⟨c0, f0, c1, f1, hz4⟩ := res2 hbx; clear hev))
  all_goals go_wp2
  all_goals
    refine bodyPost_ret (by simp [results, Tryz.results161, go_sem, c0, c1]; rfl) rfl ?_
    rw [HG.out]
    exact eout_store hout (by first | exact hz8 | (simp; omega)) hbw
theorem head_cases (l : List UInt8) : (∃ r, l = 47 :: r) ∨ (∃ r, l = 43 :: r) ∨ (∃ r, l = 45 :: r) ∨ (Stil.headIs l 47 = false ∧ Stil.headIs l 43 = false ∧ Stil.headIs l 45 = false) := by
  cases l with
  | nil => exact Or.inr (Or.inr (Or.inr ⟨rfl, rfl, rfl⟩))
  | cons c r =>
    by_cases h1 : c = 47
    · exact Or.inl ⟨r, by rw [h1]⟩
    · by_cases h2 : c = 43
      · exact Or.inr (Or.inl ⟨r, by rw [h2]⟩)
      · by_cases h3 : c = 45
        · exact Or.inr (Or.inr (Or.inl ⟨r, by rw [h3]⟩))
        · exact Or.inr (Or.inr (Or.inr ⟨by simpa [Stil.headIs] using h1, by simpa [Stil.headIs] using h2, by simpa [Stil.headIs] using h3⟩))
theorem i_elemGuess (l : List UInt8) (w : World) (hr : RowsAt w) (hw : WordsAt w) (hp : PowAt w) (hL : LibAt w) (hs : l.length ≤ 1000000000) :
    Calls Tryz.prog 161 #[.string ⟨l.toArray⟩] w fun e w' => EOut e w w' (Stil.ieguess l) := by
  by_cases h58 : (58 : UInt8) ∈ l
  · by_cases hc : Stil.findCoil (l.takeWhile (· != 58)) = 0
    · cases ha : l.any Stil.isSign
      · rcases head_cases l with ⟨r, hl⟩ | ⟨r, hl⟩ | ⟨r, hl⟩ | ⟨h1, h2, h3⟩
        · exact i_elemGuess_shutT l w hr hw hp hL hs ha h58 hc r hl
        · exact i_elemGuess_upT l w hr hw hp hL hs ha h58 hc r hl
        · exact i_elemGuess_downT l w hr hw hp hL hs ha h58 hc r hl
        · exact i_elemGuess_openT l w hr hw hp hL hs ha h58 hc h1 h2 h3
      · exact i_elemGuess_sgnT l w hr hw hp hL hs ha h58 hc
    · exact i_elemGuess_coil l w hr hw hp hL hs h58 hc
  · cases ha : l.any Stil.isSign
    · rcases head_cases l with ⟨r, hl⟩ | ⟨r, hl⟩ | ⟨r, hl⟩ | ⟨h1, h2, h3⟩
      · exact i_elemGuess_shutF l w hr hw hp hL hs ha h58 r hl
      · exact i_elemGuess_upF l w hr hw hp hL hs ha h58 r hl
      · exact i_elemGuess_downF l w hr hw hp hL hs ha h58 r hl
      · exact i_elemGuess_openF l w hr hw hp hL hs ha h58 h1 h2 h3
    · exact i_elemGuess_sgnF l w hr hw hp hL hs ha h58
end Go.Proofs.YtipdjmbgbehkaaaGreatDoor
