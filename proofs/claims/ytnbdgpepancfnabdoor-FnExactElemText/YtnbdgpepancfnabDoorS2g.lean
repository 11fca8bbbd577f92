/- Contracts of the specification's chapter 2, seventh part: ElemText. -/
import Derived.Test.YtnbdgpepancfnabDoorS2f
import Derived.Test.YtnbdgpepancfnabDoorM2d
namespace Go.Proofs.YtnbdgpepancfnabDoor
open Go.RowKit Go.Sort Go.BigFrame
theorem argsText_snoc : ∀ (l : List Stil.Dev) (x : Stil.Dev), Stil.argsText (l ++ [x]) = Stil.argsText l ++ 44 :: x.text
  | [], x => by simp [Stil.argsText]
  | y :: r, x => by simp [Stil.argsText, argsText_snoc r x]
theorem devText_len (k n p : Int) (h1 : -9223372036854775808 ≤ n) (h2 : n ≤ 9223372036854775807) : (Stil.devText k n p).length ≤ 60 := by
  unfold Stil.devText
  split
  · have hi : (Lib.itoa n).length ≤ 20 ∨ n = -9223372036854775808 := by
      by_cases hm : n = -9223372036854775808
      · exact Or.inr hm
      · left
        unfold Lib.itoa
        split
        · have := decDigits_le (n := n.natAbs) (by omega); simp; omega
        · have := decDigits_le (n := n.toNat) (by omega); omega
    rename_i hok
    split
    · rename_i h; subst h; simp [Stil.devOkB] at hok; omega
    · split
      · rename_i h; subst h
        have := devOk_dec hok
        unfold Stil.decText
        have a1 := decNat_le n.natAbs p.toNat (by omega)
        have a2 := decNat_le n.toNat p.toNat (by omega)
        split
        · simp; omega
        · omega
      · split
        · rename_i h; subst h
          have := devOk_word hok
          have hn : n = 0 ∨ n = 1 ∨ n = 2 ∨ n = 3 := by omega
          rcases hn with rfl | rfl | rfl | rfl <;> simp [Stil.words]
        · have := devOk_dev hok ‹_› ‹_› ‹_›
          simp; omega
  · simp
set_option maxHeartbeats 1000000 in
set_option maxRecDepth 100000 in
theorem s_elemText_coil (op : Int) (b o cap : Nat) (d : Stil.Dev) (r : List Stil.Dev) (w : World) (hlt : b < w.heap.size) (hl : r.length ≤ 100) (hop1 : 21 ≤ op) (hop2 : op ≤ 37)
    (hat : ∀ i (h : i < (d :: r).length), DevAt w b (o + i * 3) (d :: r)[i]) (hfit : ∀ x ∈ d :: r, x.fits) (hco : Stil.isCoil op (d :: r) = true) :
    Calls Tryd.prog 10 #[.agg #[.int .i64 op, .slice (some ⟨b, o, none⟩) (r.length + 1) cap]] w fun e w' => e = .returned (.string ⟨(Stil.elemText op (d :: r)).toArray⟩) ∧ Below w.heap.size w w' := by
  have HD : Hid (Stil.elemText op (d :: r) = Stil.elemName op ++ 58 :: d.text ++ Stil.argsText r) := by show _ = _; unfold Stil.elemText; rw [if_pos hco]
  have HV : Hid (∀ W, Below w.heap.size w W → DevsAt W (.slice (some ⟨b, o, none⟩) (r.length + 1) cap) (d :: r)) := fun W hW => ⟨_, cap, rfl, fun i hi => ⟨b, o, rfl, lt_below hlt hW, (hat i hi).below hW hlt⟩⟩
  have HA : Hid (∀ W, Below w.heap.size w W → ∀ i (h : i < (d :: r).length), DevAt W b (o + i * 3) (d :: r)[i]) := fun W hW i h => (hat i h).below hW hlt
  have HF : Hid (∀ x ∈ d :: r, x.fits) := hfit
  have HC : Hid (Stil.isCoil op (d :: r) = true) := hco
  obtain ⟨hn1, hn2⟩ := (hfit d (by simp)).2.1
  have hx := devText_len d.kind d.n d.p hn1 hn2
  have hnm : (Stil.elemName op).length ≤ 5 := by
    have ho : op = 21 ∨ op = 22 ∨ op = 23 ∨ op = 24 ∨ op = 25 ∨ op = 26 ∨ op = 27 ∨ op = 28 ∨ op = 29 ∨ op = 30 ∨ op = 31 ∨ op = 32 ∨ op = 33 ∨ op = 34 ∨ op = 35 ∨ op = 36 ∨ op = 37 := by omega
    rcases ho with rfl | rfl | rfl | rfl | rfl | rfl | rfl | rfl | rfl | rfl | rfl | rfl | rfl | rfl | rfl | rfl | rfl <;> decide
  clear hat hfit hco
  go_enter Tryd.func10, Tryd.ntmps10
  go_wp2_with (first | (go_at_call 6; refine (s_isCoil op _ (d :: r) _ (HV.out _ (by (repeat (first | exact Below.refl _ _ | assumption | refine bl_alloc ?_ _ | refine bl_drewN ?_ _ | refine bl_drew ?_ | refine bl_grow ?_ _ _ | refine bl_set (Nat.le_refl _) ?_ _ | refine bl_call ?_ (by assumption))))) HF.out (by simp; omega)).mono ?_; rw [HC.out]; rintro e w1 ⟨rfl, hb⟩))
  have hbw : Below w.heap.size w w1 := below_two hb
  have b0 : w1.cell? ⟨w.heap.size, 0, none⟩ = some (.int .i64 op) := by rw [hb.cell (p := ⟨w.heap.size, 0, none⟩) (by simp)]; simp [go_sem]
  have b1 : w1.cell? ⟨w.heap.size, 1, none⟩ = some (.slice (some ⟨b, o, none⟩) (r.length + 1) cap) := by rw [hb.cell (p := ⟨w.heap.size, 1, none⟩) (by simp)]; simp [go_sem]
  obtain ⟨c0, c1, c2⟩ := HA.out w1 hbw 0 (by simp)
  simp only [Nat.zero_mul, Nat.add_zero, List.getElem_cons_zero] at c0 c1 c2
  have r0 := cell_regrown b0
  have r1 := cell_regrown b1
  have r2 := cell_regrown c0
  have r3 := cell_regrown c1
  have r4 := cell_regrown c2
  refine wp_region_quiet_below (by kernel_rfl) (by kernel_rfl) ?_
  repeat (go_big_quiet_step ((first | exact Calls.regrown_of (s_elemName _ _ (by omega) (by omega)) | exact Calls.regrown_of (s_devText _ _ _ _ hn1 hn2))))
  refine wpQuiet_nil ?_
  intro _ hw'
  obtain ⟨⟨dq, osq⟩, hw''⟩ := hw'
  subst hw''
  clear r0 r1 r2 r3 r4 b0 b1 c0 c1 c2
  have hb2 := hb.trans ((below_regrown w1 dq osq).mono (by have := hb.size; exact this))
  clear hb hbw
  generalize grow (redrawn w1 dq) osq = W2 at hb2 ⊢
  go_wp2
  obtain ⟨p, hp⟩ : ∃ p, p = Stil.elemName op ++ 58 :: d.text := ⟨_, rfl⟩
  have hpl : p.length ≤ 70 := by rw [hp]; simp only [List.length_append, List.length_cons]; have : d.text.length ≤ 60 := hx; omega
  have HP : Hid (p = Stil.elemName op ++ 58 :: d.text) := hp
  clear hp hnm hx hn1 hn2 HC HV
  go_loopw [3, 4] (fun out i wr => ∃ (k : Nat) (t : List UInt8), k ≤ r.length ∧ i = .int .i64 ((k : Int) + 1) ∧ out = .string ⟨t.toArray⟩ ∧ t = p ++ Stil.argsText (r.take k) ∧ t.length ≤ 70 + 61 * k ∧ Below (w.heap.size + 1) (w.alloc (.cells #[.int .i64 op, .slice (some ⟨b, o, none⟩) (r.length + 1) cap] 29)) wr) (fun _ i _ => r.length + 1 - (intOf i).toNat)
  case atStart =>
    refine ⟨0, p, by omega, rfl, ?_, by simp [Stil.argsText], by omega, hb2.mono (by simp)⟩
    rw [ba_app2, ba_app, HP.out]; simp [Stil.Dev.text]
  case round =>
    clear hb2
    obtain ⟨k, t, hk, rfl, rfl, ht, htl, hB⟩ := hrel
    have HT : Hid (t = p ++ Stil.argsText (r.take k)) := ht
    clear ht
    have hz : w.heap.size < wr.heap.size := by have := hB.size; simp at this; omega
    have c0 : wr.cell? ⟨w.heap.size, 0, none⟩ = some (.int .i64 op) := by rw [hB.cell (p := ⟨w.heap.size, 0, none⟩) (by simp)]; simp [go_sem]
    have f0 : wr.frozen? ⟨w.heap.size, 0, none⟩ = false := by rw [hB.frozen (p := ⟨w.heap.size, 0, none⟩) (by simp)]; simp [go_sem]
    have c1 : wr.cell? ⟨w.heap.size, 1, none⟩ = some (.slice (some ⟨b, o, none⟩) (r.length + 1) cap) := by rw [hB.cell (p := ⟨w.heap.size, 1, none⟩) (by simp)]; simp [go_sem]
    have f1 : wr.frozen? ⟨w.heap.size, 1, none⟩ = false := by rw [hB.frozen (p := ⟨w.heap.size, 1, none⟩) (by simp)]; simp [go_sem]
    have hbw : Below w.heap.size w wr := (below_alloc _ _).trans (hB.mono (by omega))
    have hz1 : b < wr.heap.size := lt_below hlt hbw
    by_cases hkl : k < r.length
    · obtain ⟨x0, x1, x2⟩ := HA.out wr hbw (k + 1) (by simp; omega)
      simp only [List.getElem_cons_succ] at x0 x1 x2
      obtain ⟨hm1, hm2⟩ := (HF.out r[k] (by simp)).2.1
      have HR : Hid (Stil.argsText (r.take (k + 1)) = Stil.argsText (r.take k) ++ 44 :: r[k].text) := by
        show _ = _
        rw [List.take_succ_eq_append_getElem hkl, argsText_snoc]
      obtain ⟨x, hx⟩ : ∃ x, x = r[k] := ⟨_, rfl⟩
      rw [← hx] at x0 x1 x2 hm1 hm2 HR
      clear hx
      have hxl := devText_len x.kind x.n x.p hm1 hm2
      go_wp2_with (first | (go_at_call 23; refine (s_devText _ _ _ _ hm1 hm2).mono ?_; rintro e w2 ⟨rfl, hb⟩; obtain ⟨hc, hf⟩ := bcell hb; have hz0 : w.heap.size < w2.heap.size := Nat.lt_of_lt_of_le (by first | assumption | (simp; done) | (simp; omega)) hb.size; have hz1 : b < w2.heap.size := Nat.lt_of_lt_of_le (by first | assumption | (simp; done) | (simp; omega)) hb.size))
      refine ⟨⟨k + 1, t ++ 44 :: x.text, by omega, by go_num, ?_, ?_, ?_, hB.trans (hb.mono hz)⟩, by simp [intOf]; omega⟩
      · rw [ba_app2, ba_app]; simp [Stil.Dev.text]
      · rw [HT.out, HR.out]; simp
      · have : x.text.length ≤ 60 := hxl
        simp only [List.length_append, List.length_cons]; omega
    · go_wp2
      go_ret
      refine ⟨ret_string ?_, by (repeat (first | exact Below.refl _ _ | assumption | refine bl_alloc ?_ _ | refine bl_drewN ?_ _ | refine bl_drew ?_ | refine bl_grow ?_ _ _ | refine bl_set (Nat.le_refl _) ?_ _ | refine bl_call ?_ (by assumption)))⟩
      rw [HD.out, HT.out, HP.out, List.take_of_length_le (by omega)]
end Go.Proofs.YtnbdgpepancfnabDoor
