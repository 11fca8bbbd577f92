/- S2g, S2h, S2i, S2j, S2k, S2l, L1: texts put together. -/
import Derived.Test.YtipdjmbgbehkaaaGreatDoorGB
import Derived.Lib.SmallJoins
import Derived.Deep.RegionLaw
import Derived.Deep.DeepCutAuto
set_option maxHeartbeats 4000000
set_option maxRecDepth 100000
/- Contracts of the specification's chapter 2, seventh part: ElemText. -/
namespace Go.Proofs.YtipdjmbgbehkaaaGreatDoor
open Go.RowKit Go.Sort Go.BigFrame
theorem argsText_snoc : ∀ (l : List Stil.Dev) (x : Stil.Dev), Stil.argsText (l ++ [x]) = Stil.argsText l ++ 44 :: x.text
 | [], x => by simp [Stil.argsText]
 | y :: r, x => by simp [Stil.argsText, argsText_snoc r x]
theorem devText_len (k n p : Int) (h1 : -9223372036854775808 ≤ n) (h2 : n ≤ 9223372036854775807) : (Stil.devText k n p).length ≤ 60 := by
 unfold Stil.devText
 split
 ·have hi : (Lib.itoa n).length ≤ 20 ∨ n = -9223372036854775808 := by
   by_cases hm : n = -9223372036854775808
   ·exact Or.inr hm
   ·left
    unfold Lib.itoa
    split
    ·have := decDigits_le (n := n.natAbs) (by omega); simp; omega
    ·have := decDigits_le (n := n.toNat) (by omega); omega
  rename_i hok
  split
  ·rename_i h; subst h; simp [Stil.devOkB] at hok; omega
  ·split
   ·rename_i h; subst h
    have := devOk_dec hok
    unfold Stil.decText
    have a1 := decNat_le n.natAbs p.toNat (by omega)
    have a2 := decNat_le n.toNat p.toNat (by omega)
    split
    ·simp; omega
    ·omega
   ·split
    ·rename_i h; subst h
     have := devOk_word hok
     have hn : n = 0 ∨ n = 1 ∨ n = 2 ∨ n = 3 := by omega
     rcases hn with rfl | rfl | rfl | rfl <;> simp [Stil.words]
    ·have := devOk_dev hok ‹_› ‹_› ‹_›
     simp; omega
 ·simp
theorem s_elemText_coil (op : Int) (b o cap : Nat) (d : Stil.Dev) (r : List Stil.Dev) (w : World) (hlt : b < w.heap.size) (hl : r.length ≤ 100) (hop1 : 21 ≤ op) (hop2 : op ≤ 37)
  (hat : ∀ i (h : i < (d :: r).length), DevAt w b (o + i * 3) (d :: r)[i]) (hfit : ∀ x ∈ d :: r, x.fits) (hco : Stil.isCoil op (d :: r) = true) :
  Calls Tryz.prog 50 #[.agg #[.int .i64 op, .slice (some ⟨b, o, none⟩) (r.length + 1) cap]] w fun e w' => e = .returned (.string ⟨(Stil.elemText op (d :: r)).toArray⟩) ∧ Below w.heap.size w w' := by
 have HD : Hid (Stil.elemText op (d :: r) = Stil.elemName op ++ 58 :: d.text ++ Stil.argsText r) := by show _ = _; unfold Stil.elemText; rw [if_pos hco]
 have HV : Hid (∀ W, Below w.heap.size w W → DevsAt W (.slice (some ⟨b, o, none⟩) (r.length + 1) cap) (d :: r)) := fun W hW => ⟨_, cap, rfl, fun i hi => ⟨b, o, rfl, lt_below hlt hW, (hat i hi).below hW hlt⟩⟩
 have HA : Hid (∀ W, Below w.heap.size w W → ∀ i (h : i < (d :: r).length), DevAt W b (o + i * 3) (d :: r)[i]) := fun W hW i h => (hat i h).below hW hlt
 have HF : Hid (∀ x ∈ d :: r, x.fits) := hfit
 have HC : Hid (Stil.isCoil op (d :: r) = true) := hco
 obtain ⟨hn1, hn2⟩ := (hfit d (by simp)).2.1
 have hx := devText_len d.kind d.n d.p hn1 hn2
 have hnm : (Stil.elemName op).length ≤ 5 := by
  have ho : op = 21 ∨ op = 22 ∨ op = 23 ∨ op = 24 ∨ op = 25 ∨ op = 26 ∨ op = 27 ∨ op = 28 ∨ op = 29 ∨ op = 30 ∨ op = 31 ∨ op = 32 ∨ op = 33 ∨ op = 34 ∨ op = 35 ∨ op = 36 ∨ op = 37 := by omega
  rcases ho with rfl | rfl | rfl | rfl | rfl | rfl | rfl | rfl | rfl | rfl | rfl | rfl | rfl | rfl | rfl | rfl | rfl <;> decide
 clear hat hfit hco
 go_enter Tryz.func50, Tryz.ntmps50
 go_wp2_with (first | (go_at_call 30; refine (s_isCoil op _ (d :: r) _ (HV.out _ blB) HF.out (by simp; omega)).mono ?_; rw [HC.out]; rintro e w1 ⟨rfl, hb⟩))
 have hbw : Below w.heap.size w w1 := below_two hb
 have b0 : w1.cell? ⟨w.heap.size, 0, none⟩ = some (.int .i64 op) := clA hb
 have b1 : w1.cell? ⟨w.heap.size, 1, none⟩ = some (.slice (some ⟨b, o, none⟩) (r.length + 1) cap) := clA hb
 obtain ⟨c0, c1, c2⟩ := HA.out w1 hbw 0 (by simp)
 simp only [Nat.zero_mul, Nat.add_zero, List.getElem_cons_zero] at c0 c1 c2
 have r0 := cell_regrown b0
 have r1 := cell_regrown b1
 have r2 := cell_regrown c0
 have r3 := cell_regrown c1
 have r4 := cell_regrown c2
 refine wp_region_quiet_below (by kernel_rfl) (by kernel_rfl) ?_
 repeat (go_big_quiet_step ((first | exact Calls.regrown_of (s_elemName _ _ (by omega) (by omega)) | exact Calls.regrown_of (s_devText _ _ _ _ hn1 hn2))))
 refine wpQuiet_nil ?_
 intro _ hw'
 obtain ⟨⟨dq, osq⟩, hw''⟩ := hw'
 subst hw''
 clear r0 r1 r2 r3 r4 b0 b1 c0 c1 c2
 have hb2 := hb.trans ((below_regrown w1 dq osq).mono (by have := hb.size; exact this))
 clear hb hbw
 generalize grow (redrawn w1 dq) osq = W2 at hb2 ⊢
 go_wp2
 obtain ⟨p, hp⟩ : ∃ p, p = Stil.elemName op ++ 58 :: d.text := ⟨_, rfl⟩
 have hpl : p.length ≤ 70 := by rw [hp]; simp only [List.length_append, List.length_cons]; have : d.text.length ≤ 60 := hx; omega
 have HP : Hid (p = Stil.elemName op ++ 58 :: d.text) := hp
 clear hp hnm hx hn1 hn2 HC HV
 go_loopw [3, 4] (fun out i wr => ∃ (k : Nat) (t : List UInt8), k ≤ r.length ∧ i = .int .i64 ((k : Int) + 1) ∧ out = .string ⟨t.toArray⟩ ∧ t = p ++ Stil.argsText (r.take k) ∧ t.length ≤ 70 + 61 * k ∧ Below (w.heap.size + 1) (w.alloc (.cells #[.int .i64 op, .slice (some ⟨b, o, none⟩) (r.length + 1) cap] 29)) wr) (fun _ i _ => r.length + 1 - (intOf i).toNat)
 case atStart =>
  refine ⟨0, p, by omega, rfl, ?_, by simp [Stil.argsText], by omega, hb2.mono (by simp)⟩
  rw [ba_app2, ba_app, HP.out]; simp [Stil.Dev.text]
 case round =>
  clear hb2
  obtain ⟨k, t, hk, rfl, rfl, ht, htl, hB⟩ := hrel
  have HT : Hid (t = p ++ Stil.argsText (r.take k)) := ht
  clear ht
  have hz : w.heap.size < wr.heap.size := by have := hB.size; simp at this; omega
  have c0 : wr.cell? ⟨w.heap.size, 0, none⟩ = some (.int .i64 op) := clA hB
  have f0 : wr.frozen? ⟨w.heap.size, 0, none⟩ = false := frA hB
  have c1 : wr.cell? ⟨w.heap.size, 1, none⟩ = some (.slice (some ⟨b, o, none⟩) (r.length + 1) cap) := clA hB
  have f1 : wr.frozen? ⟨w.heap.size, 1, none⟩ = false := frA hB
  have hbw : Below w.heap.size w wr := (below_alloc _ _).trans (hB.mono (by omega))
  have hz1 : b < wr.heap.size := lt_below hlt hbw
  by_cases hkl : k < r.length
  ·obtain ⟨x0, x1, x2⟩ := HA.out wr hbw (k + 1) (by simp; omega)
   simp only [List.getElem_cons_succ] at x0 x1 x2
   obtain ⟨hm1, hm2⟩ := (HF.out r[k] (by simp)).2.1
   have HR : Hid (Stil.argsText (r.take (k + 1)) = Stil.argsText (r.take k) ++ 44 :: r[k].text) := by
    show _ = _
    rw [List.take_succ_eq_append_getElem hkl, argsText_snoc]
   obtain ⟨x, hx⟩ : ∃ x, x = r[k] := ⟨_, rfl⟩
   rw [← hx] at x0 x1 x2 hm1 hm2 HR
   clear hx
   have hxl := devText_len x.kind x.n x.p hm1 hm2
   go_wp2_with (first | (go_at_call 79; refine (s_devText _ _ _ _ hm1 hm2).mono ?_; rintro e w2 ⟨rfl, hb⟩; obtain ⟨hc, hf⟩ := bcell hb; have hz0 : w.heap.size < w2.heap.size := Nat.lt_of_lt_of_le (by first | assumption | (simp; done) | (simp; omega)) hb.size; have hz1 : b < w2.heap.size := Nat.lt_of_lt_of_le (by first | assumption | (simp; done) | (simp; omega)) hb.size))
   refine ⟨⟨k + 1, t ++ 44 :: x.text, by omega, by go_num, ?_, ?_, ?_, hB.trans (hb.mono hz)⟩, by simp [intOf]; omega⟩
   ·rw [ba_app2, ba_app]; simp [Stil.Dev.text]
   ·rw [HT.out, HR.out]; simp
   ·have : x.text.length ≤ 60 := hxl
    simp only [List.length_append, List.length_cons]; omega
  ·go_wp2
   go_ret
   refine ⟨ret_string ?_, blB⟩
   rw [HD.out, HT.out, HP.out, List.take_of_length_le (by omega)]
theorem s_elemText_none (op : Int) (v : Value) (ds : List Stil.Dev) (w : World) (hat : DevsAt w v ds) (hfit : ∀ d ∈ ds, d.fits) (hl : ds.length ≤ 9223372036854775807) (hco : Stil.isCoil op ds = false) (hct : Stil.isContact op ds = false) :
  Calls Tryz.prog 50 #[.agg #[.int .i64 op, v]] w fun e w' => e = .returned (.string ⟨(Stil.elemText op ds).toArray⟩) ∧ Below w.heap.size w w' := by
 have HD : Hid (Stil.elemText op ds = []) := by show _ = _; unfold Stil.elemText; rw [hco, hct]; rfl
 have HV : Hid (∀ W, Below w.heap.size w W → DevsAt W v ds) := fun W hW => hat.below hW
 have HF : Hid (∀ x ∈ ds, x.fits) := hfit
 have HC : Hid (Stil.isCoil op ds = false) := hco
 have HK : Hid (Stil.isContact op ds = false) := hct
 obtain ⟨a, cap, rfl, _⟩ := hat
 clear hfit hco hct
 go_enter Tryz.func50, Tryz.ntmps50
 go_wp2_with (first | (go_at_call 30; refine (s_isCoil op _ ds _ (HV.out _ blB) HF.out (by exact hl)).mono ?_; rw [HC.out]; rintro e w1 ⟨rfl, hb⟩; obtain ⟨hc, hf⟩ := bcell hb; have hz0 : w.heap.size < w1.heap.size := Nat.lt_of_lt_of_le (by first | assumption | (simp; done) | (simp; omega)) hb.size) | (go_at_call 29; refine (s_isContact op _ ds _ (HV.out _ blB) HF.out (by exact hl)).mono ?_; rw [HK.out]; rintro e w2 ⟨rfl, hb2⟩; obtain ⟨hc2, hf2⟩ := bcell hb2; have hz2 : w.heap.size < w2.heap.size := Nat.lt_of_lt_of_le (by first | assumption | (simp; done) | (simp; omega)) hb2.size))
 go_ret
 exact ⟨ret_string (by rw [HD.out]), blB⟩
theorem s_elemText_open (v : Value) (d : Stil.Dev) (w : World) (hat : DevsAt w v [d]) (hfit : ∀ x ∈ [d], x.fits) (hco : Stil.isCoil 1 [d] = false) (hct : Stil.isContact 1 [d] = true) :
  Calls Tryz.prog 50 #[.agg #[.int .i64 1, v]] w fun e w' => e = .returned (.string ⟨(Stil.elemText 1 [d]).toArray⟩) ∧ Below w.heap.size w w' := by
 have HD : Hid (Stil.elemText 1 [d] = d.text) := by show _ = _; unfold Stil.elemText; rw [hco, hct]; simp
 have HV : Hid (∀ W, Below w.heap.size w W → DevsAt W v [d]) := fun W hW => hat.below hW
 have HF : Hid (∀ x ∈ [d], x.fits) := hfit
 have HC : Hid (Stil.isCoil 1 [d] = false) := hco
 have HK : Hid (Stil.isContact 1 [d] = true) := hct
 obtain ⟨b, o, cap, rfl, hlt, c0, c1, c2⟩ := hat.one
 obtain ⟨hn1, hn2⟩ := (hfit d (by simp)).2.1
 have hx := devText_len d.kind d.n d.p hn1 hn2
 have hlt1 : b < w.heap.size + 1 := by omega
 clear hat hfit hco hct
 go_enter Tryz.func50, Tryz.ntmps50
 go_wp2_with (first | (go_at_call 30; refine (s_isCoil 1 _ [d] _ (HV.out _ blB) HF.out (by simp)).mono ?_; rw [HC.out]; rintro e w1 ⟨rfl, hb⟩; obtain ⟨hc, hf⟩ := bcell hb; have hz0 : w.heap.size < w1.heap.size := Nat.lt_of_lt_of_le (by first | assumption | (simp; done) | (simp; omega)) hb.size; have hz1 : b < w1.heap.size := Nat.lt_of_lt_of_le (by first | assumption | (simp; done) | (simp; omega)) hb.size) | (go_at_call 29; refine (s_isContact 1 _ [d] _ (HV.out _ blB) HF.out (by simp)).mono ?_; rw [HK.out]; rintro e w2 ⟨rfl, hb2⟩; obtain ⟨hc2, hf2⟩ := bcell hb2; have hz2 : w.heap.size < w2.heap.size := Nat.lt_of_lt_of_le (by first | assumption | (simp; done) | (simp; omega)) hb2.size; have hz3 : b < w2.heap.size := Nat.lt_of_lt_of_le (by first | assumption | (simp; done) | (simp; omega)) hb2.size) | (go_at_call 79; refine (s_devText _ _ _ _ hn1 hn2).mono ?_; rintro e w3 ⟨rfl, hb⟩; obtain ⟨hc, hf⟩ := bcell hb; have hz0 : w.heap.size < w3.heap.size := Nat.lt_of_lt_of_le (by first | assumption | (simp; done) | (simp; omega)) hb.size; have hz1 : b < w3.heap.size := Nat.lt_of_lt_of_le (by first | assumption | (simp; done) | (simp; omega)) hb.size))
 go_ret
 exact ⟨ret_string (by rw [HD.out]; rfl), blB⟩
theorem s_elemText_shut (v : Value) (d : Stil.Dev) (w : World) (hat : DevsAt w v [d]) (hfit : ∀ x ∈ [d], x.fits) (hco : Stil.isCoil 2 [d] = false) (hct : Stil.isContact 2 [d] = true) :
  Calls Tryz.prog 50 #[.agg #[.int .i64 2, v]] w fun e w' => e = .returned (.string ⟨(Stil.elemText 2 [d]).toArray⟩) ∧ Below w.heap.size w w' := by
 have HD : Hid (Stil.elemText 2 [d] = 47 :: d.text) := by show _ = _; unfold Stil.elemText; rw [hco, hct]; simp
 have HV : Hid (∀ W, Below w.heap.size w W → DevsAt W v [d]) := fun W hW => hat.below hW
 have HF : Hid (∀ x ∈ [d], x.fits) := hfit
 have HC : Hid (Stil.isCoil 2 [d] = false) := hco
 have HK : Hid (Stil.isContact 2 [d] = true) := hct
 obtain ⟨b, o, cap, rfl, hlt, c0, c1, c2⟩ := hat.one
 obtain ⟨hn1, hn2⟩ := (hfit d (by simp)).2.1
 have hx := devText_len d.kind d.n d.p hn1 hn2
 have hlt1 : b < w.heap.size + 1 := by omega
 clear hat hfit hco hct
 go_enter Tryz.func50, Tryz.ntmps50
 go_wp2_with (first | (go_at_call 30; refine (s_isCoil 2 _ [d] _ (HV.out _ blB) HF.out (by simp)).mono ?_; rw [HC.out]; rintro e w1 ⟨rfl, hb⟩; obtain ⟨hc, hf⟩ := bcell hb; have hz0 : w.heap.size < w1.heap.size := Nat.lt_of_lt_of_le (by first | assumption | (simp; done) | (simp; omega)) hb.size; have hz1 : b < w1.heap.size := Nat.lt_of_lt_of_le (by first | assumption | (simp; done) | (simp; omega)) hb.size) | (go_at_call 29; refine (s_isContact 2 _ [d] _ (HV.out _ blB) HF.out (by simp)).mono ?_; rw [HK.out]; rintro e w2 ⟨rfl, hb2⟩; obtain ⟨hc2, hf2⟩ := bcell hb2; have hz2 : w.heap.size < w2.heap.size := Nat.lt_of_lt_of_le (by first | assumption | (simp; done) | (simp; omega)) hb2.size; have hz3 : b < w2.heap.size := Nat.lt_of_lt_of_le (by first | assumption | (simp; done) | (simp; omega)) hb2.size) | (go_at_call 79; refine (s_devText _ _ _ _ hn1 hn2).mono ?_; rintro e w3 ⟨rfl, hb⟩; obtain ⟨hc, hf⟩ := bcell hb; have hz0 : w.heap.size < w3.heap.size := Nat.lt_of_lt_of_le (by first | assumption | (simp; done) | (simp; omega)) hb.size; have hz1 : b < w3.heap.size := Nat.lt_of_lt_of_le (by first | assumption | (simp; done) | (simp; omega)) hb.size))
 go_ret
 exact ⟨ret_string (by rw [HD.out]; exact ba_app1 _ _), blB⟩
theorem s_elemText_up (v : Value) (d f : Stil.Dev) (w : World) (hat : DevsAt w v [d, f]) (hfit : ∀ x ∈ [d, f], x.fits) (hco : Stil.isCoil 3 [d, f] = false) (hct : Stil.isContact 3 [d, f] = true) :
  Calls Tryz.prog 50 #[.agg #[.int .i64 3, v]] w fun e w' => e = .returned (.string ⟨(Stil.elemText 3 [d, f]).toArray⟩) ∧ Below w.heap.size w w' := by
 have HD : Hid (Stil.elemText 3 [d, f] = 43 :: d.text ++ 58 :: f.text) := by show _ = _; unfold Stil.elemText; rw [hco, hct]; simp
 have HV : Hid (∀ W, Below w.heap.size w W → DevsAt W v [d, f]) := fun W hW => hat.below hW
 have HF : Hid (∀ x ∈ [d, f], x.fits) := hfit
 have HC : Hid (Stil.isCoil 3 [d, f] = false) := hco
 have HK : Hid (Stil.isContact 3 [d, f] = true) := hct
 obtain ⟨b, o, cap, rfl, hlt, ⟨c0, c1, c2⟩, ⟨e0, e1, e2⟩⟩ := hat.two
 obtain ⟨hn1, hn2⟩ := (hfit d (by simp)).2.1
 obtain ⟨hm1, hm2⟩ := (hfit f (by simp)).2.1
 have hx := devText_len d.kind d.n d.p hn1 hn2
 have hy := devText_len f.kind f.n f.p hm1 hm2
 have hlt1 : b < w.heap.size + 1 := by omega
 clear hat hfit hco hct
 go_enter Tryz.func50, Tryz.ntmps50
 go_wp2_with (first | (go_at_call 30; refine (s_isCoil 3 _ [d, f] _ (HV.out _ blB) HF.out (by simp)).mono ?_; rw [HC.out]; rintro e w1 ⟨rfl, hb⟩; obtain ⟨hc, hf⟩ := bcell hb; have hz0 : w.heap.size < w1.heap.size := Nat.lt_of_lt_of_le (by first | assumption | (simp; done) | (simp; omega)) hb.size; have hz1 : b < w1.heap.size := Nat.lt_of_lt_of_le (by first | assumption | (simp; done) | (simp; omega)) hb.size) | (go_at_call 29; refine (s_isContact 3 _ [d, f] _ (HV.out _ blB) HF.out (by simp)).mono ?_; rw [HK.out]; rintro e w2 ⟨rfl, hb2⟩; obtain ⟨hc2, hf2⟩ := bcell hb2; have hz2 : w.heap.size < w2.heap.size := Nat.lt_of_lt_of_le (by first | assumption | (simp; done) | (simp; omega)) hb2.size; have hz3 : b < w2.heap.size := Nat.lt_of_lt_of_le (by first | assumption | (simp; done) | (simp; omega)) hb2.size))
 have q0 : w2.cell? ⟨w.heap.size, 0, none⟩ = some (.int .i64 3) := by rw [hc2 _ _ hz0, hc _ _ (by simp)]; simp [go_sem]
 have q1 : w2.cell? ⟨w.heap.size, 1, none⟩ = some (.slice (some ⟨b, o, none⟩) 2 cap) := by rw [hc2 _ _ hz0, hc _ _ (by simp)]; simp [go_sem]
 have hbw : Below w.heap.size w w2 := blB
 have r0 := cell_regrown q0
 have r1 := cell_regrown q1
 have r2 := cell_regrown (cell_later hbw c0)
 have r3 := cell_regrown (cell_later hbw c1)
 have r4 := cell_regrown (cell_later hbw c2)
 have r5 := cell_regrown (cell_later hbw e0)
 have r6 := cell_regrown (cell_later hbw e1)
 have r7 := cell_regrown (cell_later hbw e2)
 clear hc hf hc2 hf2
 refine wp_region_quiet_below (by kernel_rfl) (by kernel_rfl) ?_
 repeat (go_big_quiet_step ((first | exact Calls.regrown_of (s_devText _ _ _ _ (by assumption) (by assumption)) | exact Calls.regrown_of (s_sign _ _ (by omega) (by omega)))))
 refine wpQuiet_nil ?_
 intro _ hw'
 obtain ⟨⟨dq, osq⟩, hw''⟩ := hw'
 subst hw''
 go_wp2
 go_ret
 exact ⟨ret_string (by rw [HD.out]; rw [ba_app1, ba_app2, ba_app]; simp [Stil.Dev.text]), blB⟩
theorem s_elemText_down (v : Value) (d f : Stil.Dev) (w : World) (hat : DevsAt w v [d, f]) (hfit : ∀ x ∈ [d, f], x.fits) (hco : Stil.isCoil 4 [d, f] = false) (hct : Stil.isContact 4 [d, f] = true) :
  Calls Tryz.prog 50 #[.agg #[.int .i64 4, v]] w fun e w' => e = .returned (.string ⟨(Stil.elemText 4 [d, f]).toArray⟩) ∧ Below w.heap.size w w' := by
 have HD : Hid (Stil.elemText 4 [d, f] = 45 :: d.text ++ 58 :: f.text) := by show _ = _; unfold Stil.elemText; rw [hco, hct]; simp
 have HV : Hid (∀ W, Below w.heap.size w W → DevsAt W v [d, f]) := fun W hW => hat.below hW
 have HF : Hid (∀ x ∈ [d, f], x.fits) := hfit
 have HC : Hid (Stil.isCoil 4 [d, f] = false) := hco
 have HK : Hid (Stil.isContact 4 [d, f] = true) := hct
 obtain ⟨b, o, cap, rfl, hlt, ⟨c0, c1, c2⟩, ⟨e0, e1, e2⟩⟩ := hat.two
 obtain ⟨hn1, hn2⟩ := (hfit d (by simp)).2.1
 obtain ⟨hm1, hm2⟩ := (hfit f (by simp)).2.1
 have hx := devText_len d.kind d.n d.p hn1 hn2
 have hy := devText_len f.kind f.n f.p hm1 hm2
 have hlt1 : b < w.heap.size + 1 := by omega
 clear hat hfit hco hct
 go_enter Tryz.func50, Tryz.ntmps50
 go_wp2_with (first | (go_at_call 30; refine (s_isCoil 4 _ [d, f] _ (HV.out _ blB) HF.out (by simp)).mono ?_; rw [HC.out]; rintro e w1 ⟨rfl, hb⟩; obtain ⟨hc, hf⟩ := bcell hb; have hz0 : w.heap.size < w1.heap.size := Nat.lt_of_lt_of_le (by first | assumption | (simp; done) | (simp; omega)) hb.size; have hz1 : b < w1.heap.size := Nat.lt_of_lt_of_le (by first | assumption | (simp; done) | (simp; omega)) hb.size) | (go_at_call 29; refine (s_isContact 4 _ [d, f] _ (HV.out _ blB) HF.out (by simp)).mono ?_; rw [HK.out]; rintro e w2 ⟨rfl, hb2⟩; obtain ⟨hc2, hf2⟩ := bcell hb2; have hz2 : w.heap.size < w2.heap.size := Nat.lt_of_lt_of_le (by first | assumption | (simp; done) | (simp; omega)) hb2.size; have hz3 : b < w2.heap.size := Nat.lt_of_lt_of_le (by first | assumption | (simp; done) | (simp; omega)) hb2.size))
 have q0 : w2.cell? ⟨w.heap.size, 0, none⟩ = some (.int .i64 4) := by rw [hc2 _ _ hz0, hc _ _ (by simp)]; simp [go_sem]
 have q1 : w2.cell? ⟨w.heap.size, 1, none⟩ = some (.slice (some ⟨b, o, none⟩) 2 cap) := by rw [hc2 _ _ hz0, hc _ _ (by simp)]; simp [go_sem]
 have hbw : Below w.heap.size w w2 := blB
 have r0 := cell_regrown q0
 have r1 := cell_regrown q1
 have r2 := cell_regrown (cell_later hbw c0)
 have r3 := cell_regrown (cell_later hbw c1)
 have r4 := cell_regrown (cell_later hbw c2)
 have r5 := cell_regrown (cell_later hbw e0)
 have r6 := cell_regrown (cell_later hbw e1)
 have r7 := cell_regrown (cell_later hbw e2)
 clear hc hf hc2 hf2
 refine wp_region_quiet_below (by kernel_rfl) (by kernel_rfl) ?_
 repeat (go_big_quiet_step ((first | exact Calls.regrown_of (s_devText _ _ _ _ (by assumption) (by assumption)) | exact Calls.regrown_of (s_sign _ _ (by omega) (by omega)))))
 refine wpQuiet_nil ?_
 intro _ hw'
 obtain ⟨⟨dq, osq⟩, hw''⟩ := hw'
 subst hw''
 go_wp2
 go_ret
 exact ⟨ret_string (by rw [HD.out]; rw [ba_app1, ba_app2, ba_app]; simp [Stil.Dev.text]), blB⟩
theorem s_elemText_cmp (op : Int) (v : Value) (d f : Stil.Dev) (w : World) (h1 : 5 ≤ op) (h2 : op ≤ 10) (hat : DevsAt w v [d, f]) (hfit : ∀ x ∈ [d, f], x.fits) (hco : Stil.isCoil op [d, f] = false) (hct : Stil.isContact op [d, f] = true) :
  Calls Tryz.prog 50 #[.agg #[.int .i64 op, v]] w fun e w' => e = .returned (.string ⟨(Stil.elemText op [d, f]).toArray⟩) ∧ Below w.heap.size w w' := by
 have HD : Hid (Stil.elemText op [d, f] = d.text ++ Stil.sign op ++ f.text) := by show _ = _; unfold Stil.elemText; rw [hco, hct]; simp [show ¬ op = 3 from by omega, show ¬ op = 4 from by omega]
 have HV : Hid (∀ W, Below w.heap.size w W → DevsAt W v [d, f]) := fun W hW => hat.below hW
 have HF : Hid (∀ x ∈ [d, f], x.fits) := hfit
 have HC : Hid (Stil.isCoil op [d, f] = false) := hco
 have HK : Hid (Stil.isContact op [d, f] = true) := hct
 obtain ⟨b, o, cap, rfl, hlt, ⟨c0, c1, c2⟩, ⟨e0, e1, e2⟩⟩ := hat.two
 obtain ⟨hn1, hn2⟩ := (hfit d (by simp)).2.1
 obtain ⟨hm1, hm2⟩ := (hfit f (by simp)).2.1
 have hx := devText_len d.kind d.n d.p hn1 hn2
 have hy := devText_len f.kind f.n f.p hm1 hm2
 have hlt1 : b < w.heap.size + 1 := by omega
 have hs : (Stil.sign op).length ≤ 2 := by
  have ho : op = 5 ∨ op = 6 ∨ op = 7 ∨ op = 8 ∨ op = 9 ∨ op = 10 := by omega
  rcases ho with rfl | rfl | rfl | rfl | rfl | rfl <;> decide
 have n1 : (op == 1) = false := by rw [beq_eq_false_iff_ne]; omega
 have n2 : (op == 2) = false := by rw [beq_eq_false_iff_ne]; omega
 have n3 : (op == 3) = false := by rw [beq_eq_false_iff_ne]; omega
 have n4 : (op == 4) = false := by rw [beq_eq_false_iff_ne]; omega
 clear hat hfit hco hct
 go_enter Tryz.func50, Tryz.ntmps50
 go_wp2_with (first | (go_at_call 30; refine (s_isCoil op _ [d, f] _ (HV.out _ blB) HF.out (by simp)).mono ?_; rw [HC.out]; rintro e w1 ⟨rfl, hb⟩; obtain ⟨hc, hf⟩ := bcell hb; have hz0 : w.heap.size < w1.heap.size := Nat.lt_of_lt_of_le (by first | assumption | (simp; done) | (simp; omega)) hb.size; have hz1 : b < w1.heap.size := Nat.lt_of_lt_of_le (by first | assumption | (simp; done) | (simp; omega)) hb.size) | (go_at_call 29; refine (s_isContact op _ [d, f] _ (HV.out _ blB) HF.out (by simp)).mono ?_; rw [HK.out]; rintro e w2 ⟨rfl, hb2⟩; obtain ⟨hc2, hf2⟩ := bcell hb2; have hz2 : w.heap.size < w2.heap.size := Nat.lt_of_lt_of_le (by first | assumption | (simp; done) | (simp; omega)) hb2.size; have hz3 : b < w2.heap.size := Nat.lt_of_lt_of_le (by first | assumption | (simp; done) | (simp; omega)) hb2.size))
 have q0 : w2.cell? ⟨w.heap.size, 0, none⟩ = some (.int .i64 op) := by rw [hc2 _ _ hz0, hc _ _ (by simp)]; simp [go_sem]
 have q1 : w2.cell? ⟨w.heap.size, 1, none⟩ = some (.slice (some ⟨b, o, none⟩) 2 cap) := by rw [hc2 _ _ hz0, hc _ _ (by simp)]; simp [go_sem]
 have hbw : Below w.heap.size w w2 := blB
 have r0 := cell_regrown q0
 have r1 := cell_regrown q1
 have r2 := cell_regrown (cell_later hbw c0)
 have r3 := cell_regrown (cell_later hbw c1)
 have r4 := cell_regrown (cell_later hbw c2)
 have r5 := cell_regrown (cell_later hbw e0)
 have r6 := cell_regrown (cell_later hbw e1)
 have r7 := cell_regrown (cell_later hbw e2)
 clear hc hf hc2 hf2
 refine wp_region_quiet_below (by kernel_rfl) (by kernel_rfl) ?_
 repeat (go_big_quiet_step ((first | exact Calls.regrown_of (s_devText _ _ _ _ (by assumption) (by assumption)) | exact Calls.regrown_of (s_sign _ _ (by omega) (by omega)))))
 refine wpQuiet_nil ?_
 intro _ hw'
 obtain ⟨⟨dq, osq⟩, hw''⟩ := hw'
 subst hw''
 go_wp2
 go_ret
 exact ⟨ret_string (by rw [HD.out]; rw [ba_app, ba_app]; simp [Stil.Dev.text]), blB⟩
theorem s_elemText (op : Int) (v : Value) (ds : List Stil.Dev) (w : World) (hat : DevsAt w v ds) (hfit : ∀ d ∈ ds, d.fits) (hl : ds.length ≤ 9223372036854775807) :
  Calls Tryz.prog 50 #[.agg #[.int .i64 op, v]] w fun e w' => e = .returned (.string ⟨(Stil.elemText op ds).toArray⟩) ∧ Below w.heap.size w w' := by
 cases hco : Stil.isCoil op ds
 ·cases hct : Stil.isContact op ds
  ·exact s_elemText_none op v ds w hat hfit hl hco hct
  ·have h1 : ¬ (op < 1 ∨ 10 < op) := by
    intro h; unfold Stil.isContact at hct; rw [if_pos h] at hct; cases hct
   match ds, hat, hfit, hco, hct with
   | [], _, _, _, hct => unfold Stil.isContact at hct; rw [if_neg h1] at hct; cases hct
   | [d], hat, hfit, hco, hct =>
    have h2 : op ≤ 2 := by
     unfold Stil.isContact at hct; rw [if_neg h1] at hct; simp at hct; exact hct.1
    have ho : op = 1 ∨ op = 2 := by omega
    rcases ho with rfl | rfl
    ·exact s_elemText_open v d w hat hfit hco hct
    ·exact s_elemText_shut v d w hat hfit hco hct
   | [d, f], hat, hfit, hco, hct =>
    have h2 : ¬ op ≤ 2 := by
     intro h; unfold Stil.isContact at hct; rw [if_neg h1] at hct; simp [h] at hct
    by_cases h3 : op = 3
    ·subst h3; exact s_elemText_up v d f w hat hfit hco hct
    ·by_cases h4 : op = 4
     ·subst h4; exact s_elemText_down v d f w hat hfit hco hct
     ·exact s_elemText_cmp op v d f w (by omega) (by omega) hat hfit hco hct
   | d :: f :: g :: r, _, _, _, hct => unfold Stil.isContact at hct; rw [if_neg h1] at hct; cases hct
 ·have h1 : ¬ (op < 21 ∨ 37 < op ∨ (ds.length : Int) ≠ Stil.arity op) := by
   intro h; unfold Stil.isCoil at hco; rw [if_pos h] at hco; cases hco
  have h2 : Stil.arity op ≤ 3 ∧ 1 ≤ Stil.arity op := by
   rcases arity_cases (op := op) (by omega) (by omega) with ⟨a, _⟩ | ⟨a, _⟩ | ⟨a, _⟩ <;> omega
  match ds, hat, hfit, hco, h1 with
  | [], _, _, _, h1 => simp at h1; omega
  | d :: r, hat, hfit, hco, h1 =>
   obtain ⟨b, o, cap, rfl, hlt, hd⟩ := hat.cons
   exact s_elemText_coil op b o cap d r w hlt (by simp at h1; omega) (by omega) (by omega) hd hfit hco
theorem info_string : (Tryz.prog.info? 9).map (fun i => (i.zero, i.size, i.bytes)) = some (some (.string ⟨#[]⟩), 1, 16) := by kernel_rfl
theorem info_dev : (Tryz.prog.info? 74).map (fun i => (i.zero, i.size, i.bytes)) = some (some (.agg #[.int .i64 0, .int .i64 0, .int .i64 0]), 3, 24) := by kernel_rfl
def strV (l : List UInt8) : Value := .string ⟨l.toArray⟩
theorem slice_mid (l : List UInt8) (a b : Nat) : (⟨l.toArray⟩ : ByteArray).extract a b = ⟨((l.take b).drop a).toArray⟩ := ba_ext l a b
theorem piece_end {c : UInt8} {l : List UInt8} {f : Nat} (h : ∀ j (hj : j < l.length), f ≤ j → l[j] ≠ c) : Stil.cut c (l.drop f) = [l.drop f] := by
 refine Stil.cut_none c _ fun x hx => ?_
 obtain ⟨i, hi, rfl⟩ := List.getElem_of_mem hx
 rw [List.getElem_drop]
 exact h (f + i) (by simp at hi; omega) (by omega)
theorem piece_at {c : UInt8} {l : List UInt8} {f k : Nat} (hf : f ≤ k) (hk : k < l.length) (h : ∀ j (hj : j < k), f ≤ j → l[j] ≠ c) (hc : l[k] = c) : Stil.cut c (l.drop f) = (l.take k).drop f :: Stil.cut c (l.drop (k + 1)) := by
 have e : l.drop f = (l.take k).drop f ++ c :: l.drop (k + 1) := by
  have h1 : l = l.take k ++ l[k] :: l.drop (k + 1) := by rw [← List.drop_eq_getElem_cons hk, List.take_append_drop]
  have h2 : l.drop f = (l.take k ++ l[k] :: l.drop (k + 1)).drop f := by rw [← h1]
  rw [h2, List.drop_append_of_le_length (by simp; omega), hc]
 rw [e]
 refine Stil.cut_at c _ _ fun x hx => ?_
 obtain ⟨i, hi, rfl⟩ := List.getElem_of_mem hx
 simp only [List.getElem_drop, List.getElem_take]
 simp at hi
 exact h (f + i) (by omega) (by omega)
theorem s_cut (l : List UInt8) (c : UInt8) (w : World) (hs : l.length ≤ 1000000000) :
  Calls Tryz.prog 39 #[.string ⟨l.toArray⟩, .int .u8 c.toNat] w fun e w' => ∃ v, e = .returned v ∧ w'.ownsRow w.heap.size 9 1 v (Stil.cut c l).length ((Stil.cut c l).map strV) ∧ Below w.heap.size w w' := by
 obtain ⟨i0, hi, hz0, hz1, hz2⟩ := info_parts info_string
 go_enter Tryz.func39, Tryz.ntmps39
 go_wp2
 go_loopw [5, 6, 7] (fun v fr i wr => ∃ (k f : Nat) (ps : List (List UInt8)), k ≤ l.length + 1 ∧ f ≤ k ∧ ps.length ≤ k ∧ i = .int .i64 k ∧ fr = .int .i64 f ∧ wr.ownsRow w.heap.size 9 1 v ps.length (ps.map strV) ∧ Below w.heap.size w wr ∧
   ((k ≤ l.length ∧ (∀ j (hj : j < l.length), f ≤ j → j < k → l[j] ≠ c) ∧ Stil.cut c l = ps ++ Stil.cut c (l.drop f)) ∨ (k = l.length + 1 ∧ ps = Stil.cut c l))) (fun _ _ i _ => l.length + 1 - (intOf i).toNat)
 case atStart => exact ⟨0, 0, [], by omega, by omega, by simp, rfl, rfl, by simpa using World.ownsRow_made w #[] 0 (Nat.le_refl _) (by decide) (by simp), below_alloc _ _, Or.inl ⟨by omega, fun j _ _ h => by omega, by simp⟩⟩
 case round =>
  obtain ⟨k, f, ps, hk, hf, hpl, rfl, rfl, hown, hb, hinv⟩ := hrel
  have HI : Hid ((k ≤ l.length ∧ (∀ j (hj : j < l.length), f ≤ j → j < k → l[j] ≠ c) ∧ Stil.cut c l = ps ++ Stil.cut c (l.drop f)) ∨ (k = l.length + 1 ∧ ps = Stil.cut c l)) := hinv
  clear hinv
  by_cases hlt : k < l.length
  ·by_cases hx : l[k] = c
   ·have hb0 : ((((⟨l.toArray⟩ : ByteArray)[k]).toNat : Int) == (c.toNat : Int)) = true := by rw [ba_get l k hlt, hx]; simp
    have hkl : ((k : Int) == (l.length : Int)) = false := by rw [beq_eq_false_iff_ne]; omega
    go_wp2_with (first | (at_builtin; refine wpList_append_own _ rfl _ _ 68 rfl w.heap.size 9 i0 (.string ⟨#[]⟩) 1 16 Tryz.underlying68 hi hz0 hz1 hz2 rfl (by decide) _ _ _ rfl (hown.alloc _) ⟨wr.heap.size, 0, none⟩ 1 1 [.string ((⟨l.toArray⟩ : ByteArray).extract f k)] rfl rfl ?c1 ?c2 ?c3 ?c4 ?c5 ?_))
    case c1 => exact cell_one_new _ _ _
    case c2 => intro u hu; simp at hu; subst hu; rfl
    case c3 => unfold maxLen; omega
    case c4 => omega
    case c5 => have := hb.size; simp; omega
    intro v' w1 hown' hgrow _
    have hlt2 := hown.lt
    clear hown
    have hB2 : Below w.heap.size w w1 := (bl_alloc hb _).grown hgrow (by have := hb.size; simp; omega) (fun k hk => (hlt2 k hk).1)
    go_wp2
    refine ⟨⟨k + 1, k + 1, ps ++ [(l.take k).drop f], by omega, by omega, by simp; omega, by go_num, by go_num, ?_, hB2, ?_⟩, by simp [intOf]; omega⟩
    ·have e : (ps ++ [(l.take k).drop f]).map strV = ps.map strV ++ [.string ((⟨l.toArray⟩ : ByteArray).extract f k)] := by rw [List.map_append, ba_ext]; rfl
     rw [e, List.length_append]; exact hown'
    ·rcases HI.out with ⟨_, h2, h3⟩ | ⟨h2, _⟩
     ·left
      refine ⟨by omega, fun j _ h4 h5 => by omega, ?_⟩
      rw [h3, piece_at hf hlt (fun j hj hfj => h2 j (by omega) hfj hj) hx]; simp
     ·omega
   ·have hb0 : ((((⟨l.toArray⟩ : ByteArray)[k]).toNat : Int) == (c.toNat : Int)) = false := by
     rw [ba_get l k hlt, beq_eq_false_iff_ne]; intro e; exact hx (UInt8.toNat_inj.1 (by omega))
    have hkl : ((k : Int) == (l.length : Int)) = false := by rw [beq_eq_false_iff_ne]; omega
    go_wp2
    refine ⟨⟨k + 1, f, ps, by omega, by omega, by omega, by go_num, rfl, hown, hb, ?_⟩, by simp [intOf]; omega⟩
    rcases HI.out with ⟨_, h2, h3⟩ | ⟨h2, _⟩
    ·left
     refine ⟨by omega, fun j hj h4 h5 => ?_, h3⟩
     by_cases hjk : j = k
     ·subst hjk; exact hx
     ·exact h2 j hj h4 (by omega)
    ·omega
  ·by_cases heq : k = l.length
   ·have hkl : ((k : Int) == (l.length : Int)) = true := by rw [beq_iff_eq]; omega
    have hkl2 : (k : Int) ≤ (l.length : Int) := by omega
    have hfl : f ≤ l.length := by omega
    have hk1 : k ≤ l.length := by omega
    have HK : Hid (k = l.length) := heq
    clear heq hlt
    go_wp2_with (first | (at_builtin; refine wpList_append_own _ rfl _ _ 68 rfl w.heap.size 9 i0 (.string ⟨#[]⟩) 1 16 Tryz.underlying68 hi hz0 hz1 hz2 rfl (by decide) _ _ _ rfl (hown.alloc _) ⟨wr.heap.size, 0, none⟩ 1 1 [.string ((⟨l.toArray⟩ : ByteArray).extract f k)] rfl rfl ?c1 ?c2 ?c3 ?c4 ?c5 ?_))
    case c1 => exact cell_one_new _ _ _
    case c2 => intro u hu; simp at hu; subst hu; rfl
    case c3 => unfold maxLen; omega
    case c4 => omega
    case c5 => have := hb.size; simp; omega
    intro v' w1 hown' hgrow _
    have hlt2 := hown.lt
    clear hown
    have hB2 : Below w.heap.size w w1 := (bl_alloc hb _).grown hgrow (by have := hb.size; simp; omega) (fun k hk => (hlt2 k hk).1)
    go_wp2
    refine ⟨⟨k + 1, k + 1, ps ++ [(l.take k).drop f], by omega, by omega, by simp; omega, by go_num, by go_num, ?_, hB2, ?_⟩, by simp [intOf]; omega⟩
    ·have e : (ps ++ [(l.take k).drop f]).map strV = ps.map strV ++ [.string ((⟨l.toArray⟩ : ByteArray).extract f k)] := by rw [List.map_append, ba_ext]; rfl
     rw [e, List.length_append]; exact hown'
    ·right
     have hk0 := HK.out
     rcases HI.out with ⟨_, h2, h3⟩ | ⟨h2, _⟩
     ·refine ⟨by omega, ?_⟩
      rw [h3, piece_end (fun j hj hfj => h2 j hj hfj (by omega)), hk0, List.take_length]
     ·omega
   ·go_wp2
    go_ret
    rcases HI.out with ⟨h2, _, _⟩ | ⟨_, h3⟩
    ·omega
    ·rw [← h3]; exact ⟨_, rfl, hown, hb⟩
def devCells (d : Stil.Dev) : List Value := [.int .i64 d.kind, .int .i64 d.n, .int .i64 d.p]
def devsCells (ds : List Stil.Dev) : List Value := ds.flatMap devCells
theorem devsCells_length (ds : List Stil.Dev) : (devsCells ds).length = ds.length * 3 := by
 induction ds with
 | nil => rfl
 | cons d r ih => simp [devsCells, devCells] at ih ⊢; omega
theorem devsCells_snoc (ds : List Stil.Dev) (d : Stil.Dev) : devsCells (ds ++ [d]) = devsCells ds ++ devCells d := by simp [devsCells]
theorem devsCells_get (ds : List Stil.Dev) : ∀ (i : Nat) (h : i < ds.length), (devsCells ds)[i * 3]? = some (.int .i64 ds[i].kind) ∧ (devsCells ds)[i * 3 + 1]? = some (.int .i64 ds[i].n) ∧ (devsCells ds)[i * 3 + 2]? = some (.int .i64 ds[i].p) := by
 induction ds with
 | nil => intro i h; simp at h
 | cons d r ih =>
  intro i h
  have e : devsCells (d :: r) = .int .i64 d.kind :: .int .i64 d.n :: .int .i64 d.p :: devsCells r := rfl
  cases i with
  | zero => rw [e]; simp
  | succ i =>
   have h' : i < r.length := by simpa using h
   rw [e]
   have := ih i h'
   have e0 : (i + 1) * 3 = i * 3 + 3 := by omega
   rw [e0]
   simpa using this
theorem add_plain (g j : Nat) : (⟨g, 0, none⟩ : Addr).add j = ⟨g, j, none⟩ := by unfold Addr.add; split <;> simp_all
theorem ownsRow_cells {w : World} {base : Nat} {e : TypeId} {size : Nat} {v : Value} {n : Nat} {xs : List Value} (h : w.ownsRow base e size v n xs) (hn : 0 < n) : ∃ g cap, v = .slice (some ⟨g, 0, none⟩) n cap ∧ base ≤ g ∧ g < w.heap.size ∧ n ≤ cap ∧ ∀ j u, xs[j]? = some u → w.cell? ⟨g, j, none⟩ = some u := by
 have h2 := h.2
 rcases h2 with ⟨_, h0⟩ | ⟨g, cap, cur, hv, hg, _, hc, _⟩
 ·omega
 ·refine ⟨g, cap, hv, hg, (h.lt g (by rw [hv]; rfl)).2, hc, fun j u hu => ?_⟩
  have := h.cells (g := g) (by rw [hv]; rfl) j u hu
  rwa [add_plain] at this
theorem DevsAt.of_owns {w : World} {base : Nat} {v : Value} {ds : List Stil.Dev} (h : w.ownsRow base 74 3 v ds.length (devsCells ds)) : DevsAt w v ds := by
 by_cases hd : ds.length = 0
 ·have hn : ds = [] := List.length_eq_zero_iff.1 hd
  subst hn
  rcases h.2 with ⟨h0, _⟩ | ⟨g, cap, cur, hv, _⟩
  ·exact ⟨none, 0, h0, fun i hi => by simp at hi⟩
  ·exact ⟨_, cap, hv, fun i hi => by simp at hi⟩
 ·obtain ⟨g, cap, hv, _, hlt, _, hc⟩ := ownsRow_cells h (by omega)
  refine ⟨_, cap, hv, fun i hi => ⟨g, 0, rfl, hlt, ?_⟩⟩
  obtain ⟨a1, a2, a3⟩ := devsCells_get ds i hi
  unfold DevAt
  rw [Nat.zero_add]
  exact ⟨hc _ _ a1, hc _ _ a2, hc _ _ a3⟩
theorem ownsRow_below {w w' : World} {base : Nat} {e : TypeId} {size : Nat} {v : Value} {n : Nat} {xs : List Value} (h : w.ownsRow base e size v n xs) (hb : Below w.heap.size w w') : w'.ownsRow base e size v n xs := by
 refine ⟨h.1, ?_⟩
 rcases h.2 with h0 | ⟨g, cap, cur, hv, hg, hh, hr⟩
 ·exact Or.inl h0
 ·have := (h.lt g (by rw [hv]; rfl)).2
  exact Or.inr ⟨g, cap, cur, hv, hg, by rw [hb.block g this]; exact hh, hr⟩
theorem cells_new (W : World) (cs : List Value) (t : TypeId) (b : Nat) (hb : b = W.heap.size) : ∀ j u, cs[j]? = some u → (W.alloc (.cells cs.toArray t)).cell? ((⟨b, 0, none⟩ : Addr).add j) = some u := by
 subst hb
 intro j u hj
 rw [add_plain, World.cell?_alloc_at _ _ _ _ rfl]
 simpa using hj
theorem cut_ne (c : UInt8) (l : List UInt8) : 0 < (Stil.cut c l).length := by
 cases l with
 | nil => simp [Stil.cut]
 | cons x r =>
  unfold Stil.cut
  split
  ·simp
  ·cases Stil.cut c r <;> simp [Stil.consHead]
theorem cut_len (c : UInt8) : ∀ (l : List UInt8), ∀ p ∈ Stil.cut c l, p.length ≤ l.length
 | [], p, h => by simp [Stil.cut] at h; subst h; simp
 | x :: r, p, h => by
  unfold Stil.cut at h
  split at h
  ·rcases List.mem_cons.1 h with rfl | h
   ·simp
   ·have := cut_len c r p h; simp; omega
  ·have ih := cut_len c r
   cases hc : Stil.cut c r with
   | nil => rw [hc] at h; simp [Stil.consHead] at h; subst h; simp
   | cons a t =>
    rw [hc] at h ih
    simp only [Stil.consHead] at h
    rcases List.mem_cons.1 h with rfl | h
    ·have := ih a (by simp); simp; omega
    ·have := ih p (by simp [h]); simp; omega
theorem s_args (l : List UInt8) (c : UInt8) (w : World) (hs : l.length ≤ 1000000000) :
  Calls Tryz.prog 130 #[.string ⟨l.toArray⟩, .int .u8 c.toNat] w fun e w' => ∃ v, e = .returned v ∧ w'.ownsRow w.heap.size 74 3 v (Stil.args c l).length (devsCells (Stil.args c l)) ∧ Below w.heap.size w w' := by
 obtain ⟨i0, hi, hz0, hz1, hz2⟩ := info_parts info_dev
 obtain ⟨ps, hps⟩ : ∃ ps, ps = Stil.cut c l := ⟨_, rfl⟩
 have hn := cut_ne c l
 have HL : Hid (∀ p ∈ ps, p.length ≤ 1000000000) := fun p hp => by rw [hps] at hp; have := cut_len c l p hp; omega
 have HP : Hid (ps = Stil.cut c l) := hps
 rw [← hps] at hn
 clear hps
 go_enter Tryz.func130, Tryz.ntmps130
 go_wp2_with (first | (go_at_call 39; refine (s_cut l c _ hs).mono ?_; rw [← HP.out]; rintro e w1 ⟨pv, rfl, hown1, hb1⟩; obtain ⟨g, cap, rfl, hg1, hg2, hcap, hcell⟩ := ownsRow_cells hown1 hn))
 have hpl : ps.length ≤ 9223372036854775807 := by
  have h1 := hcap
  rcases hown1.2 with ⟨h0, _⟩ | ⟨_, cap', _, hv, _, _, _, hm, _⟩
  ·cases h0
  ·simp only [Value.slice.injEq] at hv; unfold maxLen at hm; omega
 have HC : Hid (∀ j u, (ps.map strV)[j]? = some u → w1.cell? ⟨g, j, none⟩ = some u) := hcell
 clear hcell hown1 hn hs hcap
 go_loopw [6, 7] (fun v i wr => ∃ k : Nat, k ≤ ps.length ∧ k ≤ 4 ∧ i = .int .i64 k ∧ wr.ownsRow w1.heap.size 74 3 v k (devsCells ((ps.map Stil.devRead).take k)) ∧ Below w1.heap.size w1 wr) (fun _ i _ => 4 - (intOf i).toNat)
 case atStart => exact ⟨0, by omega, by omega, rfl, by simpa [devsCells] using World.ownsRow_made w1 #[] 0 (Nat.le_refl _) (by decide) (by simp), below_alloc _ _⟩
 case round =>
  obtain ⟨k, hk, hk4, rfl, hown, hb⟩ := hrel
  by_cases hlt : k < ps.length ∧ k < 4
  ·obtain ⟨hlt1, hlt2⟩ := hlt
   have hcx : wr.cell? ⟨g, k, none⟩ = some (.string ⟨(ps[k]).toArray⟩) := by
    rw [hb.cell (p := ⟨g, k, none⟩) hg2]
    exact HC.out k _ (by rw [List.getElem?_map, List.getElem?_eq_getElem hlt1]; rfl)
   have hxl := HL.out ps[k] (by simp)
   have HS : Hid ((ps.map Stil.devRead).take (k + 1) = (ps.map Stil.devRead).take k ++ [Stil.devRead ps[k]]) := by
    show _ = _
    rw [List.take_succ_eq_append_getElem (by simpa using hlt1)]; simp
   obtain ⟨x, hx⟩ : ∃ x, x = ps[k] := ⟨_, rfl⟩
   rw [← hx] at hcx hxl HS
   clear hx
   go_wp2_with (first | (go_at_call 163; refine (s_devRead x _ hxl).mono ?_; rintro e w2 ⟨rfl, hb2⟩; have hown2 := ownsRow_below hown hb2) | (at_builtin; refine wpList_append_own _ rfl _ _ 27 rfl w1.heap.size 74 i0 (.agg #[.int .i64 0, .int .i64 0, .int .i64 0]) 3 24 Tryz.underlying27 hi hz0 hz1 hz2 rfl (by decide) _ _ _ rfl ((hown2.alloc _).alloc _) ⟨w2.heap.size + 1, 0, none⟩ 1 1 (devCells (Stil.devRead x)) rfl rfl ?c1 ?c2 ?c3 ?c4 ?c5 ?_))
   case c1 => exact cells_new _ (devCells (Stil.devRead x)) _ _ (by simp)
   case c2 => intro u hu; simp [devCells] at hu; rcases hu with rfl | rfl | rfl <;> rfl
   case c3 => unfold maxLen; omega
   case c4 => omega
   case c5 => have := hb.size; have := hb2.size; simp; omega
   intro v' w3 hown' hgrow _
   have hlt2' := hown2.lt
   have hbb : Below w1.heap.size w1 ((w2.alloc (.cells #[.int .i64 (Stil.devRead x).kind, .int .i64 (Stil.devRead x).n, .int .i64 (Stil.devRead x).p] 74)).alloc (.cells #[.int .i64 (Stil.devRead x).kind, .int .i64 (Stil.devRead x).n, .int .i64 (Stil.devRead x).p] 74)) := bl_alloc (bl_alloc (bl_call hb hb2) _) _
   have hB2 : Below w1.heap.size w1 w3 := hbb.grown hgrow hbb.size (fun k hk => (hlt2' k hk).1)
   clear hown hown2 hcx
   go_wp2
   refine ⟨⟨k + 1, by omega, by omega, by go_num, ?_, hB2⟩, by simp [intOf]; omega⟩
   rw [HS.out, devsCells_snoc]; exact hown'
  ·have hfin : k < ps.length → decide ((k : Int) < 4) = false := by intro h; simp; omega
   by_cases hlt1 : k < ps.length
   ·have h4 : decide ((k : Int) < 4) = false := hfin hlt1
    have HE : Hid (k = 4) := (by omega : k = 4)
    clear hfin hlt
    go_wp2
    go_ret
    have h4' := HE.out
    have ea : Stil.args c l = (ps.map Stil.devRead).take k := by rw [Stil.args, ← HP.out, h4']
    have el : (Stil.args c l).length = k := by rw [ea]; simp; omega
    refine ⟨_, rfl, ?_, bl_call hb1 hb⟩
    rw [el, ea]; exact Joins.ownsRow_le hown hb1.size
   ·clear hfin hlt
    go_wp2
    go_ret
    have ek : k = ps.length := by omega
    have ea : Stil.args c l = (ps.map Stil.devRead).take k := by
     rw [Stil.args, ← HP.out, List.take_of_length_le (by simp; omega), List.take_of_length_le (by simp; omega)]
    have el : (Stil.args c l).length = k := by rw [ea]; simp; omega
    refine ⟨_, rfl, ?_, bl_call hb1 hb⟩
    rw [el, ea]; exact Joins.ownsRow_le hown hb1.size
theorem step_append_own {P : Program} {ops : Array Oper} {o : Oper} {a : Act} {w : World} {K : Act → World → Prop} {Q : Exit → Act → World → Prop} {E : Prop}
  (hg : o.guard = none) (s x : Operand) (t : TypeId) (hop : o.op = .call { callee := .builtin .append, args := #[s, x], argTypes := #[t, t] })
  (base : Nat) (e : TypeId) (i : TypeInfo) (z : Value) (size bytes : Nat) (ht : P.underlying t = some (.slice e)) (hi : P.info? e = some i) (hz : i.zero = some z)
  (hsize : i.size = size) (hby : i.bytes = bytes) (hzs : z.cells.size = size) (hsz : 0 < size)
  (v : Value) (n : Nat) (xs : List Value) (hs : a.eval s = v) (hown : w.ownsRow base e size v n xs)
  (ad : Addr) (m c : Nat) (news : List Value) (hx : a.eval x = .slice (some ad) m c) (hl : news.length = m * size) (hnews : ∀ j u, news[j]? = some u → w.cell? (ad.add j) = some u) (h1 : ∀ u ∈ news, u.oneCell' = true)
  (h63 : n + m ≤ maxLen) (hbytes : (n + m) * bytes ≤ 140737488355328) (hbase : base ≤ w.heap.size)
  (hK : ∀ v' w', w'.ownsRow base e size v' (n + m) (xs ++ news) → w.grownBy w' v.ownBlock → K (a.put o.dst v') w') :
  if Region.wanted o (yielded ops a.tmps) = true then Oper.wp P o a w K Q else E := by
 have hw : Region.wanted o (yielded ops a.tmps) = true := by simp [Region.wanted, hg]
 rw [if_pos hw]
 exact wp_append_own w s x t hop base e i z size bytes ht hi hz hsize hby hzs hsz v n xs hs hown ad m c news hx hl hnews h1 h63 hbytes hbase fun v' w' h2 h3 _ => hK v' w' h2 h3
theorem s_args' (l : List UInt8) (c : UInt8) (ci : Int) (hc : (c.toNat : Int) = ci) (w : World) (hs : l.length ≤ 1000000000) :
  Calls Tryz.prog 130 #[.string ⟨l.toArray⟩, .int .u8 ci] w fun e w' => ∃ g cap, e = .returned (.slice (some ⟨g, 0, none⟩) (Stil.args c l).length cap) ∧ w'.ownsRow w.heap.size 74 3 (.slice (some ⟨g, 0, none⟩) (Stil.args c l).length cap) (Stil.args c l).length (devsCells (Stil.args c l)) ∧ Below w.heap.size w w' := by
 subst hc
 refine (s_args l c w hs).mono ?_
 rintro e w' ⟨v, rfl, hown, hb⟩
 obtain ⟨g, cap, rfl, _⟩ := ownsRow_cells hown (by have := cut_ne c l; simp [Stil.args]; omega)
 exact ⟨g, cap, rfl, hown, hb⟩
theorem args_le (c : UInt8) (l : List UInt8) : (Stil.args c l).length ≤ 4 := by simp [Stil.args]; omega
theorem args_pos (c : UInt8) (l : List UInt8) : 0 < (Stil.args c l).length := by have := cut_ne c l; simp [Stil.args]; omega
theorem devsCells_append (a b : List Stil.Dev) : devsCells (a ++ b) = devsCells a ++ devsCells b := by simp [devsCells]
theorem devsCells_one (ds : List Stil.Dev) : ∀ u ∈ devsCells ds, u.oneCell' = true := by
 intro u hu
 simp only [devsCells, List.mem_flatMap, devCells] at hu
 obtain ⟨d, _, hd⟩ := hu
 simp at hd
 rcases hd with rfl | rfl | rfl <;> rfl
theorem ba_take (l : List UInt8) (k : Nat) : (⟨l.toArray⟩ : ByteArray).extract 0 k = ⟨(l.take k).toArray⟩ := by rw [ba_ext]; simp
/-- The result of two lists of operands, one behind the other, in memory of the call's own. -/
theorem app_done {w w2 w3 w4 w5 : World} {g cap : Nat} {a b : List Stil.Dev} {v' : Value}
  (hB : Below (w.heap.size + 1) (w.alloc (.cells #[.int .i64 0, .slice none 0 0] 29)) w2) (hb3 : Below w2.heap.size w2 w3) (hb4 : Below w3.heap.size w3 w4)
  (ho3 : w3.ownsRow w2.heap.size 74 3 (.slice (some ⟨g, 0, none⟩) a.length cap) a.length (devsCells a))
  (ho5 : w5.ownsRow w2.heap.size 74 3 v' (a.length + b.length) (devsCells a ++ devsCells b)) (hgr : w4.grownBy w5 (Value.ownBlock (.slice (some ⟨g, 0, none⟩) a.length cap))) (hp : 0 < a.length) :
  (∃ g' cap', v' = .slice (some ⟨g', 0, none⟩) (a.length + b.length) cap') ∧ Below (w.heap.size + 1) (w.alloc (.cells #[.int .i64 0, .slice none 0 0] 29)) w5 ∧ w5.ownsRow (w.heap.size + 1) 74 3 v' (a ++ b).length (devsCells (a ++ b)) := by
 obtain ⟨g', cap', hv, _⟩ := ownsRow_cells ho5 (by omega)
 have hz : w.heap.size + 1 ≤ w2.heap.size := by have := hB.size; simpa using this
 refine ⟨⟨g', cap', hv⟩, ?_, ?_⟩
 ·have h1 := hB.trans ((hb3.trans (hb4.mono hb3.size)).mono hz)
  refine h1.grown hgr (by have := hb3.size; have := hb4.size; omega) (fun k hk => ?_)
  have := (ho3.lt k hk).1
  omega
 ·rw [devsCells_append, List.length_append]
  exact Joins.ownsRow_le ho5 (by omega)
theorem res2 {w w5 : World} (hB : Below (w.heap.size + 1) (w.alloc (.cells #[.int .i64 0, .slice none 0 0] 29)) w5) :
  w5.cell? ⟨w.heap.size, 0, none⟩ = some (.int .i64 0) ∧ w5.frozen? ⟨w.heap.size, 0, none⟩ = false ∧ w5.cell? ⟨w.heap.size, 1, none⟩ = some (.slice none 0 0) ∧ w5.frozen? ⟨w.heap.size, 1, none⟩ = false ∧ w.heap.size < w5.heap.size := by
 have hz : w.heap.size < w5.heap.size := by have := hB.size; simp at this; omega
 have c0 : w5.cell? ⟨w.heap.size, 0, none⟩ = some (.int .i64 0) := clA hB
 have f0 : w5.frozen? ⟨w.heap.size, 0, none⟩ = false := frA hB
 have c1 : w5.cell? ⟨w.heap.size, 1, none⟩ = some (.slice none 0 0) := clA hB
 have f1 : w5.frozen? ⟨w.heap.size, 1, none⟩ = false := frA hB
 exact ⟨c0, f0, c1, f1, hz⟩
theorem owns_res {w w5 : World} {v : Value} {n : Nat} {xs : List Value} (h : w5.ownsRow (w.heap.size + 1) 74 3 v n xs) (a b : Value) :
  ((w5.setCell ⟨w.heap.size, 0, none⟩ a).setCell ⟨w.heap.size, 1, none⟩ b).ownsRow w.heap.size 74 3 v n xs :=
 Joins.ownsRow_le (ownsRow_setCell_below (ownsRow_setCell_below h (Nat.lt_succ_self _) a) (Nat.lt_succ_self _) b) (Nat.le_succ _)
theorem u8_beq (y c : UInt8) (n : Int) (h : (c.toNat : Int) = n) : (y == c) = ((y.toNat : Int) == n) := by
 rw [Bool.eq_iff_iff]; simp only [beq_iff_eq]
 constructor
 ·intro e; subst e; exact h
 ·intro e; exact UInt8.toNat_inj.1 (by omega)
theorem s_eguess (l : List UInt8) (w : World) (hs : l.length ≤ 100) :
  Calls Tryz.prog 96 #[.string ⟨l.toArray⟩] w fun e w' => ∃ v, e = .returned (.agg #[.int .i64 (Stil.eguess l).op, v]) ∧ w'.ownsRow w.heap.size 74 3 v (Stil.eguess l).args.length (devsCells (Stil.eguess l).args) ∧ Below w.heap.size w w' := by
 go_enter Tryz.func96, Tryz.ntmps96
 go_wp2
 go_loopw [3] (fun i wr => ∃ k : Nat, k ≤ l.length ∧ i = .int .i64 k ∧ Stil.eguess l = Stil.scan l (l.length - k) k ∧ Below (w.heap.size + 1) (w.alloc (.cells #[.int .i64 0, .slice none 0 0] 29)) wr) (fun i _ => l.length - (intOf i).toNat)
 case atStart => exact ⟨0, by omega, rfl, rfl, Below.refl _ _⟩
 case round =>
  obtain ⟨k, hk, rfl, hg, hB⟩ := hrel
  have HG : Hid (Stil.eguess l = Stil.scan l (l.length - k) k) := hg
  clear hg
  have hz : w.heap.size < wr.heap.size := by have := hB.size; simp at this; omega
  have c0 : wr.cell? ⟨w.heap.size, 0, none⟩ = some (.int .i64 0) := clA hB
  have f0 : wr.frozen? ⟨w.heap.size, 0, none⟩ = false := frA hB
  have c1 : wr.cell? ⟨w.heap.size, 1, none⟩ = some (.slice none 0 0) := clA hB
  have f1 : wr.frozen? ⟨w.heap.size, 1, none⟩ = false := frA hB
  have hbw : Below w.heap.size w wr := (below_alloc _ _).trans (hB.mono (by omega))
  by_cases hlt : k < l.length
  ·have hkb := ba_get l k hlt
   obtain ⟨x, hx⟩ : ∃ x : UInt8, (⟨l.toArray⟩ : ByteArray)[k] = x := ⟨_, rfl⟩
   have HX : Hid (l[k] = x) := by show _ = _; rw [← hkb]; exact hx
   clear hkb
   cases hsg : Stil.isSign x
   ·have HS : Hid (Stil.eguess l = Stil.scan l (l.length - (k + 1)) (k + 1)) := by
     show _ = _
     rw [HG.out, show l.length - k = (l.length - (k + 1)) + 1 from by omega, Stil.scan, if_neg]
     rw [List.getD_eq_getElem?_getD, List.getElem?_eq_getElem hlt, HX.out]; simp [hsg]
    have n1 : ((x.toNat : Int) == 60) = false := by
     rw [beq_eq_false_iff_ne]; intro e; have : x = 60 := UInt8.toNat_inj.1 (by simp; omega); subst this; simp [Stil.isSign] at hsg
    have n2 : ((x.toNat : Int) == 61) = false := by
     rw [beq_eq_false_iff_ne]; intro e; have : x = 61 := UInt8.toNat_inj.1 (by simp; omega); subst this; simp [Stil.isSign] at hsg
    have n3 : ((x.toNat : Int) == 62) = false := by
     rw [beq_eq_false_iff_ne]; intro e; have : x = 62 := UInt8.toNat_inj.1 (by simp; omega); subst this; simp [Stil.isSign] at hsg
    go_wp2
    exact ⟨⟨k + 1, by omega, by go_num, HS.out, hB⟩, by simp [intOf]; omega⟩
   ·have HS : Hid (Stil.eguess l = Stil.signFrom l k (Stil.signLen l k) 6 5) := by
     show _ = _
     rw [HG.out, show l.length - k = (l.length - (k + 1)) + 1 from by omega, Stil.scan, if_pos]
     rw [List.getD_eq_getElem?_getD, List.getElem?_eq_getElem hlt, HX.out]; simpa using hsg
    clear HG
    have hxx : (x.toNat : Int) = 60 ∨ (x.toNat : Int) = 61 ∨ (x.toNat : Int) = 62 := by
     simp only [Stil.isSign, Bool.or_eq_true, beq_iff_eq] at hsg
     rcases hsg with (rfl | rfl) | rfl <;> simp
    go_upto_region 4 with fail
    go_cut [29] (fun s29 wc => s29 = .bool true ∧ wc = wr)
    case first =>
     rcases hxx with hxx | hxx | hxx
     all_goals (go_wp2_with fail; go_meet; exact ⟨by simp [*], rfl⟩)
    case rest =>
     obtain ⟨rfl, rfl⟩ := hcut
     go_upto_region 6 with fail
     go_cut [48] (fun s48 w2 => s48 = .bool (Stil.signLen l k == 2) ∧ w2 = wc)
     case first =>
      by_cases hl2 : k + 1 < l.length
      ·have hg2 : l[k + 1]? = some l[k + 1] := List.getElem?_eq_getElem hl2
       have hgb := ba_get l (k + 1) hl2
       obtain ⟨y, hy⟩ : ∃ y : UInt8, (⟨l.toArray⟩ : ByteArray)[k + 1] = y := ⟨_, rfl⟩
       have HY : Hid ((Stil.signLen l k == 2) = (y == 61 || y == 62)) := by
        show _ = _
        rw [Stil.signLen, hg2, ← hgb, hy]
        by_cases a1 : y = 61
        ·simp [a1]
        ·by_cases a2 : y = 62
         ·simp [a2]
         ·simp [a1, a2]
       clear hg2 hgb
       have y1 : (y == 61) = ((y.toNat : Int) == 61) := u8_beq y 61 61 rfl
       have y2 : (y == 62) = ((y.toNat : Int) == 62) := u8_beq y 62 62 rfl
       rw [y1, y2] at HY
       clear y1 y2
       go_wp2_with fail
       all_goals (go_meet; exact ⟨by first | (rw [HY.out]; done) | (rw [HY.out]; simp [*]), rfl⟩)
      ·have HY : Hid ((Stil.signLen l k == 2) = false) := by
        show _ = _
        rw [Stil.signLen, List.getElem?_eq_none (by omega)]; simp
       go_wp2_with fail
       all_goals (go_meet; exact ⟨by first | (rw [HY.out]; done) | (rw [HY.out]; simp [*]), rfl⟩)
     case rest =>
      obtain ⟨rfl, rfl⟩ := hcut
      have hn : (Stil.signLen l k = 1 ∧ (Stil.signLen l k == 2) = false) ∨ (Stil.signLen l k = 2 ∧ (Stil.signLen l k == 2) = true) := by
       unfold Stil.signLen; split
       ·right; exact ⟨rfl, rfl⟩
       ·left; exact ⟨rfl, rfl⟩
      have hnb : k + Stil.signLen l k ≤ l.length := by
       unfold Stil.signLen; split
       ·rename_i h
        rcases h with h | h <;> (have := (List.getElem?_eq_some_iff.1 h).1; omega)
       ·omega
      obtain ⟨n, hne⟩ : ∃ n, n = Stil.signLen l k := ⟨_, rfl⟩
      rw [← hne] at hn hnb HS ⊢
      clear hne
      have hcut2 : ∀ q : Bool, q = (n == 2) → q = (n == 2) := fun _ h => h
      clear hcut2
      go_upto_if 48 with fail
      go_cut [4] (fun s4 w2 => s4 = .int .i64 n ∧ w2 = wc)
      case first =>
       rcases hn with ⟨hn1, hn2⟩ | ⟨hn1, hn2⟩
       all_goals (subst hn1; go_wp2_with fail; go_meet; exact ⟨rfl, rfl⟩)
      case rest =>
       obtain ⟨rfl, rfl⟩ := hcut
       have hn12 : 1 ≤ n ∧ n ≤ 2 := by omega
       clear hn c0 c1 f0 f1 hz hbw hx HX hsg hxx
       obtain ⟨hn1, hn2⟩ := hn12
       go_wp2
       go_loopw [5] (fun v wr => ∃ m : Nat, 5 ≤ m ∧ m ≤ 11 ∧ v = .int .i64 m ∧ Stil.eguess l = Stil.signFrom l k n (11 - m) m ∧ Below (w.heap.size + 1) (w.alloc (.cells #[.int .i64 0, .slice none 0 0] 29)) wr) (fun v _ => 11 - (intOf v).toNat)
       case atStart => exact ⟨5, by omega, by omega, rfl, HS.out, hB⟩
       case round =>
        clear hB HS
        obtain ⟨m, hm1, hm2, rfl, hg, hB⟩ := hrel
        have HG : Hid (Stil.eguess l = Stil.signFrom l k n (11 - m) m) := hg
        clear hg
        have hz : w.heap.size < wr.heap.size := by have := hB.size; simp at this; omega
        have c0 : wr.cell? ⟨w.heap.size, 0, none⟩ = some (.int .i64 0) := clA hB
        have f0 : wr.frozen? ⟨w.heap.size, 0, none⟩ = false := frA hB
        have c1 : wr.cell? ⟨w.heap.size, 1, none⟩ = some (.slice none 0 0) := clA hB
        have f1 : wr.frozen? ⟨w.heap.size, 1, none⟩ = false := frA hB
        have hbw : Below w.heap.size w wr := (below_alloc _ _).trans (hB.mono (by omega))
        by_cases hm : m ≤ 10
        ·have k1 : (k : Int) + n ≤ l.length := by omega
         have k2 : k + n ≤ l.length := by omega
         have k3 : ((k : Int) + n).toNat = k + n := by omega
         by_cases hx : (l.take (k + n)).drop k = Stil.sign m
         ·have hxb : (((⟨l.toArray⟩ : ByteArray).extract k (k + n)).toList == Stil.sign (m : Int)) = true := by
           rw [ba_ext]; simpa using hx
          have HX : Hid (Stil.eguess l = ⟨m, Stil.args 32 (l.take k) ++ Stil.args 32 (l.drop (k + n))⟩) := by
           show _ = _
           rw [HG.out, show 11 - m = (11 - (m + 1)) + 1 from by omega, Stil.signFrom, if_pos hx]
          clear hx HG
          go_wp2
          refine wp_region_quiet_below (by kernel_rfl) (by kernel_rfl) ?_
          repeat (go_big_quiet_step ((exact Calls.regrown_of (s_sign _ _ (by omega) (by omega)))))
          refine wpQuiet_nil ?_
          intro _ hw'
          obtain ⟨⟨dq, osq⟩, hw''⟩ := hw'
          subst hw''
          have hB2 := hB.trans ((below_regrown wr dq osq).mono (by have := hB.size; simpa using this))
          clear hB c0 c1 f0 f1 hz hbw
          generalize grow (redrawn wr dq) osq = W2 at hB2 ⊢
          obtain ⟨i0, hi, hz0, hz1, hz2⟩ := info_parts info_dev
          have k4 : IntKind.i64.wrap ((k : Int) + n) = (k : Int) + n := by rw [IntKind.wrap_i64]; omega
          have k5 : (0 : Int) ≤ k := by omega
          have k6 : (k : Int) ≤ l.length := by omega
          have k7 : (0 : Int) ≤ (k : Int) + n := by omega
          have hl1 : (l.take k).length ≤ 1000000000 := by simp; omega
          have hl2 : (l.drop (k + n)).length ≤ 1000000000 := by simp; omega
          go_wp2_with fail
          go_region_law (first | (refine step_append_own rfl _ _ 27 rfl W2.drew.heap.size 74 i0 (.agg #[.int .i64 0, .int .i64 0, .int .i64 0]) 3 24 Tryz.underlying27 hi hz0 hz1 hz2 rfl (by decide) _ _ _ rfl (ownsRow_below hown3 hb4) ⟨g4, 0, none⟩ _ cap4 (devsCells (Stil.args 32 (l.drop (k + n)))) rfl (devsCells_length _) (by intro j u hj; rw [add_plain]; exact (ownsRow_cells hown4 (args_pos _ _)).elim fun _ h => h.elim fun _ h => by obtain ⟨e, _, _, _, h⟩ := h; cases e; exact h j u hj) (devsCells_one _) (by have h1 := args_le 32 (l.take k); have h2 := args_le 32 (l.drop (k + n)); unfold maxLen; omega) (by have h1 := args_le 32 (l.take k); have h2 := args_le 32 (l.drop (k + n)); omega) (by have h1 := hb3.size; have h2 := hb4.size; omega) ?_; intro v' w5 hown5 hgr; obtain ⟨⟨g5, cap5, rfl⟩, hB5, hown6⟩ := app_done hB2.drew hb3 hb4 hown3 hown5 hgr (args_pos _ _); obtain ⟨c0, f0, c1, f1, hz⟩ := res2 hB5) | (go_simp; go_at_call 130; rw [ba_take]; refine (s_args' (l.take k) 32 32 rfl _ hl1).mono ?_; rintro e w3 ⟨g3, cap3, rfl, hown3, hb3⟩) | (go_simp; go_at_call 130; rw [ba_drop]; refine (s_args' (l.drop (k + n)) 32 32 rfl _ hl2).mono ?_; rintro e w4 ⟨g4, cap4, rfl, hown4, hb4⟩))
          go_wp2
          refine bodyPost_ret (v := .agg #[.int .i64 m, .slice (some ⟨g5, 0, none⟩) ((Stil.args 32 (l.take k)).length + (Stil.args 32 (l.drop (k + n))).length) cap5]) (by simp [results, Tryz.results96, go_sem, c0, c1]) rfl ⟨_, by rw [HX.out], ?_, ?_⟩
          ·rw [HX.out]; exact owns_res (by rw [List.length_append] at hown6 ⊢; exact hown6) _ _
          ·exact (bl_set (Nat.le_refl _) (bl_set (Nat.le_refl _) ((below_alloc _ _).trans (hB5.mono (by omega))) _) _)
         ·have hxb : (((⟨l.toArray⟩ : ByteArray).extract k (k + n)).toList == Stil.sign (m : Int)) = false := by
           rw [ba_ext]; simpa using hx
          have HX : Hid (Stil.eguess l = Stil.signFrom l k n (11 - (m + 1)) (m + 1)) := by
           show _ = _
           rw [HG.out, show 11 - m = (11 - (m + 1)) + 1 from by omega, Stil.signFrom, if_neg hx]
          clear hx HG
          go_wp2
          refine wp_region_quiet_below (by kernel_rfl) (by kernel_rfl) ?_
          repeat (go_big_quiet_step ((exact Calls.regrown_of (s_sign _ _ (by omega) (by omega)))))
          refine wpQuiet_nil ?_
          intro _ hw'
          obtain ⟨⟨dq, osq⟩, hw''⟩ := hw'
          subst hw''
          go_wp2
          exact ⟨⟨m + 1, by omega, by omega, by go_num, HX.out, hB.trans ((below_regrown wr dq osq).mono (by have := hB.size; simpa using this))⟩, by simp [intOf]; omega⟩
        ·have HX : Hid (Stil.eguess l = ⟨0, []⟩) := by
          show _ = _
          rw [HG.out, show 11 - m = 0 from by omega]; rfl
         clear HG
         go_wp2
         refine bodyPost_ret (v := .agg #[.int .i64 0, .slice none 0 0]) (by simp [results, Tryz.results96, go_sem, c0, c1]) rfl ⟨_, by rw [HX.out], ?_, ?_⟩
         ·rw [HX.out]; exact World.ownsRow_nil _ _ _ _
         ·exact bl_set (Nat.le_refl _) (bl_set (Nat.le_refl _) hbw _) _
  ·have HS : Hid (Stil.eguess l = Stil.guessName l 17 21) := by
    show _ = _
    rw [HG.out, show l.length - k = 0 from by omega]; rfl
   clear HG c0 c1 f0 f1 hz hbw
   go_wp2
   go_loopw [6] (fun v wr => ∃ m : Nat, 21 ≤ m ∧ m ≤ 38 ∧ v = .int .i64 m ∧ Stil.eguess l = Stil.guessName l (38 - m) m ∧ Below (w.heap.size + 1) (w.alloc (.cells #[.int .i64 0, .slice none 0 0] 29)) wr) (fun v _ => 38 - (intOf v).toNat)
   case atStart => exact ⟨21, by omega, by omega, rfl, HS.out, hB⟩
   case round =>
    clear hB HS
    obtain ⟨m, hm1, hm2, rfl, hg, hB⟩ := hrel
    have HG : Hid (Stil.eguess l = Stil.guessName l (38 - m) m) := hg
    clear hg
    by_cases hm : m ≤ 37
    ·obtain ⟨nm, hnm⟩ : ∃ nm, nm = Stil.elemName (m : Int) := ⟨_, rfl⟩
     have HN : Hid (Stil.elemName (m : Int) = nm) := hnm.symm
     have HG2 : Hid (Stil.eguess l = if Stil.nameAt l m then ⟨m, Stil.args 44 (l.drop (nm.length + 1))⟩ else Stil.guessName l (38 - (m + 1)) (m + 1)) := by
      show _ = _
      rw [HG.out, show 38 - m = (38 - (m + 1)) + 1 from by omega, Stil.guessName, hnm]
     have HA : Hid (Stil.nameAt l m = (decide (nm.length < l.length) && (l.take nm.length == nm) && (l[nm.length]? == some 58))) := by
      show _ = _; rw [Stil.nameAt, hnm]
     have hnl : nm.length ≤ 5 := by
      rw [hnm]
      have ho : m = 21 ∨ m = 22 ∨ m = 23 ∨ m = 24 ∨ m = 25 ∨ m = 26 ∨ m = 27 ∨ m = 28 ∨ m = 29 ∨ m = 30 ∨ m = 31 ∨ m = 32 ∨ m = 33 ∨ m = 34 ∨ m = 35 ∨ m = 36 ∨ m = 37 := by omega
      rcases ho with rfl | rfl | rfl | rfl | rfl | rfl | rfl | rfl | rfl | rfl | rfl | rfl | rfl | rfl | rfl | rfl | rfl <;> decide
     clear hnm HG
     go_wp2_with (first | (go_at_call 78; refine (s_elemName _ _ (by omega) (by omega)).mono ?_; rw [HN.out]; rintro e w1 ⟨rfl, hb1⟩))
     have hB1 := hB.trans (hb1.mono (by have := hB.size; simpa using this))
     clear hB hb1
     obtain ⟨c0, f0, c1, f1, hz⟩ := res2 hB1
     have hbw : Below w.heap.size w w1 := (below_alloc _ _).trans (hB1.mono (by omega))
     have HC : Hid (∀ W, Calls Tryz.prog 78 #[.int .i64 m] W fun e w' => e = .returned (.string ⟨nm.toArray⟩) ∧ Below W.heap.size W w') := fun W => by
      rw [← HN.out]; exact s_elemName _ _ (by omega) (by omega)
     by_cases ha : nm.length < l.length
     ·have ha2 : (nm.length : Int) < l.length := by omega
      by_cases hb : l.take nm.length = nm
      ·have hbb : (((⟨l.toArray⟩ : ByteArray).extract 0 nm.length).toList == nm) = true := by rw [ba_take]; simpa using hb
       by_cases hcc : l[nm.length] = 58
       ·have hcb : ((((⟨l.toArray⟩ : ByteArray)[nm.length]).toNat : Int) == 58) = true := by rw [ba_get l _ ha, hcc]; rfl
        have HX : Hid (Stil.eguess l = ⟨m, Stil.args 44 (l.drop (nm.length + 1))⟩) := by
         show _ = _
         rw [HG2.out, HA.out, if_pos]; rw [List.getElem?_eq_getElem ha, hcc]; simp [ha, hb]
        clear hb hcc HG2 HA
        have hl2 : (l.drop (nm.length + 1)).length ≤ 1000000000 := by simp; omega
        refine wp_region_quiet_below (by kernel_rfl) (by kernel_rfl) ?_
        repeat (go_big_quiet_step ((exact Calls.regrown_of (HC.out _))))
        refine wpQuiet_nil ?_
        intro _ hw'
        obtain ⟨⟨dq, osq⟩, hw''⟩ := hw'
        subst hw''
        have hB2 := hB1.trans ((below_regrown w1 dq osq).mono (by have := hB1.size; simpa using this))
        clear hB1 c0 c1 f0 f1 hz hbw HC
        generalize grow (redrawn w1 dq) osq = W2 at hB2 ⊢
        go_wp2_with (first | (go_at_call 130; rw [ba_drop]; refine (s_args' (l.drop (nm.length + 1)) 44 44 rfl _ (by rw [List.length_drop]; omega)).mono ?_; rintro e w3 ⟨g3, cap3, rfl, hown3, hb3⟩; have hB3 := hB2.trans (hb3.mono (by have := hB2.size; simpa using this)); obtain ⟨c0, f0, c1, f1, hz⟩ := res2 hB3))
        refine bodyPost_ret (v := .agg #[.int .i64 m, .slice (some ⟨g3, 0, none⟩) (Stil.args 44 (l.drop (nm.length + 1))).length cap3]) (by simp [results, Tryz.results96, go_sem, c0, c1]) rfl ⟨_, by rw [HX.out], ?_, ?_⟩
        ·rw [HX.out]; exact owns_res (Joins.ownsRow_le hown3 (by have := hB2.size; simp at this; omega)) _ _
        ·exact bl_set (Nat.le_refl _) (bl_set (Nat.le_refl _) ((below_alloc _ _).trans (hB3.mono (by omega))) _) _
       ·have hcb : ((((⟨l.toArray⟩ : ByteArray)[nm.length]).toNat : Int) == 58) = false := by
         rw [ba_get l _ ha, beq_eq_false_iff_ne]; intro e; exact hcc (UInt8.toNat_inj.1 (by simp; omega))
        have HX : Hid (Stil.eguess l = Stil.guessName l (38 - (m + 1)) (m + 1)) := by
         show _ = _
         rw [HG2.out, HA.out, if_neg]; rw [List.getElem?_eq_getElem ha]; simp [hcc]
        clear hb hcc HG2 HA
        refine wp_region_quiet_below (by kernel_rfl) (by kernel_rfl) ?_
        repeat (go_big_quiet_step ((exact Calls.regrown_of (HC.out _))))
        refine wpQuiet_nil ?_
        intro _ hw'
        obtain ⟨⟨dq, osq⟩, hw''⟩ := hw'
        subst hw''
        go_wp2
        exact ⟨⟨m + 1, by omega, by omega, by go_num, HX.out, hB1.trans ((below_regrown w1 dq osq).mono (by have := hB1.size; simpa using this))⟩, by simp [intOf]; omega⟩
      ·have hbb : (((⟨l.toArray⟩ : ByteArray).extract 0 nm.length).toList == nm) = false := by rw [ba_take]; simpa using hb
       have HX : Hid (Stil.eguess l = Stil.guessName l (38 - (m + 1)) (m + 1)) := by
        show _ = _
        rw [HG2.out, HA.out, if_neg]; simp [hb]
       clear hb HG2 HA
       refine wp_region_quiet_below (by kernel_rfl) (by kernel_rfl) ?_
       repeat (go_big_quiet_step ((exact Calls.regrown_of (HC.out _))))
       refine wpQuiet_nil ?_
       intro _ hw'
       obtain ⟨⟨dq, osq⟩, hw''⟩ := hw'
       subst hw''
       go_wp2
       exact ⟨⟨m + 1, by omega, by omega, by go_num, HX.out, hB1.trans ((below_regrown w1 dq osq).mono (by have := hB1.size; simpa using this))⟩, by simp [intOf]; omega⟩
     ·have ha2 : decide ((nm.length : Int) < (l.length : Int)) = false := by rw [decide_eq_false_iff_not]; omega
      have ha3 : decide (nm.length < l.length) = false := by rw [decide_eq_false_iff_not]; omega
      have HX : Hid (Stil.eguess l = Stil.guessName l (38 - (m + 1)) (m + 1)) := by
       show _ = _
       rw [HG2.out, HA.out, if_neg]; simp; omega
      clear ha HG2 HA
      refine wp_region_quiet_below (by kernel_rfl) (by kernel_rfl) ?_
      repeat (go_big_quiet_step ((exact Calls.regrown_of (HC.out _))))
      refine wpQuiet_nil ?_
      intro _ hw'
      obtain ⟨⟨dq, osq⟩, hw''⟩ := hw'
      subst hw''
      go_wp2
      exact ⟨⟨m + 1, by omega, by omega, by go_num, HX.out, hB1.trans ((below_regrown w1 dq osq).mono (by have := hB1.size; simpa using this))⟩, by simp [intOf]; omega⟩
    ·have HX0 : Hid (Stil.eguess l = Stil.guessHead l) := by
      show _ = _
      rw [HG.out, show 38 - m = 0 from by omega]; rfl
     clear HG
     have hB2 := hB
     clear hB
     by_cases hnil : l = []
     ·have hne : l.isEmpty = true := by simpa using hnil
      have HX : Hid (Stil.eguess l = ⟨1, Stil.args 32 l⟩) := by
       show _ = _; rw [HX0.out, Stil.guessHead, hnil]; rfl
      clear hnil HX0
      go_wp2_with (first | (go_at_call 130; refine (s_args' (l) 32 32 rfl _ (by omega)).mono ?_; rintro e w3 ⟨g3, cap3, rfl, hown3, hb3⟩; have hB3 := hB2.trans (hb3.mono (by have := hB2.size; simpa using this)); obtain ⟨c0, f0, c1, f1, hz⟩ := res2 hB3))
      refine bodyPost_ret (v := .agg #[.int .i64 1, .slice (some ⟨g3, 0, none⟩) (Stil.args 32 (l)).length cap3]) (by simp [results, Tryz.results96, go_sem, c0, c1]) rfl ⟨_, by rw [HX.out], ?_, ?_⟩
      ·rw [HX.out]; exact owns_res (Joins.ownsRow_le hown3 (by have := hB2.size; simp at this; omega)) _ _
      ·exact bl_set (Nat.le_refl _) (bl_set (Nat.le_refl _) ((below_alloc _ _).trans (hB3.mono (by omega))) _) _
     ·have hne : l.isEmpty = false := by simpa using hnil
      have hl0 : 0 < l.length := List.length_pos_iff.2 hnil
      have hhd : l.head? = some l[0] := by rw [List.head?_eq_getElem?, List.getElem?_eq_getElem hl0]
      have hgb := ba_get l 0 hl0
      obtain ⟨y, hy⟩ : ∃ y : UInt8, (⟨l.toArray⟩ : ByteArray)[0] = y := ⟨_, rfl⟩
      have hd : ∀ c, Stil.headIs l c = (y == c) := fun c => by rw [Stil.headIs, hhd, ← hgb, hy]; simp
      have y1 : (y == 47) = ((y.toNat : Int) == 47) := u8_beq y 47 47 rfl
      have y2 : (y == 43) = ((y.toNat : Int) == 43) := u8_beq y 43 43 rfl
      have y3 : (y == 45) = ((y.toNat : Int) == 45) := u8_beq y 45 45 rfl
      cases q1 : ((y.toNat : Int) == 47)
      ·cases q2 : ((y.toNat : Int) == 43)
       ·cases q3 : ((y.toNat : Int) == 45)
        ·have HX : Hid (Stil.eguess l = ⟨1, Stil.args 32 l⟩) := by
          show _ = _; rw [HX0.out, Stil.guessHead, hd, hd, hd, y1, y2, y3, q1, q2, q3]; rfl
         clear hnil HX0 hhd hgb hd y1 y2 y3
         go_wp2_with (first | (go_at_call 130; refine (s_args' (l) 32 32 rfl _ (by omega)).mono ?_; rintro e w3 ⟨g3, cap3, rfl, hown3, hb3⟩; have hB3 := hB2.trans (hb3.mono (by have := hB2.size; simpa using this)); obtain ⟨c0, f0, c1, f1, hz⟩ := res2 hB3))
         refine bodyPost_ret (v := .agg #[.int .i64 1, .slice (some ⟨g3, 0, none⟩) (Stil.args 32 (l)).length cap3]) (by simp [results, Tryz.results96, go_sem, c0, c1]) rfl ⟨_, by rw [HX.out], ?_, ?_⟩
         ·rw [HX.out]; exact owns_res (Joins.ownsRow_le hown3 (by have := hB2.size; simp at this; omega)) _ _
         ·exact bl_set (Nat.le_refl _) (bl_set (Nat.le_refl _) ((below_alloc _ _).trans (hB3.mono (by omega))) _) _
        ·have HX : Hid (Stil.eguess l = ⟨4, Stil.args 58 (l.drop 1)⟩) := by
          show _ = _; rw [HX0.out, Stil.guessHead, hd, hd, hd, y1, y2, y3, q1, q2, q3]; rfl
         clear hnil HX0 hhd hgb hd y1 y2 y3
         go_wp2_with (first | (go_at_call 130; rw [ba_drop]; refine (s_args' (l.drop 1) 58 58 rfl _ (by rw [List.length_drop]; omega)).mono ?_; rintro e w3 ⟨g3, cap3, rfl, hown3, hb3⟩; have hB3 := hB2.trans (hb3.mono (by have := hB2.size; simpa using this)); obtain ⟨c0, f0, c1, f1, hz⟩ := res2 hB3))
         refine bodyPost_ret (v := .agg #[.int .i64 4, .slice (some ⟨g3, 0, none⟩) (Stil.args 58 (l.drop 1)).length cap3]) (by simp [results, Tryz.results96, go_sem, c0, c1]) rfl ⟨_, by rw [HX.out], ?_, ?_⟩
         ·rw [HX.out]; exact owns_res (Joins.ownsRow_le hown3 (by have := hB2.size; simp at this; omega)) _ _
         ·exact bl_set (Nat.le_refl _) (bl_set (Nat.le_refl _) ((below_alloc _ _).trans (hB3.mono (by omega))) _) _
       ·have HX : Hid (Stil.eguess l = ⟨3, Stil.args 58 (l.drop 1)⟩) := by
         show _ = _; rw [HX0.out, Stil.guessHead, hd, hd, y1, y2, q1, q2]; rfl
        clear hnil HX0 hhd hgb hd y1 y2 y3
        go_wp2_with (first | (go_at_call 130; rw [ba_drop]; refine (s_args' (l.drop 1) 58 58 rfl _ (by rw [List.length_drop]; omega)).mono ?_; rintro e w3 ⟨g3, cap3, rfl, hown3, hb3⟩; have hB3 := hB2.trans (hb3.mono (by have := hB2.size; simpa using this)); obtain ⟨c0, f0, c1, f1, hz⟩ := res2 hB3))
        refine bodyPost_ret (v := .agg #[.int .i64 3, .slice (some ⟨g3, 0, none⟩) (Stil.args 58 (l.drop 1)).length cap3]) (by simp [results, Tryz.results96, go_sem, c0, c1]) rfl ⟨_, by rw [HX.out], ?_, ?_⟩
        ·rw [HX.out]; exact owns_res (Joins.ownsRow_le hown3 (by have := hB2.size; simp at this; omega)) _ _
        ·exact bl_set (Nat.le_refl _) (bl_set (Nat.le_refl _) ((below_alloc _ _).trans (hB3.mono (by omega))) _) _
      ·have HX : Hid (Stil.eguess l = ⟨2, Stil.args 32 (l.drop 1)⟩) := by
        show _ = _; rw [HX0.out, Stil.guessHead, hd, y1, q1]; rfl
       clear hnil HX0 hhd hgb hd y1 y2 y3
       go_wp2_with (first | (go_at_call 130; rw [ba_drop]; refine (s_args' (l.drop 1) 32 32 rfl _ (by rw [List.length_drop]; omega)).mono ?_; rintro e w3 ⟨g3, cap3, rfl, hown3, hb3⟩; have hB3 := hB2.trans (hb3.mono (by have := hB2.size; simpa using this)); obtain ⟨c0, f0, c1, f1, hz⟩ := res2 hB3))
       refine bodyPost_ret (v := .agg #[.int .i64 2, .slice (some ⟨g3, 0, none⟩) (Stil.args 32 (l.drop 1)).length cap3]) (by simp [results, Tryz.results96, go_sem, c0, c1]) rfl ⟨_, by rw [HX.out], ?_, ?_⟩
       ·rw [HX.out]; exact owns_res (Joins.ownsRow_le hown3 (by have := hB2.size; simp at this; omega)) _ _
       ·exact bl_set (Nat.le_refl _) (bl_set (Nat.le_refl _) ((below_alloc _ _).trans (hB3.mono (by omega))) _) _
theorem devOk_fits (d : Stil.Dev) (h : Stil.devOkB d.kind d.n d.p = true) : d.fits := by
 unfold Stil.Dev.fits
 by_cases h1 : d.kind = 11
 ·rw [h1] at h; simp [Stil.devOkB] at h; omega
 ·by_cases h2 : d.kind = 12
  ·rw [h2] at h; have := devOk_dec h; omega
  ·by_cases h3 : d.kind = 13
   ·rw [h3] at h; simp [Stil.devOkB] at h; omega
   ·have := devOk_dev h h1 h2 h3; omega
theorem devRead_fits (l : List UInt8) : (Stil.devRead l).fits := by
 unfold Stil.devRead
 split
 ·rename_i h
  apply devOk_fits
  cases hok : Stil.devOkB (Stil.guess l).kind (Stil.guess l).n (Stil.guess l).p
  ·exfalso
   have ht : (Stil.guess l).text = [] := by unfold Stil.Dev.text Stil.devText; rw [hok]; rfl
   unfold Stil.devReadB at h
   rw [ht] at h
   cases l <;> simp at h
  ·rfl
 ·unfold Stil.Dev.fits; simp
theorem args_fits (c : UInt8) (l : List UInt8) : ∀ d ∈ Stil.args c l, d.fits := by
 intro d hd
 obtain ⟨p, _, rfl⟩ := List.mem_map.1 (List.mem_of_mem_take hd)
 exact devRead_fits p
theorem signFrom_fits (l : List UInt8) (i n : Nat) : ∀ m k, ∀ d ∈ (Stil.signFrom l i n m k).args, d.fits
 | 0, k, d, hd => by simp [Stil.signFrom] at hd
 | m + 1, k, d, hd => by
  unfold Stil.signFrom at hd
  split at hd
  ·rcases List.mem_append.1 hd with h | h <;> exact args_fits _ _ d h
  ·exact signFrom_fits l i n m (k + 1) d hd
theorem guessHead_fits (l : List UInt8) : ∀ d ∈ (Stil.guessHead l).args, d.fits := by
 intro d hd
 unfold Stil.guessHead at hd
 split at hd
 ·exact args_fits _ _ d hd
 ·split at hd
  ·exact args_fits _ _ d hd
  ·split at hd <;> exact args_fits _ _ d hd
theorem guessName_fits (l : List UInt8) : ∀ m k, ∀ d ∈ (Stil.guessName l m k).args, d.fits
 | 0, _, d, hd => guessHead_fits l d hd
 | m + 1, k, d, hd => by
  unfold Stil.guessName at hd
  split at hd
  ·exact args_fits _ _ d hd
  ·exact guessName_fits l m (k + 1) d hd
theorem scan_fits (l : List UInt8) : ∀ m k, ∀ d ∈ (Stil.scan l m k).args, d.fits
 | 0, _, d, hd => guessName_fits l _ _ d hd
 | m + 1, k, d, hd => by
  unfold Stil.scan at hd
  split at hd
  ·exact signFrom_fits _ _ _ _ _ d hd
  ·exact scan_fits l m (k + 1) d hd
theorem eguess_fits (l : List UInt8) : ∀ d ∈ (Stil.eguess l).args, d.fits := scan_fits l _ _
theorem args8 (c : UInt8) (a b : List UInt8) : (Stil.args c a ++ Stil.args c b).length ≤ 8 := by
 have := args_le c a; have := args_le c b; simp; omega
theorem signFrom_len (l : List UInt8) (i n : Nat) : ∀ m k, (Stil.signFrom l i n m k).args.length ≤ 8
 | 0, k => by simp [Stil.signFrom]
 | m + 1, k => by
  unfold Stil.signFrom
  split
  ·exact args8 _ _ _
  ·exact signFrom_len l i n m (k + 1)
theorem guessName_len (l : List UInt8) : ∀ m k, (Stil.guessName l m k).args.length ≤ 8
 | 0, _ => by
  show (Stil.guessHead l).args.length ≤ 8
  have h1 := args_le 32 (l.drop 1); have h2 := args_le 58 (l.drop 1); have h3 := args_le 32 l
  unfold Stil.guessHead
  split
  ·simp only; omega
  ·split
   ·simp only; omega
   ·split <;> (simp only; omega)
 | m + 1, k => by
  unfold Stil.guessName
  split
  ·have := args_le 44 (l.drop ((Stil.elemName k).length + 1)); simp only; omega
  ·exact guessName_len l m (k + 1)
theorem scan_len (l : List UInt8) : ∀ m k, (Stil.scan l m k).args.length ≤ 8
 | 0, _ => guessName_len l _ _
 | m + 1, k => by
  unfold Stil.scan
  split
  ·exact signFrom_len _ _ _ _ _
  ·exact scan_len l m (k + 1)
theorem eguess_len (l : List UInt8) : (Stil.eguess l).args.length ≤ 8 := scan_len l _ _
theorem elem_chain {w w1 w2 : World} {o : Obj} (hb : Below (w.alloc (.cells #[.int .i64 0, .slice none 0 0] 29)).heap.size (w.alloc (.cells #[.int .i64 0, .slice none 0 0] 29)) w1) (hb2 : Below (w1.alloc o).heap.size (w1.alloc o) w2) :
  Below (w.heap.size + 1) (w.alloc (.cells #[.int .i64 0, .slice none 0 0] 29)) w2 := by
 have h1 := hb.size
 simp at h1
 exact (hb.mono (by simp)).trans ((below_two hb2).mono (by omega))
theorem s_elemRead_no (l : List UInt8) (w : World) (hs : l.length ≤ 1000000000) (hno : l = [] ∨ 100 < l.length) :
  Calls Tryz.prog 69 #[.string ⟨l.toArray⟩] w fun e w' => e = .returned (.tuple #[.agg #[.int .i64 0, .slice none 0 0], .bool false]) ∧ Below w.heap.size w w' := by
 by_cases hnil : l = []
 ·have hne : l.isEmpty = true := by simpa using hnil
  clear hnil hno
  go_enter Tryz.func69, Tryz.ntmps69
  go_wp2
  refine bodyPost_ret (v := .tuple #[.agg #[.int .i64 0, .slice none 0 0], .bool false]) (by simp [results, Tryz.results69, go_sem]) rfl ⟨rfl, ?_⟩
  (repeat (first | exact Below.refl _ _ | assumption | refine bl_alloc ?_ _ | refine bl_drewN ?_ _ | refine bl_drew ?_ | refine bl_grow ?_ _ _ | refine bl_set (Nat.le_refl _) ?_ _ | refine bl_call ?_ (by assumption)))
 ·have hne : l.isEmpty = false := by simpa using hnil
  have h1 : decide (100 < (l.length : Int)) = true := by
   rw [decide_eq_true_eq]; rcases hno with h | h
   ·exact absurd h hnil
   ·omega
  clear hnil hno
  go_enter Tryz.func69, Tryz.ntmps69
  go_wp2
  refine bodyPost_ret (v := .tuple #[.agg #[.int .i64 0, .slice none 0 0], .bool false]) (by simp [results, Tryz.results69, go_sem]) rfl ⟨rfl, ?_⟩
  (repeat (first | exact Below.refl _ _ | assumption | refine bl_alloc ?_ _ | refine bl_drewN ?_ _ | refine bl_drew ?_ | refine bl_grow ?_ _ _ | refine bl_set (Nat.le_refl _) ?_ _ | refine bl_call ?_ (by assumption)))
theorem s_elemRead_go (l : List UInt8) (w : World) (hne : l.isEmpty = false) (hl : l.length ≤ 100) :
  Calls Tryz.prog 69 #[.string ⟨l.toArray⟩] w fun e w' => ∃ v, e = .returned (.tuple #[.agg #[.int .i64 (Stil.elemRead l).op, v], .bool (Stil.elemReadB l)]) ∧ w'.ownsRow w.heap.size 74 3 v (Stil.elemRead l).args.length (devsCells (Stil.elemRead l).args) ∧ Below w.heap.size w w' := by
 have h1 : decide (100 < (l.length : Int)) = false := by rw [decide_eq_false_iff_not]; omega
 have HF : Hid (∀ d ∈ (Stil.eguess l).args, d.fits) := eguess_fits l
 have HL : Hid ((Stil.eguess l).args.length ≤ 8) := eguess_len l
 have HB : Hid (Stil.elemReadB l = ((Stil.elemText (Stil.eguess l).op (Stil.eguess l).args) == l)) := by
  show _ = _; unfold Stil.elemReadB Stil.Elem.text; rw [hne]; simp [hl]
 cases ht : (Stil.elemText (Stil.eguess l).op (Stil.eguess l).args == l)
 ·have HD : Hid (Stil.elemReadB l = false ∧ Stil.elemRead l = ⟨0, []⟩) := by
   have : Stil.elemReadB l = false := by rw [HB.out, ht]
   exact ⟨this, by unfold Stil.elemRead; rw [this]; rfl⟩
  clear HB
  go_enter Tryz.func69, Tryz.ntmps69
  go_wp2_with (first | (go_at_call 96; refine (s_eguess l _ hl).mono ?_; rintro e w1 ⟨v, rfl, hown, hb⟩; rcases Joins.ownsRow_forms hown with ⟨rfl, hv0⟩ | ⟨g, cap, rfl⟩))
  focus clear hv0
  all_goals
   go_wp2_with (first | (go_at_call 50; refine (s_elemText _ _ (Stil.eguess l).args _ (DevsAt.of_owns (hown.alloc _)) HF.out (by have := HL.out; omega)).mono ?_; rintro e w2 ⟨rfl, hb2⟩; have hB2 := elem_chain hb hb2; obtain ⟨c0, f0, c1, f1, hz⟩ := res2 hB2; obtain ⟨hc2, hf2⟩ := bcell hb2; have hz2 := below_lt hb2))
   refine bodyPost_ret (v := .tuple #[.agg #[.int .i64 0, .slice none 0 0], .bool false]) (by simp [results, Tryz.results69, go_sem, c0, c1]) rfl ⟨_, by rw [HD.out.1, HD.out.2], ?_, ?_⟩
   ·rw [HD.out.2]; exact World.ownsRow_nil _ _ _ _
   ·exact bl_set (Nat.le_refl _) (bl_set (Nat.le_refl _) ((below_alloc _ _).trans (hB2.mono (by omega))) _) _
 ·have HD : Hid (Stil.elemReadB l = true ∧ Stil.elemRead l = Stil.eguess l) := by
   have : Stil.elemReadB l = true := by rw [HB.out, ht]
   exact ⟨this, by unfold Stil.elemRead; rw [this]; rfl⟩
  clear HB
  go_enter Tryz.func69, Tryz.ntmps69
  go_wp2_with (first | (go_at_call 96; refine (s_eguess l _ hl).mono ?_; rintro e w1 ⟨v, rfl, hown, hb⟩; rcases Joins.ownsRow_forms hown with ⟨rfl, hv0⟩ | ⟨g, cap, rfl⟩))
  focus clear hv0
  all_goals
   go_wp2_with (first | (go_at_call 50; refine (s_elemText _ _ (Stil.eguess l).args _ (DevsAt.of_owns (hown.alloc _)) HF.out (by have := HL.out; omega)).mono ?_; rintro e w2 ⟨rfl, hb2⟩; have hB2 := elem_chain hb hb2; obtain ⟨c0, f0, c1, f1, hz⟩ := res2 hB2; obtain ⟨hc2, hf2⟩ := bcell hb2; have hz2 := below_lt hb2))
   first
    | refine bodyPost_ret (v := .tuple #[.agg #[.int .i64 (Stil.eguess l).op, .slice (some ⟨g, 0, none⟩) (Stil.eguess l).args.length cap], .bool true]) (by simp [results, Tryz.results69, go_sem, c0, c1]) rfl ⟨_, by rw [HD.out.1, HD.out.2], ?_, ?_⟩
    | refine bodyPost_ret (v := .tuple #[.agg #[.int .i64 (Stil.eguess l).op, .slice none 0 0], .bool true]) (by simp [results, Tryz.results69, go_sem, c0, c1]) rfl ⟨_, by rw [HD.out.1, HD.out.2], ?_, ?_⟩
   ·rw [HD.out.2]; exact owns_res (Joins.ownsRow_le (ownsRow_below (hown.alloc _) hb2) (by simp)) _ _
   ·exact bl_set (Nat.le_refl _) (bl_set (Nat.le_refl _) ((below_alloc _ _).trans (hB2.mono (by omega))) _) _
theorem s_elemRead (l : List UInt8) (w : World) (hs : l.length ≤ 1000000000) :
  Calls Tryz.prog 69 #[.string ⟨l.toArray⟩] w fun e w' => ∃ v, e = .returned (.tuple #[.agg #[.int .i64 (Stil.elemRead l).op, v], .bool (Stil.elemReadB l)]) ∧ w'.ownsRow w.heap.size 74 3 v (Stil.elemRead l).args.length (devsCells (Stil.elemRead l).args) ∧ Below w.heap.size w w' := by
 by_cases h : l = [] ∨ 100 < l.length
 ·refine (s_elemRead_no l w hs h).mono ?_
  rintro e w' ⟨rfl, hb⟩
  have hf : Stil.elemReadB l = false := by
   unfold Stil.elemReadB
   rcases h with h | h
   ·subst h; rfl
   ·have : decide (l.length ≤ 100) = false := by simp; omega
    rw [this]; simp
  have he : Stil.elemRead l = ⟨0, []⟩ := by unfold Stil.elemRead; rw [hf]; rfl
  rw [hf, he]
  exact ⟨_, rfl, World.ownsRow_nil _ _ _ _, hb⟩
 ·refine s_elemRead_go l w ?_ (by omega)
  cases l with
  | nil => exact absurd (Or.inl rfl) h
  | cons => rfl
theorem dev_eta (d e : Stil.Dev) : (d = e) ↔ (d.kind = e.kind ∧ d.n = e.n ∧ d.p = e.p) := by
 cases d; cases e; simp
end Go.Proofs.YtipdjmbgbehkaaaGreatDoor
