/- Contracts of the specification's chapter 2, eighth part: ElemText of contacts, and whole. -/
import Derived.Test.YtnbdgpepancfnabDoorS2g
namespace Go.Proofs.YtnbdgpepancfnabDoor
open Go.RowKit Go.Sort Go.BigFrame
set_option maxHeartbeats 1000000 in
set_option maxRecDepth 100000 in
theorem s_elemText_none (op : Int) (v : Value) (ds : List Stil.Dev) (w : World) (hat : DevsAt w v ds) (hfit : ∀ d ∈ ds, d.fits) (hl : ds.length ≤ 9223372036854775807) (hco : Stil.isCoil op ds = false) (hct : Stil.isContact op ds = false) :
    Calls Tryd.prog 10 #[.agg #[.int .i64 op, v]] w fun e w' => e = .returned (.string ⟨(Stil.elemText op ds).toArray⟩) ∧ Below w.heap.size w w' := by
  have HD : Hid (Stil.elemText op ds = []) := by show _ = _; unfold Stil.elemText; rw [hco, hct]; rfl
  have HV : Hid (∀ W, Below w.heap.size w W → DevsAt W v ds) := fun W hW => hat.below hW
  have HF : Hid (∀ x ∈ ds, x.fits) := hfit
  have HC : Hid (Stil.isCoil op ds = false) := hco
  have HK : Hid (Stil.isContact op ds = false) := hct
  obtain ⟨a, cap, rfl, _⟩ := hat
  clear hfit hco hct
  go_enter Tryd.func10, Tryd.ntmps10
  go_wp2_with (first | (go_at_call 6; refine (s_isCoil op _ ds _ (HV.out _ (by (repeat (first | exact Below.refl _ _ | assumption | refine bl_alloc ?_ _ | refine bl_drewN ?_ _ | refine bl_drew ?_ | refine bl_grow ?_ _ _ | refine bl_set (Nat.le_refl _) ?_ _ | refine bl_call ?_ (by assumption))))) HF.out (by exact hl)).mono ?_; rw [HC.out]; rintro e w1 ⟨rfl, hb⟩; obtain ⟨hc, hf⟩ := bcell hb; have hz0 : w.heap.size < w1.heap.size := Nat.lt_of_lt_of_le (by first | assumption | (simp; done) | (simp; omega)) hb.size) | (go_at_call 24; refine (s_isContact op _ ds _ (HV.out _ (by (repeat (first | exact Below.refl _ _ | assumption | refine bl_alloc ?_ _ | refine bl_drewN ?_ _ | refine bl_drew ?_ | refine bl_grow ?_ _ _ | refine bl_set (Nat.le_refl _) ?_ _ | refine bl_call ?_ (by assumption))))) HF.out (by exact hl)).mono ?_; rw [HK.out]; rintro e w2 ⟨rfl, hb2⟩; obtain ⟨hc2, hf2⟩ := bcell hb2; have hz2 : w.heap.size < w2.heap.size := Nat.lt_of_lt_of_le (by first | assumption | (simp; done) | (simp; omega)) hb2.size))
  go_ret
  exact ⟨ret_string (by rw [HD.out]), by (repeat (first | exact Below.refl _ _ | assumption | refine bl_alloc ?_ _ | refine bl_drewN ?_ _ | refine bl_drew ?_ | refine bl_grow ?_ _ _ | refine bl_set (Nat.le_refl _) ?_ _ | refine bl_call ?_ (by assumption)))⟩
set_option maxHeartbeats 1000000 in
set_option maxRecDepth 100000 in
theorem s_elemText_open (v : Value) (d : Stil.Dev) (w : World) (hat : DevsAt w v [d]) (hfit : ∀ x ∈ [d], x.fits) (hco : Stil.isCoil 1 [d] = false) (hct : Stil.isContact 1 [d] = true) :
    Calls Tryd.prog 10 #[.agg #[.int .i64 1, v]] w fun e w' => e = .returned (.string ⟨(Stil.elemText 1 [d]).toArray⟩) ∧ Below w.heap.size w w' := by
  have HD : Hid (Stil.elemText 1 [d] = d.text) := by show _ = _; unfold Stil.elemText; rw [hco, hct]; simp
  have HV : Hid (∀ W, Below w.heap.size w W → DevsAt W v [d]) := fun W hW => hat.below hW
  have HF : Hid (∀ x ∈ [d], x.fits) := hfit
  have HC : Hid (Stil.isCoil 1 [d] = false) := hco
  have HK : Hid (Stil.isContact 1 [d] = true) := hct
  obtain ⟨b, o, cap, rfl, hlt, c0, c1, c2⟩ := hat.one
  obtain ⟨hn1, hn2⟩ := (hfit d (by simp)).2.1
  have hx := devText_len d.kind d.n d.p hn1 hn2
  have hlt1 : b < w.heap.size + 1 := by omega
  clear hat hfit hco hct
  go_enter Tryd.func10, Tryd.ntmps10
  go_wp2_with (first | (go_at_call 6; refine (s_isCoil 1 _ [d] _ (HV.out _ (by (repeat (first | exact Below.refl _ _ | assumption | refine bl_alloc ?_ _ | refine bl_drewN ?_ _ | refine bl_drew ?_ | refine bl_grow ?_ _ _ | refine bl_set (Nat.le_refl _) ?_ _ | refine bl_call ?_ (by assumption))))) HF.out (by simp)).mono ?_; rw [HC.out]; rintro e w1 ⟨rfl, hb⟩; obtain ⟨hc, hf⟩ := bcell hb; have hz0 : w.heap.size < w1.heap.size := Nat.lt_of_lt_of_le (by first | assumption | (simp; done) | (simp; omega)) hb.size; have hz1 : b < w1.heap.size := Nat.lt_of_lt_of_le (by first | assumption | (simp; done) | (simp; omega)) hb.size) | (go_at_call 24; refine (s_isContact 1 _ [d] _ (HV.out _ (by (repeat (first | exact Below.refl _ _ | assumption | refine bl_alloc ?_ _ | refine bl_drewN ?_ _ | refine bl_drew ?_ | refine bl_grow ?_ _ _ | refine bl_set (Nat.le_refl _) ?_ _ | refine bl_call ?_ (by assumption))))) HF.out (by simp)).mono ?_; rw [HK.out]; rintro e w2 ⟨rfl, hb2⟩; obtain ⟨hc2, hf2⟩ := bcell hb2; have hz2 : w.heap.size < w2.heap.size := Nat.lt_of_lt_of_le (by first | assumption | (simp; done) | (simp; omega)) hb2.size; have hz3 : b < w2.heap.size := Nat.lt_of_lt_of_le (by first | assumption | (simp; done) | (simp; omega)) hb2.size) | (go_at_call 23; refine (s_devText _ _ _ _ hn1 hn2).mono ?_; rintro e w3 ⟨rfl, hb⟩; obtain ⟨hc, hf⟩ := bcell hb; have hz0 : w.heap.size < w3.heap.size := Nat.lt_of_lt_of_le (by first | assumption | (simp; done) | (simp; omega)) hb.size; have hz1 : b < w3.heap.size := Nat.lt_of_lt_of_le (by first | assumption | (simp; done) | (simp; omega)) hb.size))
  go_ret
  exact ⟨ret_string (by rw [HD.out]; rfl), by (repeat (first | exact Below.refl _ _ | assumption | refine bl_alloc ?_ _ | refine bl_drewN ?_ _ | refine bl_drew ?_ | refine bl_grow ?_ _ _ | refine bl_set (Nat.le_refl _) ?_ _ | refine bl_call ?_ (by assumption)))⟩
set_option maxHeartbeats 1000000 in
set_option maxRecDepth 100000 in
theorem s_elemText_shut (v : Value) (d : Stil.Dev) (w : World) (hat : DevsAt w v [d]) (hfit : ∀ x ∈ [d], x.fits) (hco : Stil.isCoil 2 [d] = false) (hct : Stil.isContact 2 [d] = true) :
    Calls Tryd.prog 10 #[.agg #[.int .i64 2, v]] w fun e w' => e = .returned (.string ⟨(Stil.elemText 2 [d]).toArray⟩) ∧ Below w.heap.size w w' := by
  have HD : Hid (Stil.elemText 2 [d] = 47 :: d.text) := by show _ = _; unfold Stil.elemText; rw [hco, hct]; simp
  have HV : Hid (∀ W, Below w.heap.size w W → DevsAt W v [d]) := fun W hW => hat.below hW
  have HF : Hid (∀ x ∈ [d], x.fits) := hfit
  have HC : Hid (Stil.isCoil 2 [d] = false) := hco
  have HK : Hid (Stil.isContact 2 [d] = true) := hct
  obtain ⟨b, o, cap, rfl, hlt, c0, c1, c2⟩ := hat.one
  obtain ⟨hn1, hn2⟩ := (hfit d (by simp)).2.1
  have hx := devText_len d.kind d.n d.p hn1 hn2
  have hlt1 : b < w.heap.size + 1 := by omega
  clear hat hfit hco hct
  go_enter Tryd.func10, Tryd.ntmps10
  go_wp2_with (first | (go_at_call 6; refine (s_isCoil 2 _ [d] _ (HV.out _ (by (repeat (first | exact Below.refl _ _ | assumption | refine bl_alloc ?_ _ | refine bl_drewN ?_ _ | refine bl_drew ?_ | refine bl_grow ?_ _ _ | refine bl_set (Nat.le_refl _) ?_ _ | refine bl_call ?_ (by assumption))))) HF.out (by simp)).mono ?_; rw [HC.out]; rintro e w1 ⟨rfl, hb⟩; obtain ⟨hc, hf⟩ := bcell hb; have hz0 : w.heap.size < w1.heap.size := Nat.lt_of_lt_of_le (by first | assumption | (simp; done) | (simp; omega)) hb.size; have hz1 : b < w1.heap.size := Nat.lt_of_lt_of_le (by first | assumption | (simp; done) | (simp; omega)) hb.size) | (go_at_call 24; refine (s_isContact 2 _ [d] _ (HV.out _ (by (repeat (first | exact Below.refl _ _ | assumption | refine bl_alloc ?_ _ | refine bl_drewN ?_ _ | refine bl_drew ?_ | refine bl_grow ?_ _ _ | refine bl_set (Nat.le_refl _) ?_ _ | refine bl_call ?_ (by assumption))))) HF.out (by simp)).mono ?_; rw [HK.out]; rintro e w2 ⟨rfl, hb2⟩; obtain ⟨hc2, hf2⟩ := bcell hb2; have hz2 : w.heap.size < w2.heap.size := Nat.lt_of_lt_of_le (by first | assumption | (simp; done) | (simp; omega)) hb2.size; have hz3 : b < w2.heap.size := Nat.lt_of_lt_of_le (by first | assumption | (simp; done) | (simp; omega)) hb2.size) | (go_at_call 23; refine (s_devText _ _ _ _ hn1 hn2).mono ?_; rintro e w3 ⟨rfl, hb⟩; obtain ⟨hc, hf⟩ := bcell hb; have hz0 : w.heap.size < w3.heap.size := Nat.lt_of_lt_of_le (by first | assumption | (simp; done) | (simp; omega)) hb.size; have hz1 : b < w3.heap.size := Nat.lt_of_lt_of_le (by first | assumption | (simp; done) | (simp; omega)) hb.size))
  go_ret
  exact ⟨ret_string (by rw [HD.out]; exact ba_app1 _ _), by (repeat (first | exact Below.refl _ _ | assumption | refine bl_alloc ?_ _ | refine bl_drewN ?_ _ | refine bl_drew ?_ | refine bl_grow ?_ _ _ | refine bl_set (Nat.le_refl _) ?_ _ | refine bl_call ?_ (by assumption)))⟩
set_option maxHeartbeats 1000000 in
set_option maxRecDepth 100000 in
theorem s_elemText_up (v : Value) (d f : Stil.Dev) (w : World) (hat : DevsAt w v [d, f]) (hfit : ∀ x ∈ [d, f], x.fits) (hco : Stil.isCoil 3 [d, f] = false) (hct : Stil.isContact 3 [d, f] = true) :
    Calls Tryd.prog 10 #[.agg #[.int .i64 3, v]] w fun e w' => e = .returned (.string ⟨(Stil.elemText 3 [d, f]).toArray⟩) ∧ Below w.heap.size w w' := by
  have HD : Hid (Stil.elemText 3 [d, f] = 43 :: d.text ++ 58 :: f.text) := by show _ = _; unfold Stil.elemText; rw [hco, hct]; simp
  have HV : Hid (∀ W, Below w.heap.size w W → DevsAt W v [d, f]) := fun W hW => hat.below hW
  have HF : Hid (∀ x ∈ [d, f], x.fits) := hfit
  have HC : Hid (Stil.isCoil 3 [d, f] = false) := hco
  have HK : Hid (Stil.isContact 3 [d, f] = true) := hct
  obtain ⟨b, o, cap, rfl, hlt, ⟨c0, c1, c2⟩, ⟨e0, e1, e2⟩⟩ := hat.two
  obtain ⟨hn1, hn2⟩ := (hfit d (by simp)).2.1
  obtain ⟨hm1, hm2⟩ := (hfit f (by simp)).2.1
  have hx := devText_len d.kind d.n d.p hn1 hn2
  have hy := devText_len f.kind f.n f.p hm1 hm2
  have hlt1 : b < w.heap.size + 1 := by omega
  clear hat hfit hco hct
  go_enter Tryd.func10, Tryd.ntmps10
  go_wp2_with (first | (go_at_call 6; refine (s_isCoil 3 _ [d, f] _ (HV.out _ (by (repeat (first | exact Below.refl _ _ | assumption | refine bl_alloc ?_ _ | refine bl_drewN ?_ _ | refine bl_drew ?_ | refine bl_grow ?_ _ _ | refine bl_set (Nat.le_refl _) ?_ _ | refine bl_call ?_ (by assumption))))) HF.out (by simp)).mono ?_; rw [HC.out]; rintro e w1 ⟨rfl, hb⟩; obtain ⟨hc, hf⟩ := bcell hb; have hz0 : w.heap.size < w1.heap.size := Nat.lt_of_lt_of_le (by first | assumption | (simp; done) | (simp; omega)) hb.size; have hz1 : b < w1.heap.size := Nat.lt_of_lt_of_le (by first | assumption | (simp; done) | (simp; omega)) hb.size) | (go_at_call 24; refine (s_isContact 3 _ [d, f] _ (HV.out _ (by (repeat (first | exact Below.refl _ _ | assumption | refine bl_alloc ?_ _ | refine bl_drewN ?_ _ | refine bl_drew ?_ | refine bl_grow ?_ _ _ | refine bl_set (Nat.le_refl _) ?_ _ | refine bl_call ?_ (by assumption))))) HF.out (by simp)).mono ?_; rw [HK.out]; rintro e w2 ⟨rfl, hb2⟩; obtain ⟨hc2, hf2⟩ := bcell hb2; have hz2 : w.heap.size < w2.heap.size := Nat.lt_of_lt_of_le (by first | assumption | (simp; done) | (simp; omega)) hb2.size; have hz3 : b < w2.heap.size := Nat.lt_of_lt_of_le (by first | assumption | (simp; done) | (simp; omega)) hb2.size))
  have q0 : w2.cell? ⟨w.heap.size, 0, none⟩ = some (.int .i64 3) := by rw [hc2 _ _ hz0, hc _ _ (by simp)]; simp [go_sem]
  have q1 : w2.cell? ⟨w.heap.size, 1, none⟩ = some (.slice (some ⟨b, o, none⟩) 2 cap) := by rw [hc2 _ _ hz0, hc _ _ (by simp)]; simp [go_sem]
  have hbw : Below w.heap.size w w2 := by (repeat (first | exact Below.refl _ _ | assumption | refine bl_alloc ?_ _ | refine bl_drewN ?_ _ | refine bl_drew ?_ | refine bl_grow ?_ _ _ | refine bl_set (Nat.le_refl _) ?_ _ | refine bl_call ?_ (by assumption)))
  have r0 := cell_regrown q0
  have r1 := cell_regrown q1
  have r2 := cell_regrown (cell_later hbw c0)
  have r3 := cell_regrown (cell_later hbw c1)
  have r4 := cell_regrown (cell_later hbw c2)
  have r5 := cell_regrown (cell_later hbw e0)
  have r6 := cell_regrown (cell_later hbw e1)
  have r7 := cell_regrown (cell_later hbw e2)
  clear hc hf hc2 hf2
  refine wp_region_quiet_below (by kernel_rfl) (by kernel_rfl) ?_
  repeat (go_big_quiet_step ((first | exact Calls.regrown_of (s_devText _ _ _ _ (by assumption) (by assumption)) | exact Calls.regrown_of (s_sign _ _ (by omega) (by omega)))))
  refine wpQuiet_nil ?_
  intro _ hw'
  obtain ⟨⟨dq, osq⟩, hw''⟩ := hw'
  subst hw''
  go_wp2
  go_ret
  exact ⟨ret_string (by rw [HD.out]; rw [ba_app1, ba_app2, ba_app]; simp [Stil.Dev.text]), by (repeat (first | exact Below.refl _ _ | assumption | refine bl_alloc ?_ _ | refine bl_drewN ?_ _ | refine bl_drew ?_ | refine bl_grow ?_ _ _ | refine bl_set (Nat.le_refl _) ?_ _ | refine bl_call ?_ (by assumption)))⟩
set_option maxHeartbeats 1000000 in
set_option maxRecDepth 100000 in
theorem s_elemText_down (v : Value) (d f : Stil.Dev) (w : World) (hat : DevsAt w v [d, f]) (hfit : ∀ x ∈ [d, f], x.fits) (hco : Stil.isCoil 4 [d, f] = false) (hct : Stil.isContact 4 [d, f] = true) :
    Calls Tryd.prog 10 #[.agg #[.int .i64 4, v]] w fun e w' => e = .returned (.string ⟨(Stil.elemText 4 [d, f]).toArray⟩) ∧ Below w.heap.size w w' := by
  have HD : Hid (Stil.elemText 4 [d, f] = 45 :: d.text ++ 58 :: f.text) := by show _ = _; unfold Stil.elemText; rw [hco, hct]; simp
  have HV : Hid (∀ W, Below w.heap.size w W → DevsAt W v [d, f]) := fun W hW => hat.below hW
  have HF : Hid (∀ x ∈ [d, f], x.fits) := hfit
  have HC : Hid (Stil.isCoil 4 [d, f] = false) := hco
  have HK : Hid (Stil.isContact 4 [d, f] = true) := hct
  obtain ⟨b, o, cap, rfl, hlt, ⟨c0, c1, c2⟩, ⟨e0, e1, e2⟩⟩ := hat.two
  obtain ⟨hn1, hn2⟩ := (hfit d (by simp)).2.1
  obtain ⟨hm1, hm2⟩ := (hfit f (by simp)).2.1
  have hx := devText_len d.kind d.n d.p hn1 hn2
  have hy := devText_len f.kind f.n f.p hm1 hm2
  have hlt1 : b < w.heap.size + 1 := by omega
  clear hat hfit hco hct
  go_enter Tryd.func10, Tryd.ntmps10
  go_wp2_with (first | (go_at_call 6; refine (s_isCoil 4 _ [d, f] _ (HV.out _ (by (repeat (first | exact Below.refl _ _ | assumption | refine bl_alloc ?_ _ | refine bl_drewN ?_ _ | refine bl_drew ?_ | refine bl_grow ?_ _ _ | refine bl_set (Nat.le_refl _) ?_ _ | refine bl_call ?_ (by assumption))))) HF.out (by simp)).mono ?_; rw [HC.out]; rintro e w1 ⟨rfl, hb⟩; obtain ⟨hc, hf⟩ := bcell hb; have hz0 : w.heap.size < w1.heap.size := Nat.lt_of_lt_of_le (by first | assumption | (simp; done) | (simp; omega)) hb.size; have hz1 : b < w1.heap.size := Nat.lt_of_lt_of_le (by first | assumption | (simp; done) | (simp; omega)) hb.size) | (go_at_call 24; refine (s_isContact 4 _ [d, f] _ (HV.out _ (by (repeat (first | exact Below.refl _ _ | assumption | refine bl_alloc ?_ _ | refine bl_drewN ?_ _ | refine bl_drew ?_ | refine bl_grow ?_ _ _ | refine bl_set (Nat.le_refl _) ?_ _ | refine bl_call ?_ (by assumption))))) HF.out (by simp)).mono ?_; rw [HK.out]; rintro e w2 ⟨rfl, hb2⟩; obtain ⟨hc2, hf2⟩ := bcell hb2; have hz2 : w.heap.size < w2.heap.size := Nat.lt_of_lt_of_le (by first | assumption | (simp; done) | (simp; omega)) hb2.size; have hz3 : b < w2.heap.size := Nat.lt_of_lt_of_le (by first | assumption | (simp; done) | (simp; omega)) hb2.size))
  have q0 : w2.cell? ⟨w.heap.size, 0, none⟩ = some (.int .i64 4) := by rw [hc2 _ _ hz0, hc _ _ (by simp)]; simp [go_sem]
  have q1 : w2.cell? ⟨w.heap.size, 1, none⟩ = some (.slice (some ⟨b, o, none⟩) 2 cap) := by rw [hc2 _ _ hz0, hc _ _ (by simp)]; simp [go_sem]
  have hbw : Below w.heap.size w w2 := by (repeat (first | exact Below.refl _ _ | assumption | refine bl_alloc ?_ _ | refine bl_drewN ?_ _ | refine bl_drew ?_ | refine bl_grow ?_ _ _ | refine bl_set (Nat.le_refl _) ?_ _ | refine bl_call ?_ (by assumption)))
  have r0 := cell_regrown q0
  have r1 := cell_regrown q1
  have r2 := cell_regrown (cell_later hbw c0)
  have r3 := cell_regrown (cell_later hbw c1)
  have r4 := cell_regrown (cell_later hbw c2)
  have r5 := cell_regrown (cell_later hbw e0)
  have r6 := cell_regrown (cell_later hbw e1)
  have r7 := cell_regrown (cell_later hbw e2)
  clear hc hf hc2 hf2
  refine wp_region_quiet_below (by kernel_rfl) (by kernel_rfl) ?_
  repeat (go_big_quiet_step ((first | exact Calls.regrown_of (s_devText _ _ _ _ (by assumption) (by assumption)) | exact Calls.regrown_of (s_sign _ _ (by omega) (by omega)))))
  refine wpQuiet_nil ?_
  intro _ hw'
  obtain ⟨⟨dq, osq⟩, hw''⟩ := hw'
  subst hw''
  go_wp2
  go_ret
  exact ⟨ret_string (by rw [HD.out]; rw [ba_app1, ba_app2, ba_app]; simp [Stil.Dev.text]), by (repeat (first | exact Below.refl _ _ | assumption | refine bl_alloc ?_ _ | refine bl_drewN ?_ _ | refine bl_drew ?_ | refine bl_grow ?_ _ _ | refine bl_set (Nat.le_refl _) ?_ _ | refine bl_call ?_ (by assumption)))⟩
set_option maxHeartbeats 1000000 in
set_option maxRecDepth 100000 in
theorem s_elemText_cmp (op : Int) (v : Value) (d f : Stil.Dev) (w : World) (h1 : 5 ≤ op) (h2 : op ≤ 10) (hat : DevsAt w v [d, f]) (hfit : ∀ x ∈ [d, f], x.fits) (hco : Stil.isCoil op [d, f] = false) (hct : Stil.isContact op [d, f] = true) :
    Calls Tryd.prog 10 #[.agg #[.int .i64 op, v]] w fun e w' => e = .returned (.string ⟨(Stil.elemText op [d, f]).toArray⟩) ∧ Below w.heap.size w w' := by
  have HD : Hid (Stil.elemText op [d, f] = d.text ++ Stil.sign op ++ f.text) := by show _ = _; unfold Stil.elemText; rw [hco, hct]; simp [show ¬ op = 3 from by omega, show ¬ op = 4 from by omega]
  have HV : Hid (∀ W, Below w.heap.size w W → DevsAt W v [d, f]) := fun W hW => hat.below hW
  have HF : Hid (∀ x ∈ [d, f], x.fits) := hfit
  have HC : Hid (Stil.isCoil op [d, f] = false) := hco
  have HK : Hid (Stil.isContact op [d, f] = true) := hct
  obtain ⟨b, o, cap, rfl, hlt, ⟨c0, c1, c2⟩, ⟨e0, e1, e2⟩⟩ := hat.two
  obtain ⟨hn1, hn2⟩ := (hfit d (by simp)).2.1
  obtain ⟨hm1, hm2⟩ := (hfit f (by simp)).2.1
  have hx := devText_len d.kind d.n d.p hn1 hn2
  have hy := devText_len f.kind f.n f.p hm1 hm2
  have hlt1 : b < w.heap.size + 1 := by omega
  have hs : (Stil.sign op).length ≤ 2 := by
    have ho : op = 5 ∨ op = 6 ∨ op = 7 ∨ op = 8 ∨ op = 9 ∨ op = 10 := by omega
    rcases ho with rfl | rfl | rfl | rfl | rfl | rfl <;> decide
  have n1 : (op == 1) = false := by rw [beq_eq_false_iff_ne]; omega
  have n2 : (op == 2) = false := by rw [beq_eq_false_iff_ne]; omega
  have n3 : (op == 3) = false := by rw [beq_eq_false_iff_ne]; omega
  have n4 : (op == 4) = false := by rw [beq_eq_false_iff_ne]; omega
  clear hat hfit hco hct
  go_enter Tryd.func10, Tryd.ntmps10
  go_wp2_with (first | (go_at_call 6; refine (s_isCoil op _ [d, f] _ (HV.out _ (by (repeat (first | exact Below.refl _ _ | assumption | refine bl_alloc ?_ _ | refine bl_drewN ?_ _ | refine bl_drew ?_ | refine bl_grow ?_ _ _ | refine bl_set (Nat.le_refl _) ?_ _ | refine bl_call ?_ (by assumption))))) HF.out (by simp)).mono ?_; rw [HC.out]; rintro e w1 ⟨rfl, hb⟩; obtain ⟨hc, hf⟩ := bcell hb; have hz0 : w.heap.size < w1.heap.size := Nat.lt_of_lt_of_le (by first | assumption | (simp; done) | (simp; omega)) hb.size; have hz1 : b < w1.heap.size := Nat.lt_of_lt_of_le (by first | assumption | (simp; done) | (simp; omega)) hb.size) | (go_at_call 24; refine (s_isContact op _ [d, f] _ (HV.out _ (by (repeat (first | exact Below.refl _ _ | assumption | refine bl_alloc ?_ _ | refine bl_drewN ?_ _ | refine bl_drew ?_ | refine bl_grow ?_ _ _ | refine bl_set (Nat.le_refl _) ?_ _ | refine bl_call ?_ (by assumption))))) HF.out (by simp)).mono ?_; rw [HK.out]; rintro e w2 ⟨rfl, hb2⟩; obtain ⟨hc2, hf2⟩ := bcell hb2; have hz2 : w.heap.size < w2.heap.size := Nat.lt_of_lt_of_le (by first | assumption | (simp; done) | (simp; omega)) hb2.size; have hz3 : b < w2.heap.size := Nat.lt_of_lt_of_le (by first | assumption | (simp; done) | (simp; omega)) hb2.size))
  have q0 : w2.cell? ⟨w.heap.size, 0, none⟩ = some (.int .i64 op) := by rw [hc2 _ _ hz0, hc _ _ (by simp)]; simp [go_sem]
  have q1 : w2.cell? ⟨w.heap.size, 1, none⟩ = some (.slice (some ⟨b, o, none⟩) 2 cap) := by rw [hc2 _ _ hz0, hc _ _ (by simp)]; simp [go_sem]
  have hbw : Below w.heap.size w w2 := by (repeat (first | exact Below.refl _ _ | assumption | refine bl_alloc ?_ _ | refine bl_drewN ?_ _ | refine bl_drew ?_ | refine bl_grow ?_ _ _ | refine bl_set (Nat.le_refl _) ?_ _ | refine bl_call ?_ (by assumption)))
  have r0 := cell_regrown q0
  have r1 := cell_regrown q1
  have r2 := cell_regrown (cell_later hbw c0)
  have r3 := cell_regrown (cell_later hbw c1)
  have r4 := cell_regrown (cell_later hbw c2)
  have r5 := cell_regrown (cell_later hbw e0)
  have r6 := cell_regrown (cell_later hbw e1)
  have r7 := cell_regrown (cell_later hbw e2)
  clear hc hf hc2 hf2
  refine wp_region_quiet_below (by kernel_rfl) (by kernel_rfl) ?_
  repeat (go_big_quiet_step ((first | exact Calls.regrown_of (s_devText _ _ _ _ (by assumption) (by assumption)) | exact Calls.regrown_of (s_sign _ _ (by omega) (by omega)))))
  refine wpQuiet_nil ?_
  intro _ hw'
  obtain ⟨⟨dq, osq⟩, hw''⟩ := hw'
  subst hw''
  go_wp2
  go_ret
  exact ⟨ret_string (by rw [HD.out]; rw [ba_app, ba_app]; simp [Stil.Dev.text]), by (repeat (first | exact Below.refl _ _ | assumption | refine bl_alloc ?_ _ | refine bl_drewN ?_ _ | refine bl_drew ?_ | refine bl_grow ?_ _ _ | refine bl_set (Nat.le_refl _) ?_ _ | refine bl_call ?_ (by assumption)))⟩
theorem s_elemText (op : Int) (v : Value) (ds : List Stil.Dev) (w : World) (hat : DevsAt w v ds) (hfit : ∀ d ∈ ds, d.fits) (hl : ds.length ≤ 9223372036854775807) :
    Calls Tryd.prog 10 #[.agg #[.int .i64 op, v]] w fun e w' => e = .returned (.string ⟨(Stil.elemText op ds).toArray⟩) ∧ Below w.heap.size w w' := by
  cases hco : Stil.isCoil op ds
  · cases hct : Stil.isContact op ds
    · exact s_elemText_none op v ds w hat hfit hl hco hct
    · have h1 : ¬ (op < 1 ∨ 10 < op) := by
        intro h; unfold Stil.isContact at hct; rw [if_pos h] at hct; cases hct
      match ds, hat, hfit, hco, hct with
      | [], _, _, _, hct => unfold Stil.isContact at hct; rw [if_neg h1] at hct; cases hct
      | [d], hat, hfit, hco, hct =>
        have h2 : op ≤ 2 := by
          unfold Stil.isContact at hct; rw [if_neg h1] at hct; simp at hct; exact hct.1
        have ho : op = 1 ∨ op = 2 := by omega
        rcases ho with rfl | rfl
        · exact s_elemText_open v d w hat hfit hco hct
        · exact s_elemText_shut v d w hat hfit hco hct
      | [d, f], hat, hfit, hco, hct =>
        have h2 : ¬ op ≤ 2 := by
          intro h; unfold Stil.isContact at hct; rw [if_neg h1] at hct; simp [h] at hct
        by_cases h3 : op = 3
        · subst h3; exact s_elemText_up v d f w hat hfit hco hct
        · by_cases h4 : op = 4
          · subst h4; exact s_elemText_down v d f w hat hfit hco hct
          · exact s_elemText_cmp op v d f w (by omega) (by omega) hat hfit hco hct
      | d :: f :: g :: r, _, _, _, hct => unfold Stil.isContact at hct; rw [if_neg h1] at hct; cases hct
  · have h1 : ¬ (op < 21 ∨ 37 < op ∨ (ds.length : Int) ≠ Stil.arity op) := by
      intro h; unfold Stil.isCoil at hco; rw [if_pos h] at hco; cases hco
    have h2 : Stil.arity op ≤ 3 ∧ 1 ≤ Stil.arity op := by
      rcases arity_cases (op := op) (by omega) (by omega) with ⟨a, _⟩ | ⟨a, _⟩ | ⟨a, _⟩ <;> omega
    match ds, hat, hfit, hco, h1 with
    | [], _, _, _, h1 => simp at h1; omega
    | d :: r, hat, hfit, hco, h1 =>
      obtain ⟨b, o, cap, rfl, hlt, hd⟩ := hat.cons
      exact s_elemText_coil op b o cap d r w hlt (by simp at h1; omega) (by omega) (by omega) hd hfit hco
end Go.Proofs.YtnbdgpepancfnabDoor
