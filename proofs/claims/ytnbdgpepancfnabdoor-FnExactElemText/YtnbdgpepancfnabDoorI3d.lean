/- Contracts of the program's chapter 2, fifth part: whether a way takes operands. -/
import Derived.Test.YtnbdgpepancfnabDoorI3c
import Derived.Test.YtnbdgpepancfnabDoorS2b
import Derived.Shelf.Abstract
namespace Go.Proofs.YtnbdgpepancfnabDoor
open Go.RowKit Go.Sort Go.BigFrame
def PlaceFn (n : Nat) (p : Stil.Dev → Bool) : Prop := (∀ args w, (callFunc n args).run Tryd.prog w = .ok (.enter n args) w) ∧ ∀ (d : Stil.Dev) (w : World), RowsAt w → d.fits → Calls Tryd.prog n #[.agg #[.int .i64 d.kind, .int .i64 d.n, .int .i64 d.p]] w fun e w' => e = .returned (.bool (p d)) ∧ Below w.heap.size w w'
def placesB : List (Stil.Dev → Bool) → List Stil.Dev → Bool
  | [], [] => true
  | p :: ps, d :: ds => p d && placesB ps ds
  | _, _ => false
def takesB (ps : List (Stil.Dev → Bool)) (ds : List Stil.Dev) : Bool := !ds.isEmpty && placesB ps ds
theorem places_len : ∀ (ps : List (Stil.Dev → Bool)) (ds : List Stil.Dev), ds.length ≠ ps.length → placesB ps ds = false
  | [], [], h => absurd rfl h
  | [], _ :: _, _ => rfl
  | _ :: _, [], _ => rfl
  | p :: ps, d :: ds, h => by
    have := places_len ps ds (by simpa using h)
    simp [placesB, this]
theorem places_drop : ∀ (ps : List (Stil.Dev → Bool)) (ds : List Stil.Dev) (k : Nat) (h1 : k < ps.length) (h2 : k < ds.length), placesB (ps.drop k) (ds.drop k) = (ps[k] ds[k] && placesB (ps.drop (k + 1)) (ds.drop (k + 1)))
  | p :: ps, d :: ds, 0, _, _ => rfl
  | p :: ps, d :: ds, k + 1, h1, h2 => by
    have := places_drop ps ds k (by simpa using h1) (by simpa using h2)
    simpa using this
set_option maxHeartbeats 1000000 in
set_option maxRecDepth 100000 in
theorem i_takes_go (l : List Nat) (ps : List (Stil.Dev → Bool)) (a : Option Addr) (cap : Nat) (ds : List Stil.Dev) (w : World) (hr : RowsAt w) (hl : l.length = ps.length) (hd : ds.length = ps.length) (h3 : l.length ≤ 3) (hp : ∀ i (h1 : i < l.length) (h2 : i < ps.length), l[i] ≠ 0 ∧ PlaceFn l[i] ps[i]) (h0 : 0 < ds.length)
    (hat : ∀ i (h : i < ds.length), ∃ b o, a = some ⟨b, o, none⟩ ∧ b < w.heap.size ∧ DevAt w b (o + i * 3) ds[i]) (hf : ∀ x ∈ ds, x.fits) :
    Calls Tryd.prog 31 #[wayVal l, .slice a ds.length cap] w fun e w' => e = .returned (.bool (placesB ps ds)) ∧ Below w.heap.size w w' := by
  have hst := run_store_fnv
  obtain ⟨f0, hf0⟩ : ∃ f, f = l.getD 0 0 := ⟨_, rfl⟩
  obtain ⟨f1, hf1⟩ : ∃ f, f = l.getD 1 0 := ⟨_, rfl⟩
  obtain ⟨f2, hf2⟩ : ∃ f, f = l.getD 2 0 := ⟨_, rfl⟩
  have HW : Hid (wayVal l = .agg #[fnv f0, fnv f1, fnv f2]) := by show _ = _; rw [wayVal, hf0, hf1, hf2]
  have HP : Hid (∀ W, Calls Tryd.prog 45 #[.agg #[fnv f0, fnv f1, fnv f2]] W fun e w' => e = .returned (.int .i64 ds.length) ∧ Below W.heap.size W w') := by
    intro W
    have := i_places l W h3 (fun x hx => by
      obtain ⟨i, hi, rfl⟩ := List.getElem_of_mem hx
      exact (hp i hi (by omega)).1)
    rw [HW.out] at this
    rw [hd, ← hl]; exact this
  have HC : Hid (∀ k (h : k < ds.length), (w.alloc (.cells #[fnv f0, fnv f1, fnv f2] 49)).cell? ⟨w.heap.size, k, none⟩ = some (.func (.func (l.getD k 0)) #[] #[])) := by
    intro k hk
    have hnz : l.getD k 0 ≠ 0 := by
      have hk' : k < l.length := by omega
      have := (hp k hk' (by omega)).1
      simpa [List.getD, List.getElem?_eq_getElem hk'] using this
    rw [← fnv_pos hnz]
    have hkk : k = 0 ∨ k = 1 ∨ k = 2 := by omega
    rcases hkk with rfl | rfl | rfl <;> simp [go_sem, hf0, hf1, hf2]
  have HF : Hid (∀ k (h : k < ds.length) (h2 : k < ps.length), PlaceFn (l.getD k 0) ps[k]) := by
    intro k hk hk2
    have hk' : k < l.length := by omega
    have := (hp k hk' (by omega)).2
    simpa [List.getD, List.getElem?_eq_getElem hk'] using this
  have HA : Hid (∀ i (h : i < ds.length), ∃ b o, a = some ⟨b, o, none⟩ ∧ b < w.heap.size ∧ DevAt w b (o + i * 3) ds[i]) := hat
  have HR : Hid (∀ W, Below w.heap.size w W → RowsAt W) := fun W h => hr.below h
  have HFit : Hid (∀ x ∈ ds, x.fits) := hf
  have hn3 : ds.length ≤ 3 := by omega
  have HL : Hid (ds.length = ps.length) := hd
  have hnil : ¬ ds = [] := by intro h; rw [h] at h0; simp at h0
  rw [HW.out]
  clear hf0 hf1 hf2 hl hd h3 hp hat hr HW hf
  go_enter Tryd.func31, Tryd.ntmps31
  go_wp2_with (go_at_call 45; refine (HP.out _).mono ?_; rintro e w1 ⟨rfl, hb⟩; obtain ⟨hc, hfz⟩ := bcell hb; have hz := below_lt hb)
  go_loopw [19] (fun i wr => ∃ k : Nat, k ≤ ds.length ∧ i = .int .i64 k ∧ placesB ps ds = placesB (ps.drop k) (ds.drop k) ∧ Below (w.heap.size + 1) (w.alloc (.cells #[fnv f0, fnv f1, fnv f2] 49)) wr) (fun i _ => ds.length - (intOf i).toNat)
  case atStart => exact ⟨0, by omega, rfl, rfl, by simpa using hb⟩
  case round =>
    clear hb hc hfz hz
    obtain ⟨k, hk, rfl, hg, hb⟩ := hrel
    have HG : Hid (placesB ps ds = placesB (ps.drop k) (ds.drop k)) := hg
    clear hg
    have hbw : Below w.heap.size w wr := (below_alloc _ _).trans (hb.mono (by omega))
    have hzr : w.heap.size < wr.heap.size := by have := hb.size; simp at this; omega
    by_cases hlt : k < ds.length
    · obtain ⟨b, o, rfl, hbl, hdv⟩ := HA.out k hlt
      have hkp : k < ps.length := by have := HL.out; omega
      have HF' := HF.out k hlt hkp
      have hfit := HFit.out ds[k] (List.getElem_mem hlt)
      have HS : Hid (placesB (ps.drop k) (ds.drop k) = (ps[k] ds[k] && placesB (ps.drop (k + 1)) (ds.drop (k + 1)))) := places_drop ps ds k hkp hlt
      obtain ⟨x0, x1, x2⟩ := hdv.below hbw hbl
      have hbl' : b < wr.heap.size := Nat.lt_of_lt_of_le hbl hbw.size
      have hwc : wr.cell? ⟨w.heap.size, k, none⟩ = some (.func (.func (l.getD k 0)) #[] #[]) := by
        rw [hb.cell (p := ⟨w.heap.size, k, none⟩) (by simp)]; exact HC.out k hlt
      obtain ⟨p, hpe⟩ : ∃ p, p = ps[k] := ⟨_, rfl⟩
      obtain ⟨x, hx⟩ : ∃ x, x = ds[k] := ⟨_, rfl⟩
      obtain ⟨n, hne⟩ : ∃ n, n = l.getD k 0 := ⟨_, rfl⟩
      rw [← hx] at x0 x1 x2 hfit
      rw [← hpe, ← hx] at HS
      rw [← hne] at hwc
      rw [← hne, ← hpe] at HF'
      obtain ⟨hent, HF'⟩ := HF'
      have HQ : Hid (∀ (d : Stil.Dev) (w : World), RowsAt w → d.fits → Calls Tryd.prog n #[.agg #[.int .i64 d.kind, .int .i64 d.n, .int .i64 d.p]] w fun e w' => e = .returned (.bool (p d)) ∧ Below w.heap.size w w') := HF'
      have HFX : Hid (x.fits) := hfit
      clear hne hx hpe hdv HF' hfit
      have q0 : (wr.alloc (.cells #[.int .i64 x.kind, .int .i64 x.n, .int .i64 x.p] 37)).cell? ⟨w.heap.size, k, none⟩ = some (.func (.func n) #[] #[]) := by rw [World.cell?_alloc_some _ _ _ (by rw [hwc]; rfl)]; exact hwc
      have q1 : (wr.alloc (.cells #[.int .i64 x.kind, .int .i64 x.n, .int .i64 x.p] 37)).cell? ⟨wr.heap.size, 0, none⟩ = some (.int .i64 x.kind) := by simp [go_sem]
      have q2 : (wr.alloc (.cells #[.int .i64 x.kind, .int .i64 x.n, .int .i64 x.p] 37)).cell? ⟨wr.heap.size, 1, none⟩ = some (.int .i64 x.n) := by simp [go_sem]
      have q3 : (wr.alloc (.cells #[.int .i64 x.kind, .int .i64 x.n, .int .i64 x.p] 37)).cell? ⟨wr.heap.size, 2, none⟩ = some (.int .i64 x.p) := by simp [go_sem]
      have r0 := cell_regrown q0
      have r1 := cell_regrown q1
      have r2 := cell_regrown q2
      have r3 := cell_regrown q3
      clear q0 q1 q2 q3
      cases hpx : p x
      · go_wp2
        refine wp_region_quiet_below (by kernel_rfl) (by kernel_rfl) ?_
        repeat (go_big_quiet_step ((exact Calls.regrown_of (HQ.out _ _ (HR.out _ (by (repeat (first | exact Below.refl _ _ | assumption | refine bl_alloc ?_ _ | refine bl_drewN ?_ _ | refine bl_drew ?_ | refine bl_grow ?_ _ _ | refine bl_set (Nat.le_refl _) ?_ _ | refine bl_call ?_ (by assumption))))) HFX.out))))
        refine wpQuiet_nil ?_
        intro _ hw'
        obtain ⟨⟨dq, osq⟩, hw''⟩ := hw'
        subst hw''
        go_wp2
        go_ret
        exact ⟨ret_bool (by rw [HG.out, HS.out, hpx]; rfl), by (repeat (first | exact Below.refl _ _ | assumption | refine bl_alloc ?_ _ | refine bl_drewN ?_ _ | refine bl_drew ?_ | refine bl_grow ?_ _ _ | refine bl_set (Nat.le_refl _) ?_ _ | refine bl_call ?_ (by assumption)))⟩
      · have HS' : Hid (placesB ps ds = placesB (ps.drop (k + 1)) (ds.drop (k + 1))) := by show _ = _; rw [HG.out, HS.out, hpx]; rfl
        clear HS HG
        go_wp2
        refine wp_region_quiet_below (by kernel_rfl) (by kernel_rfl) ?_
        repeat (go_big_quiet_step ((exact Calls.regrown_of (HQ.out _ _ (HR.out _ (by (repeat (first | exact Below.refl _ _ | assumption | refine bl_alloc ?_ _ | refine bl_drewN ?_ _ | refine bl_drew ?_ | refine bl_grow ?_ _ _ | refine bl_set (Nat.le_refl _) ?_ _ | refine bl_call ?_ (by assumption))))) HFX.out))))
        refine wpQuiet_nil ?_
        intro _ hw'
        obtain ⟨⟨dq, osq⟩, hw''⟩ := hw'
        subst hw''
        go_wp2
        refine ⟨⟨k + 1, by omega, by go_num, HS'.out, ?_⟩, by simp [intOf]; omega⟩
        exact (hb.alloc (by omega) _).trans ((below_regrown _ dq osq).mono (by simp; omega))
    · have HE : Hid (placesB ps ds = true) := by
        show _ = _
        have := HL.out
        rw [HG.out, List.drop_of_length_le (by omega), List.drop_of_length_le (by omega)]; rfl
      go_wp2
      go_ret
      exact ⟨ret_bool HE.out.symm, by (repeat (first | exact Below.refl _ _ | assumption | refine bl_alloc ?_ _ | refine bl_drewN ?_ _ | refine bl_drew ?_ | refine bl_grow ?_ _ _ | refine bl_set (Nat.le_refl _) ?_ _ | refine bl_call ?_ (by assumption)))⟩
set_option maxHeartbeats 1000000 in
set_option maxRecDepth 100000 in
theorem i_takes (l : List Nat) (ps : List (Stil.Dev → Bool)) (v : Value) (ds : List Stil.Dev) (w : World) (hr : RowsAt w) (hl : l.length = ps.length) (h3 : l.length ≤ 3) (hp : ∀ i (h1 : i < l.length) (h2 : i < ps.length), l[i] ≠ 0 ∧ PlaceFn l[i] ps[i])
    (hat : DevsAt w v ds) (hf : ∀ x ∈ ds, x.fits) (hlen : ds.length ≤ 9223372036854775807) :
    Calls Tryd.prog 31 #[wayVal l, v] w fun e w' => e = .returned (.bool (takesB ps ds)) ∧ Below w.heap.size w w' := by
  obtain ⟨a, cap, rfl, hat⟩ := hat
  by_cases hnil : ds = []
  · subst hnil
    have hst := run_store_fnv
    have HT : Hid (takesB ps [] = false) := rfl
    unfold wayVal
    clear hp hat hf hr
    go_enter Tryd.func31, Tryd.ntmps31
    go_wp2
    go_ret
    exact ⟨ret_bool HT.out.symm, by (repeat (first | exact Below.refl _ _ | assumption | refine bl_alloc ?_ _ | refine bl_drewN ?_ _ | refine bl_drew ?_ | refine bl_grow ?_ _ _ | refine bl_set (Nat.le_refl _) ?_ _ | refine bl_call ?_ (by assumption)))⟩
  · have h0 : 0 < ds.length := List.length_pos_iff.2 hnil
    by_cases hd : ds.length = ps.length
    · have HT : takesB ps ds = placesB ps ds := by
        have : ds.isEmpty = false := by simpa using hnil
        rw [takesB, this]; rfl
      rw [HT]
      exact i_takes_go l ps a cap ds w hr hl hd h3 hp h0 hat hf
    · have HT : Hid (takesB ps ds = false) := by show _ = _; rw [takesB, places_len ps ds hd, Bool.and_false]
      have hst := run_store_fnv
      have HP : Hid (∀ W, Calls Tryd.prog 45 #[wayVal l] W fun e w' => e = .returned (.int .i64 l.length) ∧ Below W.heap.size W w') := fun W => i_places l W h3 (fun x hx => by
        obtain ⟨i, hi, rfl⟩ := List.getElem_of_mem hx
        exact (hp i hi (by omega)).1)
      have hne : ((ds.length : Int) != (l.length : Int)) = true := by rw [bne_iff_ne]; omega
      clear hp hat hf hr hd hl
      unfold wayVal at HP ⊢
      go_enter Tryd.func31, Tryd.ntmps31
      go_wp2_with (go_at_call 45; refine (HP.out _).mono ?_; rintro e w1 ⟨rfl, hb⟩; obtain ⟨hc, hfz⟩ := bcell hb; have hz := below_lt hb)
      go_ret
      exact ⟨ret_bool HT.out.symm, by (repeat (first | exact Below.refl _ _ | assumption | refine bl_alloc ?_ _ | refine bl_drewN ?_ _ | refine bl_drew ?_ | refine bl_grow ?_ _ _ | refine bl_set (Nat.le_refl _) ?_ _ | refine bl_call ?_ (by assumption)))⟩
end Go.Proofs.YtnbdgpepancfnabDoor
