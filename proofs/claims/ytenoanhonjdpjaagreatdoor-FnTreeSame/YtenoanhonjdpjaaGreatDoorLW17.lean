/- The law on ladders that are the same: the walk. -/
import Derived.Test.YtenoanhonjdpjaaGreatDoorLWL
import Derived.Deep.RegionWith
import Derived.Deep.RegionLaw
import Derived.Deep.RegionHeld3
import Derived.Lib.QuietBelow
namespace Go.Proofs.YtenoanhonjdpjaaGreatDoor
open Go.RowKit Go.Sort Go.BigFrame
def Two (w : World) (e : Ending) (w' : World) : Prop := ∃ (la lb : List Stil.Arm) (va vb : Value), e = .returned (.tuple #[va, vb]) ∧ ArmsAt w' va la ∧ ArmsAt w' vb lb ∧ (∀ a ∈ la, ATame a ∧ Stil.armSz a ≤ 8000) ∧ la.length ≤ 204 ∧ (∀ a ∈ lb, ATame a ∧ Stil.armSz a ≤ 8000) ∧ lb.length ≤ 204 ∧ Below w.heap.size w w'
def LadDev (w : World) (e : Ending) (w' : World) : Prop := ∃ (l : List Stil.Arm) (v : Value) (d : Stil.Dev), e = .returned (.tuple #[v, .agg #[.int .i64 d.kind, .int .i64 d.n, .int .i64 d.p]]) ∧ Small d ∧ ArmsAt w' v l ∧ Below w.heap.size w w'
set_option maxHeartbeats 4000000 in
set_option maxRecDepth 100000 in
theorem law_treeSame2 (HD : ∀ u w, BytesAt w u → Calls Tryz.prog 13 #[u] w (Two w)) (HE : ∀ u w, BytesAt w u → Calls Tryz.prog 14 #[u] w (LadDev w)) (u t : Value) (w : World) (hrow : RowsAt w) (herr : ErrTypeAt w) (hu : BytesAt w u) (ht : BytesAt w t) :
    Calls Tryz.prog 4 #[u, t] w fun e w' => e = .returned (.bool true) ∧ Below w.heap.size w w' := by
  have HR : Hid (∀ W, Below w.heap.size w W → RowsAt W ∧ ErrTypeAt W) := fun W h => ⟨hrow.below h, herr.below h⟩
  have HDR : Hid (∀ W, Below w.heap.size w W → Calls Tryz.prog 13 #[u] W (Two W)) := fun W h => HD u W (hu.below h)
  have HER : Hid (∀ W, Below w.heap.size w W → Calls Tryz.prog 14 #[t] W (LadDev W)) := fun W h => HE t W (ht.below h)
  obtain ⟨ua, ul, uc, rfl, -, -, -⟩ := hu
  obtain ⟨ta, tl, tc, rfl, -, -, -⟩ := ht
  clear hrow herr HD HE
  by_cases hbig : 1048576 < ul
  · go_enter Tryz.func4, Tryz.ntmps4
    go_wp2
    go_ret
    exact ⟨rfl, by (repeat with_reducible first | exact Below.refl _ _ | assumption | refine bl_set (by first | exact Nat.le_refl _ | (simp; done) | (simp; omega) | omega) ?_ _ | refine bl_alloc ?_ _ | refine bl_drewN ?_ _ | refine bl_drew ?_ | refine bl_grow ?_ _ _ | refine bl_call ?_ (by assumption))⟩
  by_cases hbig2 : 1048576 < tl
  · go_enter Tryz.func4, Tryz.ntmps4
    go_wp2
    go_ret
    exact ⟨rfl, by (repeat with_reducible first | exact Below.refl _ _ | assumption | refine bl_set (by first | exact Nat.le_refl _ | (simp; done) | (simp; omega) | omega) ?_ _ | refine bl_alloc ?_ _ | refine bl_drewN ?_ _ | refine bl_drew ?_ | refine bl_grow ?_ _ _ | refine bl_call ?_ (by assumption))⟩
  go_enter Tryz.func4, Tryz.ntmps4
  go_upto_region 5 with (first | (go_at_call 13; refine (HDR.out _ (by (repeat with_reducible first | exact Below.refl _ _ | assumption | refine bl_set (by first | exact Nat.le_refl _ | (simp; done) | (simp; omega) | omega) ?_ _ | refine bl_alloc ?_ _ | refine bl_drewN ?_ _ | refine bl_drew ?_ | refine bl_grow ?_ _ _ | refine bl_call ?_ (by assumption)))).mono ?_; rintro e w1 ⟨la, lb, va, vb, rfl, hva, hvb, hta, hla, htb, hlb, hb1⟩; have HLA : Hid (LadF w1 va la) := ladF (lad_of hva hta hla (by omega) (by omega)); have HLB : Hid (LadF w1 vb lb) := ladF (lad_of hvb htb hlb (by omega) (by omega)); clear hta htb hla hlb; obtain ⟨a1, c1, rfl, -⟩ := hva; obtain ⟨a2, c2, rfl, -⟩ := hvb) | (go_at_call 14; refine (HER.out _ (by (repeat with_reducible first | exact Below.refl _ _ | assumption | refine bl_set (by first | exact Nat.le_refl _ | (simp; done) | (simp; omega) | omega) ?_ _ | refine bl_alloc ?_ _ | refine bl_drewN ?_ _ | refine bl_drew ?_ | refine bl_grow ?_ _ _ | refine bl_call ?_ (by assumption)))).mono ?_; rintro e w2 ⟨lx, vx, d, rfl, hd, hvx, hb2⟩; obtain ⟨a3, c3, rfl, -⟩ := hvx))
  obtain ⟨W3, hW3⟩ : ∃ W3, W3 = w2.alloc (Obj.cells #[Value.int IntKind.i64 d.kind, Value.int IntKind.i64 d.n, Value.int IntKind.i64 d.p] 42) := ⟨_, rfl⟩
  have hb3 : Below w1.heap.size w1 W3 := by rw [hW3]; (repeat with_reducible first | exact Below.refl _ _ | assumption | refine bl_set (by first | exact Nat.le_refl _ | (simp; done) | (simp; omega) | omega) ?_ _ | refine bl_alloc ?_ _ | refine bl_drewN ?_ _ | refine bl_drew ?_ | refine bl_grow ?_ _ _ | refine bl_call ?_ (by assumption))
  have HX : Hid (∀ W, Below W3.heap.size W3 W → W.cell? ⟨w2.heap.size, 0, none⟩ = some (.int .i64 d.kind) ∧ W.cell? ⟨w2.heap.size, 1, none⟩ = some (.int .i64 d.n) ∧ W.cell? ⟨w2.heap.size, 2, none⟩ = some (.int .i64 d.p)) := by
    intro W h
    rw [hW3] at h
    refine ⟨(h.cell (p := ⟨w2.heap.size, 0, none⟩) (by simp)).trans (by simp [go_sem]), (h.cell (p := ⟨w2.heap.size, 1, none⟩) (by simp)).trans (by simp [go_sem]), (h.cell (p := ⟨w2.heap.size, 2, none⟩) (by simp)).trans (by simp [go_sem])⟩
  rw [← hW3]
  have HA : Hid (LadF W3 (.slice a1 la.length c1) la) := HLA.out.later hb3
  have HB : Hid (LadF W3 (.slice a2 lb.length c2) lb) := HLB.out.later hb3
  have hb0 : Below w.heap.size w W3 := hb1.trans (hb3.mono hb1.size)
  have HR3 : Hid (∀ W, Below W3.heap.size W3 W → RowsAt W ∧ ErrTypeAt W) := fun W h => HR.out W (hb0.trans (h.mono hb0.size))
  have HFIN : Hid (∀ W, Below W3.heap.size W3 W → Below w.heap.size w W) := fun W h => hb0.trans (h.mono hb0.size)
  clear hW3 hb1 hb2 hb3 HLA HLB HDR HER HR hb0
  obtain ⟨S, hS⟩ : ∃ S : List Stil.Arm → List Stil.Arm → Bool, ∀ l m, (S l m = true ↔ l = m) := by
    classical
    exact ⟨fun l m => decide (l = m), fun l m => by simp⟩
  have HIS : Hid (∀ (W : World) (v u : Value) (l m : List Stil.Arm), LadF W3 v l → LadF W3 u m → Below W3.heap.size W3 W → Calls Tryz.prog 15 #[v, u] W fun e w' => e = .returned (.bool (S l m)) ∧ Below W.heap.size W w') := fun W v u l m h1 h2 hb => (i_sameG h1 h2 hb).mono fun e w' ⟨b, he, hb1, hb2⟩ => ⟨by rw [he, Bool.eq_iff_iff.2 (hb1.trans (hS l m).symm)], hb2⟩
  have HSS : Hid (∀ (W : World) (v u : Value) (l m : List Stil.Arm), LadF W3 v l → LadF W3 u m → Below W3.heap.size W3 W → Calls Tryz.prog 16 #[v, u] W fun e w' => e = .returned (.bool (S l m)) ∧ Below W.heap.size W w') := fun W v u l m h1 h2 hb => (s_sameG h1 h2 hb).mono fun e w' ⟨b, he, hb1, hb2⟩ => ⟨by rw [he, Bool.eq_iff_iff.2 (hb1.trans (hS l m).symm)], hb2⟩
  have hs1 : S la la = true := (hS _ _).2 rfl
  by_cases hab : la = lb
  · subst hab
    clear hS
    go_wp2_with (first | (go_at_call 15; refine (HIS.out _ _ _ _ _ (Hid.out (by assumption)) (Hid.out (by assumption)) (by (repeat with_reducible first | exact Below.refl _ _ | assumption | refine bl_set (by first | exact Nat.le_refl _ | (simp; done) | (simp; omega) | omega) ?_ _ | refine bl_alloc ?_ _ | refine bl_drewN ?_ _ | refine bl_drew ?_ | refine bl_grow ?_ _ _ | refine bl_call ?_ (by assumption)))).mono ?_; rintro e w4 ⟨rfl, hb4⟩) | (go_at_call 16; refine (HSS.out _ _ _ _ _ (Hid.out (by assumption)) (Hid.out (by assumption)) (by (repeat with_reducible first | exact Below.refl _ _ | assumption | refine bl_set (by first | exact Nat.le_refl _ | (simp; done) | (simp; omega) | omega) ?_ _ | refine bl_alloc ?_ _ | refine bl_drewN ?_ _ | refine bl_drew ?_ | refine bl_grow ?_ _ _ | refine bl_call ?_ (by assumption)))).mono ?_; rintro e w4 ⟨rfl, hb4⟩) | (go_at_call 12; refine (i_sizeG (w := W3) (Hid.out (by assumption)) (by (repeat with_reducible first | exact Below.refl _ _ | assumption | refine bl_set (by first | exact Nat.le_refl _ | (simp; done) | (simp; omega) | omega) ?_ _ | refine bl_alloc ?_ _ | refine bl_drewN ?_ _ | refine bl_drew ?_ | refine bl_grow ?_ _ _ | refine bl_call ?_ (by assumption)))).mono ?_; rintro e w4 ⟨rfl, hb4⟩) | (go_at_call 10; refine (i_checkG (w := W3) HR3.out (Hid.out (by assumption)) (by (repeat with_reducible first | exact Below.refl _ _ | assumption | refine bl_set (by first | exact Nat.le_refl _ | (simp; done) | (simp; omega) | omega) ?_ _ | refine bl_alloc ?_ _ | refine bl_drewN ?_ _ | refine bl_drew ?_ | refine bl_grow ?_ _ _ | refine bl_call ?_ (by assumption)))).mono ?_; rintro e w4 ⟨rfl, hb4⟩; obtain ⟨x0, x1, x2⟩ := HX.out w4 (by (repeat with_reducible first | exact Below.refl _ _ | assumption | refine bl_set (by first | exact Nat.le_refl _ | (simp; done) | (simp; omega) | omega) ?_ _ | refine bl_alloc ?_ _ | refine bl_drewN ?_ _ | refine bl_drew ?_ | refine bl_grow ?_ _ _ | refine bl_call ?_ (by assumption)))) | (go_at_call 17; refine (i_usesG (w := W3) d (Hid.out (by assumption)) (by (repeat with_reducible first | exact Below.refl _ _ | assumption | refine bl_set (by first | exact Nat.le_refl _ | (simp; done) | (simp; omega) | omega) ?_ _ | refine bl_alloc ?_ _ | refine bl_drewN ?_ _ | refine bl_drew ?_ | refine bl_grow ?_ _ _ | refine bl_call ?_ (by assumption)))).mono ?_; rintro e w4 ⟨rfl, hb4⟩; obtain ⟨x0, x1, x2⟩ := HX.out w4 (by (repeat with_reducible first | exact Below.refl _ _ | assumption | refine bl_set (by first | exact Nat.le_refl _ | (simp; done) | (simp; omega) | omega) ?_ _ | refine bl_alloc ?_ _ | refine bl_drewN ?_ _ | refine bl_drew ?_ | refine bl_grow ?_ _ _ | refine bl_call ?_ (by assumption)))))
    go_region_with (first | (go_at_call 12; refine (i_sizeG (w := W3) (Hid.out (by assumption)) (by (repeat with_reducible first | exact Below.refl _ _ | assumption | refine bl_set (by first | exact Nat.le_refl _ | (simp; done) | (simp; omega) | omega) ?_ _ | refine bl_alloc ?_ _ | refine bl_drewN ?_ _ | refine bl_drew ?_ | refine bl_grow ?_ _ _ | refine bl_call ?_ (by assumption)))).mono ?_; rintro e w4 ⟨rfl, hb4⟩) | (go_at_call 10; refine (i_checkG (w := W3) HR3.out (Hid.out (by assumption)) (by (repeat with_reducible first | exact Below.refl _ _ | assumption | refine bl_set (by first | exact Nat.le_refl _ | (simp; done) | (simp; omega) | omega) ?_ _ | refine bl_alloc ?_ _ | refine bl_drewN ?_ _ | refine bl_drew ?_ | refine bl_grow ?_ _ _ | refine bl_call ?_ (by assumption)))).mono ?_; rintro e w4 ⟨rfl, hb4⟩; obtain ⟨x0, x1, x2⟩ := HX.out w4 (by (repeat with_reducible first | exact Below.refl _ _ | assumption | refine bl_set (by first | exact Nat.le_refl _ | (simp; done) | (simp; omega) | omega) ?_ _ | refine bl_alloc ?_ _ | refine bl_drewN ?_ _ | refine bl_drew ?_ | refine bl_grow ?_ _ _ | refine bl_call ?_ (by assumption)))) | (go_at_call 17; refine (i_usesG (w := W3) d (Hid.out (by assumption)) (by (repeat with_reducible first | exact Below.refl _ _ | assumption | refine bl_set (by first | exact Nat.le_refl _ | (simp; done) | (simp; omega) | omega) ?_ _ | refine bl_alloc ?_ _ | refine bl_drewN ?_ _ | refine bl_drew ?_ | refine bl_grow ?_ _ _ | refine bl_call ?_ (by assumption)))).mono ?_; rintro e w4 ⟨rfl, hb4⟩; obtain ⟨x0, x1, x2⟩ := HX.out w4 (by (repeat with_reducible first | exact Below.refl _ _ | assumption | refine bl_set (by first | exact Nat.le_refl _ | (simp; done) | (simp; omega) | omega) ?_ _ | refine bl_alloc ?_ _ | refine bl_drewN ?_ _ | refine bl_drew ?_ | refine bl_grow ?_ _ _ | refine bl_call ?_ (by assumption)))))
    all_goals
      go_wp2
      go_ret
      exact ⟨rfl, HFIN.out _ (by (repeat with_reducible first | exact Below.refl _ _ | assumption | refine bl_set (by first | exact Nat.le_refl _ | (simp; done) | (simp; omega) | omega) ?_ _ | refine bl_alloc ?_ _ | refine bl_drewN ?_ _ | refine bl_drew ?_ | refine bl_grow ?_ _ _ | refine bl_call ?_ (by assumption)))⟩
  · have hs2 : S la lb = false := Bool.eq_false_iff.2 (fun h => hab ((hS _ _).1 h))
    have hs3 : S lb la = false := Bool.eq_false_iff.2 (fun h => hab ((hS _ _).1 h).symm)
    clear hS
    go_wp2_with (first | (go_at_call 15; refine (HIS.out _ _ _ _ _ (Hid.out (by assumption)) (Hid.out (by assumption)) (by (repeat with_reducible first | exact Below.refl _ _ | assumption | refine bl_set (by first | exact Nat.le_refl _ | (simp; done) | (simp; omega) | omega) ?_ _ | refine bl_alloc ?_ _ | refine bl_drewN ?_ _ | refine bl_drew ?_ | refine bl_grow ?_ _ _ | refine bl_call ?_ (by assumption)))).mono ?_; rintro e w4 ⟨rfl, hb4⟩) | (go_at_call 16; refine (HSS.out _ _ _ _ _ (Hid.out (by assumption)) (Hid.out (by assumption)) (by (repeat with_reducible first | exact Below.refl _ _ | assumption | refine bl_set (by first | exact Nat.le_refl _ | (simp; done) | (simp; omega) | omega) ?_ _ | refine bl_alloc ?_ _ | refine bl_drewN ?_ _ | refine bl_drew ?_ | refine bl_grow ?_ _ _ | refine bl_call ?_ (by assumption)))).mono ?_; rintro e w4 ⟨rfl, hb4⟩))
    refine wp_region_quiet_below (by kernel_rfl) (by kernel_rfl) ?_
    repeat (go_big_quiet_step ((fail)))
    refine wpQuiet_nil ?_
    intro _ hw'
    obtain ⟨⟨dq, osq⟩, hw''⟩ := hw'
    subst hw''
    go_wp2
    go_ret
    exact ⟨rfl, HFIN.out _ (by (repeat first | exact Below.refl _ _ | assumption | refine bl_alloc ?_ _ | refine bl_drewN ?_ _ | refine bl_drew ?_ | refine bl_grow ?_ _ _ | refine bl_set (Nat.le_refl _) ?_ _ | refine bl_call ?_ (by assumption)))⟩
end Go.Proofs.YtenoanhonjdpjaaGreatDoor
