/- I8c, I8d, I8e: texts put together. -/
import Derived.Test.YtpaljcoojkbhnaaGreatDoorI30
import Derived.Test.YtpaljcoojkbhnaaGreatDoorGc
import Derived.WalkLawsBesides
import Derived.Defers
import Derived.Recover
set_option maxHeartbeats 4000000
set_option maxRecDepth 100000
/- Contracts of the program's chapter 6: a step of the run, the table of rules, what a run was left with. -/
namespace Go.Proofs.YtpaljcoojkbhnaaGreatDoor
open Go.RowKit Go.Sort Go.BigFrame
theorem i_behind (s : Stil.Pt) (c : Int) (w : World) (g : s.good) :
  Calls Tryz.prog 114 #[.agg #[.int .i64 s.bits, .int .i64 s.forks, .bool s.seen, .bool s.coil], .int .i64 c] w fun e w' => e = .returned (.agg #[.int .i64 (Stil.behind s c).bits, .int .i64 (Stil.behind s c).forks, .bool (Stil.behind s c).seen, .bool (Stil.behind s c).coil]) ∧ Below w.heap.size w w' := by
 obtain ⟨b, f, sn, cl⟩ := s
 obtain ⟨b0, b1, f0, f1, _⟩ := g
 simp only at b0 b1 f0 f1 ⊢
 have HS : Hid (∀ W, Calls Tryz.prog 128 #[.agg #[.int .i64 b, .int .i64 f], .int .i64 c] W fun e w' => e = .returned (.agg #[.int .i64 (Stil.behind ⟨b, f, sn, cl⟩ c).bits, .int .i64 (Stil.behind ⟨b, f, sn, cl⟩ c).forks]) ∧ Below W.heap.size W w') := fun W => i_sureStep b f c W (by omega) (by omega) (by omega) (by omega)
 have HSN : Hid ((Stil.behind ⟨b, f, sn, cl⟩ c).seen = (decide (c ≠ 11) && (sn || c == 10 || c == 7))) := rfl
 have HCO : Hid ((Stil.behind ⟨b, f, sn, cl⟩ c).coil = (c == 10)) := rfl
 obtain ⟨x, hx⟩ : ∃ x : Int, x = (Stil.behind ⟨b, f, sn, cl⟩ c).bits := ⟨_, rfl⟩
 obtain ⟨y, hy⟩ : ∃ y : Int, y = (Stil.behind ⟨b, f, sn, cl⟩ c).forks := ⟨_, rfl⟩
 rw [← hx, ← hy] at HS ⊢
 obtain ⟨u, hu⟩ : ∃ u : Bool, u = (Stil.behind ⟨b, f, sn, cl⟩ c).seen := ⟨_, rfl⟩
 obtain ⟨v, hv⟩ : ∃ v : Bool, v = (Stil.behind ⟨b, f, sn, cl⟩ c).coil := ⟨_, rfl⟩
 rw [← hu] at HSN ⊢
 rw [← hv] at HCO ⊢
 clear hx hy hu hv b0 b1 f0 f1
 cases sn
 all_goals (
  go_enter Tryz.func114, Tryz.ntmps114
  go_wp2_with (go_at_call 128; refine (HS.out _).mono ?_; rintro e w1 ⟨rfl, hb⟩; have hz0 : w.heap.size < w1.heap.size := Nat.lt_of_lt_of_le (by first | (simp; done) | (simp; omega)) hb.size; obtain ⟨hc, hfz⟩ := bcell hb))
 all_goals refine bodyPost_ret (by simp [results, Tryz.results114, go_sem, hc]; rfl) rfl ⟨?_, blA⟩
 all_goals (rw [HSN.out, HCO.out]; go_light; (try simp only [beq_iff_eq, beq_eq_false_iff_ne, bne_iff_ne, bne_eq_false_iff_eq] at *); simp [*])
def ruleFn (k : Nat) : Nat := [121, 122, 123, 124, 125, 126, 127].getD k 0
/-- The table of rules lies in this block. -/
def RulesAt (w : World) (g : Nat) : Prop := g < w.heap.size ∧ ∀ k : Nat, k < 7 → w.cell? ⟨g, k * 2, none⟩ = some (.int .i64 (k + 2 : Nat)) ∧ w.cell? ⟨g, k * 2 + 1, none⟩ = some (.func (.func (ruleFn k)) #[] #[])
theorem RulesAt.below {w w' : World} {g : Nat} (h : RulesAt w g) (hb : Below w.heap.size w w') : RulesAt w' g :=
 ⟨Nat.lt_of_lt_of_le h.1 hb.size, fun k hk => ⟨(hb.cell (p := ⟨g, k * 2, none⟩) h.1).trans (h.2 k hk).1, (hb.cell (p := ⟨g, k * 2 + 1, none⟩) h.1).trans (h.2 k hk).2⟩⟩
theorem i_sureRules (w : World) : Calls Tryz.prog 113 #[] w fun e w' => ∃ g, e = .returned (.slice (some ⟨g, 0, none⟩) 7 7) ∧ RulesAt w' g ∧ Below w.heap.size w w' := by
 go_enter Tryz.func113, Tryz.ntmps113
 go_wp2
 go_ret
 refine ⟨w.heap.size, rfl, ⟨by simp, fun k hk => ?_⟩, blA⟩
 have hx : k = 0 ∨ k = 1 ∨ k = 2 ∨ k = 3 ∨ k = 4 ∨ k = 5 ∨ k = 6 := by omega
 rcases hx with rfl | rfl | rfl | rfl | rfl | rfl | rfl
 all_goals simp [go_sem, ruleFn]
theorem i_sureTold_nil (w : World) : Calls Tryz.prog 98 #[.nilIface] w fun e w' => e = .returned (.agg #[.int .i64 0, .int .i64 0]) ∧ Below w.heap.size w w' := by
 go_enter Tryz.func98, Tryz.ntmps98
 go_wp2
 refine bodyPost_ret (v := .agg #[.int .i64 0, .int .i64 0]) (by simp [results, Tryz.results98, go_sem]) rfl ⟨rfl, blA⟩
theorem i_sureTold (c k : Int) (w : World) : Calls Tryz.prog 98 #[.iface 71 (.agg #[.int .i64 c, .int .i64 k])] w fun e w' => e = .returned (.agg #[.int .i64 c, .int .i64 k]) ∧ Below w.heap.size w w' := by
 have hta : ∀ (v : Value) (w : World), (Instr.typeAssert (.iface 71 v) 20 71 false).run Tryz.prog w = .ok v w := fun _ _ => by kernel_rfl
 go_enter Tryz.func98, Tryz.ntmps98
 go_wp2
 refine bodyPost_ret (v := .agg #[.int .i64 c, .int .i64 k]) (by simp [results, Tryz.results98, go_sem]) rfl ⟨rfl, blA⟩
/-- How a run ends: by a panic with what is wrong, or well. -/
def endOf (R : Int × Nat) : Ending := if 0 < R.1 then .panicked [{ v := .iface 71 (.agg #[.int .i64 R.1, .int .i64 R.2]), recovered := false }] else .returned (.tuple #[])
theorem rule_calls (s : Stil.Pt) (x : Stil.Inst) (p : Option Addr) (cap : Nat) (w : World) (hr : RowsAt w) (hw : LWordsAt w) (hav : DevsAt w (.slice p x.one.args.length cap) x.one.args) (hf : x.fits) (k : Nat) (hk : k < 7) :
  Calls Tryz.prog (ruleFn k) #[.agg #[.int .i64 s.bits, .int .i64 s.forks, .bool s.seen, .bool s.coil], .agg #[.int .i64 x.code, .int .i64 x.one.op, .slice p x.one.args.length cap]] w fun e w' => e = .returned (.bool (Stil.rule k s x)) ∧ Below w.heap.size w w' := by
 have hx : k = 0 ∨ k = 1 ∨ k = 2 ∨ k = 3 ∨ k = 4 ∨ k = 5 ∨ k = 6 := by omega
 rcases hx with rfl | rfl | rfl | rfl | rfl | rfl | rfl
 ·exact i_rule0 s.bits s.forks s.seen s.coil x _ w hr hw hav hf
 ·exact i_rule1 s.bits s.forks s.seen s.coil x _ _ _ w
 ·exact i_rule2 s.bits s.forks s.seen s.coil x _ _ _ w
 ·exact i_rule3 s.bits s.forks s.seen s.coil x _ _ _ w
 ·exact i_rule4 s.bits s.forks s.seen s.coil x _ _ _ w
 ·exact i_rule5 s.bits s.forks s.seen s.coil x _ _ _ w
 ·exact i_rule6 s.bits s.forks s.seen s.coil x _ _ _ w
theorem callRule (k : Nat) (hk : k < 7) (args : Array Value) (W : World) : Sem.run Tryz.prog (callFunc (ruleFn k) args) W = .ok (.enter (ruleFn k) args) W := by
 have hx : k = 0 ∨ k = 1 ∨ k = 2 ∨ k = 3 ∨ k = 4 ∨ k = 5 ∨ k = 6 := by omega
 rcases hx with rfl | rfl | rfl | rfl | rfl | rfl | rfl
 ·exact (show Sem.run Tryz.prog (callFunc 121 args) W = .ok (.enter 121 args) W by kernel_rfl)
 ·exact (show Sem.run Tryz.prog (callFunc 122 args) W = .ok (.enter 122 args) W by kernel_rfl)
 ·exact (show Sem.run Tryz.prog (callFunc 123 args) W = .ok (.enter 123 args) W by kernel_rfl)
 ·exact (show Sem.run Tryz.prog (callFunc 124 args) W = .ok (.enter 124 args) W by kernel_rfl)
 ·exact (show Sem.run Tryz.prog (callFunc 125 args) W = .ok (.enter 125 args) W by kernel_rfl)
 ·exact (show Sem.run Tryz.prog (callFunc 126 args) W = .ok (.enter 126 args) W by kernel_rfl)
 ·exact (show Sem.run Tryz.prog (callFunc 127 args) W = .ok (.enter 127 args) W by kernel_rfl)
theorem RulesAt.set {w : World} {g b o : Nat} (h : RulesAt w g) (hne : g ≠ b) (v : Value) : RulesAt (w.setCell ⟨b, o, none⟩ v) g :=
 ⟨Nat.lt_of_lt_of_le h.1 (sizeSet _ _ _), fun k hk => ⟨(cellSetOther hne).trans (h.2 k hk).1, (cellSetOther hne).trans (h.2 k hk).2⟩⟩
theorem i_sureRun (l : List Stil.Inst) (v : Value) (w : World) (hr : RowsAt w) (hw : LWordsAt w) (hat : InstsAt w v l) (hl : l.length ≤ 1048576) (hft : ∀ x ∈ l, x.fits) :
  Calls Tryz.prog 99 #[v] w fun e w' => e = endOf (Stil.sureCheck l) ∧ Below w.heap.size w w' := by
 have HF : Hid (∀ x ∈ l, x.fits) := hft
 have HRW : Hid (∀ W, Below w.heap.size w W → RowsAt W ∧ LWordsAt W) := fun W h => ⟨hr.below h, hw.below h⟩
 obtain ⟨a, cap, rfl, hc⟩ := hat
 have HC : Hid (∀ i (h : i < l.length), ∃ b o, a = some ⟨b, o, none⟩ ∧ b < w.heap.size ∧ InstAt w b (o + i * 3) l[i]) := hc
 obtain ⟨ln, hln⟩ : ∃ ln, ln = l.length := ⟨_, rfl⟩
 have HLN : Hid (ln = l.length) := hln
 have HR : Hid (Stil.sureCheck l = if 1000 < ln then (1, 0) else Stil.sureFrom Stil.pt0 0 l) := by show _ = _; rw [hln]; rfl
 rw [← hln] at hl ⊢
 obtain ⟨R, hR⟩ : ∃ R, R = Stil.sureCheck l := ⟨_, rfl⟩
 rw [← hR] at HR ⊢
 clear hc hft hln hR hr hw
 by_cases h1 : 1000 < ln
 ·have HX : Hid (R = (1, 0)) := by show _ = _; rw [HR.out, if_pos h1]
  go_enter Tryz.func99, Tryz.ntmps99
  go_wp2
  exact ⟨rfl, by rw [HX.out]; rfl, Below.refl _ _⟩
 ·have HX : Hid (R = Stil.sureFrom Stil.pt0 0 l) := by show _ = _; rw [HR.out, if_neg h1]
  clear HR
  go_enter Tryz.func99, Tryz.ntmps99
  go_wp2_with (go_at_call 113; refine (i_sureRules _).mono ?_; rintro e w1 ⟨g, rfl, hru, hb1⟩)
  go_loopw [16] (fun i wr => ∃ (j : Nat) (s : Stil.Pt), j ≤ ln ∧ i = .int .i64 j ∧ s.good ∧ R = Stil.sureFrom s j (l.drop j) ∧ PtAt wr w1.heap.size s ∧ RulesAt wr g ∧ Below w.heap.size w wr) (fun i _ => ln - (intOf i).toNat)
  case atStart =>
   refine ⟨0, Stil.pt0, by omega, rfl, Stil.good0, by rw [HX.out]; rfl, ?_, ?_, ?_⟩
   ·refine ⟨by simp, ?_, ?_, ?_, ?_, ?_, ?_, ?_, ?_⟩
    all_goals simp [go_sem, Stil.pt0]
   ·exact hru.below (below_alloc _ _)
   ·(repeat (first | with_reducible exact Below.refl _ _ | with_reducible assumption | with_reducible refine bl_set (by first | exact Nat.le_refl _ | (simp; done) | (simp; omega) | omega) ?_ _ | with_reducible refine bl_alloc ?_ _ | with_reducible refine bl_drewN ?_ _ | with_reducible refine bl_drew ?_ | with_reducible refine bl_grow ?_ _ _ | with_reducible refine bl_call ?_ (by assumption)))
  case round =>
   have hg1 : g < w1.heap.size := hru.1
   have hs1 : w.heap.size ≤ w1.heap.size := hb1.size
   clear HX hru hb1
   obtain ⟨j, s, hj, rfl, hg, hfr, hpt, hru, hB⟩ := hrel
   have HP : Hid (R = Stil.sureFrom s j (l.drop j)) := hfr
   have HG : Hid (s.good) := hg
   have HPT : Hid (PtAt wr w1.heap.size s) := hpt
   have HRU : Hid (RulesAt wr g) := hru
   clear hfr hg
   by_cases hlt : j < ln
   ·have hlt' : j < l.length := by have := HLN.out; omega
    obtain ⟨b, o, rfl, hbl, hn⟩ := HC.out j hlt'
    obtain ⟨x0, x1, kav, x2, hav⟩ := hn.below hB hbl
    have HS : Hid (R = if 0 < Stil.wrong s l[j] then (Stil.wrong s l[j], j) else Stil.sureFrom (Stil.next s l[j].code) (j + 1) (l.drop (j + 1))) := by show _ = _; rw [HP.out, Stil.sureFrom_drop l s j hlt']
    have HK : Hid (∀ p cap, kav = .slice p l[j].one.args.length cap → ∀ k, k < 7 → ∀ W, Below wr.heap.size wr W → Calls Tryz.prog (ruleFn k) #[.agg #[.int .i64 s.bits, .int .i64 s.forks, .bool s.seen, .bool s.coil], .agg #[.int .i64 l[j].code, .int .i64 l[j].one.op, .slice p l[j].one.args.length cap]] W fun e w' => e = .returned (.bool (Stil.rule k s l[j])) ∧ Below W.heap.size W w') := by
     intro p cap hk k hk7 W hW
     subst hk
     have h2 := HRW.out W (hB.trans (hW.mono hB.size))
     exact rule_calls s l[j] p cap W h2.1 h2.2 (hav.below hW) (HF.out _ (List.getElem_mem hlt')) k hk7
    obtain ⟨x, hx⟩ : ∃ x, x = l[j] := ⟨_, rfl⟩
    rw [← hx] at HS HK x0 x1 hav
    obtain ⟨t0, u0, rfl, _⟩ := hav
    have HK2 := HK.out t0 u0 rfl
    have HKK : Hid (∀ k, k < 7 → ∀ W, Below wr.heap.size wr W → Calls Tryz.prog (ruleFn k) #[.agg #[.int .i64 s.bits, .int .i64 s.forks, .bool s.seen, .bool s.coil], .agg #[.int .i64 x.code, .int .i64 x.one.op, .slice t0 x.one.args.length u0]] W fun e w' => e = .returned (.bool (Stil.rule k s x)) ∧ Below W.heap.size W w') := HK2
    clear hx hn HP HK HK2 hpt hru
    obtain ⟨wo, hwo⟩ : ∃ wo : World, wo = wr := ⟨wr, rfl⟩
    subst hwo
    go_wp2
    go_loopw [23] (fun i2 wr => ∃ k : Nat, k ≤ 7 ∧ i2 = .int .i64 k ∧ (∀ q, q < k → Stil.rule q s x = false) ∧ Below (wo.heap.size + 1) (wo.alloc (.cells #[.int .i64 x.code, .int .i64 x.one.op, .slice t0 x.one.args.length u0] 51)) wr) (fun i _ => 7 - (intOf i).toNat)
    case atStart => exact ⟨0, by omega, rfl, fun q h => absurd h (by omega), by simpa using Below.refl _ _⟩
    case round =>
     obtain ⟨k, hk, rfl, hno, hQ⟩ := hrel
     have HNO : Hid (∀ q, q < k → Stil.rule q s x = false) := hno
     have hbq : Below wo.heap.size wo wr := (below_alloc _ _).trans (hQ.mono (by omega))
     obtain ⟨hz1, p0, p1, p2, p3, z0, z1, z2, z3⟩ := HPT.out.below hbq
     have hz : wo.heap.size < wr.heap.size := by have := hQ.size; simp at this; omega
     have c0 : wr.cell? ⟨wo.heap.size, 0, none⟩ = some (.int .i64 x.code) := clA hQ
     have f0 : wr.frozen? ⟨wo.heap.size, 0, none⟩ = false := frA hQ
     have c1 : wr.cell? ⟨wo.heap.size, 1, none⟩ = some (.int .i64 x.one.op) := clA hQ
     have f1 : wr.frozen? ⟨wo.heap.size, 1, none⟩ = false := frA hQ
     have c2 : wr.cell? ⟨wo.heap.size, 2, none⟩ = some (.slice t0 x.one.args.length u0) := clA hQ
     have f2 : wr.frozen? ⟨wo.heap.size, 2, none⟩ = false := frA hQ
     clear hno
     by_cases hk7 : k < 7
     ·obtain ⟨hgz, hgc⟩ := HRU.out.below hbq
      obtain ⟨m0, m1⟩ := hgc k hk7
      have HI : Hid (∀ W, Below wo.heap.size wo W → Calls Tryz.prog (ruleFn k) #[.agg #[.int .i64 s.bits, .int .i64 s.forks, .bool s.seen, .bool s.coil], .agg #[.int .i64 x.code, .int .i64 x.one.op, .slice t0 x.one.args.length u0]] W fun e w' => e = .returned (.bool (Stil.rule k s x)) ∧ Below W.heap.size W w') := HKK.out k hk7
      obtain ⟨rb, hrb⟩ : ∃ rb, rb = Stil.rule k s x := ⟨_, rfl⟩
      rw [← hrb] at HI
      have HRB : Hid (Stil.rule k s x = rb) := hrb.symm
      clear hgc hrb
      cases rb
      ·have hcf := callRule k hk7
       go_wp2_with (refine (HI.out _ (hbq.trans ((below_alloc _ _).mono hbq.size))).mono ?_; rintro e w4 ⟨rfl, hb4⟩)
       have HN2 : Hid (∀ q, q < k + 1 → Stil.rule q s x = false) := fun q hq => if h : q = k then by rw [h]; exact HRB.out else HNO.out q (by omega)
       exact ⟨⟨k + 1, by omega, by go_num, HN2.out, hQ.trans (((below_alloc _ _).trans (hb4.mono (by simp))).mono hz)⟩, by simp [intOf]; omega⟩
      ·have hcf := callRule k hk7
       have HX : Hid (R = ((k : Int) + 2, j)) := by
        have hwr := Stil.wrong_first HG.out k hk7 HNO.out HRB.out
        show _ = _
        rw [HS.out, hwr, if_pos (by omega)]; simp
       go_wp2_with (refine (HI.out _ (hbq.trans ((below_alloc _ _).mono hbq.size))).mono ?_; rintro e w4 ⟨rfl, hb4⟩; have v0 : w4.cell? ⟨wr.heap.size, 0, none⟩ = some (.int .i64 ((k : Int) + 2)) := (clA hb4))
       refine ⟨rfl, ?_, hB.trans ((hbq.trans (((below_alloc _ _).trans (hb4.mono (by simp))).mono hbq.size)).mono hB.size)⟩
       rw [HX.out]
       unfold endOf
       rw [if_pos (by show (0 : Int) < (k : Int) + 2; omega)]
     ·obtain rfl : k = 7 := by omega
      have hw0 : Stil.wrong s x = 0 := Stil.wrong_none HG.out HNO.out
      have HX : Hid (R = Stil.sureFrom (Stil.next s x.code) (j + 1) (l.drop (j + 1))) := by show _ = _; rw [HS.out, hw0, if_neg (by omega)]
      have HG2 : Hid (Stil.next s x.code).good := Stil.good_next HG.out hw0
      have HB2 : Hid (∀ W, Calls Tryz.prog 114 #[.agg #[.int .i64 s.bits, .int .i64 s.forks, .bool s.seen, .bool s.coil], .int .i64 x.code] W fun e w' => e = .returned (.agg #[.int .i64 (Stil.next s x.code).bits, .int .i64 (Stil.next s x.code).forks, .bool (Stil.next s x.code).seen, .bool (Stil.next s x.code).coil]) ∧ Below W.heap.size W w') := by
       intro W
       have := i_behind s x.code W HG.out
       rwa [Stil.behind_next HG.out hw0] at this
      clear hw0
      go_wp2_with (go_at_call 114; refine (HB2.out _).mono ?_; rintro e w5 ⟨rfl, hb5⟩; have pt5 : PtAt w5 w1.heap.size s := (HPT.out.below hbq).below hb5; obtain ⟨hz4, g0, g1, g2, g3, y0, y1, y2, y3⟩ := pt5)
      have hBw : Below w.heap.size w w5 := hB.trans ((hbq.trans (hb5.mono hbq.size)).mono hB.size)
      have hr5 : RulesAt w5 g := (HRU.out.below hbq).below hb5
      have hne : g ≠ w1.heap.size := by omega
      exact ⟨⟨j + 1, Stil.next s x.code, by omega, by go_num, HG2.out, HX.out, PtAt.stored ⟨hz4, g0, g1, g2, g3, y0, y1, y2, y3⟩ _, (((hr5.set hne _).set hne _).set hne _).set hne _, (((hBw.setCell hs1 _).setCell hs1 _).setCell hs1 _).setCell hs1 _⟩, by simp [intOf]; omega⟩
   ·obtain rfl : j = ln := by omega
    have HX : Hid (R = if 0 < s.bits then (9, j) else (0, 0)) := by show _ = _; rw [HP.out, Stil.sureFrom_end l s j (by have := HLN.out; omega)]
    obtain ⟨hz1, p0, p1, p2, p3, z0, z1, z2, z3⟩ := hpt
    by_cases hb0 : 0 < s.bits
    ·have HX2 : Hid (R = (9, j)) := by show _ = _; rw [HX.out, if_pos hb0]
     go_wp2
     exact ⟨rfl, by rw [HX2.out]; rfl, hB⟩
    ·have HX2 : Hid (R = (0, 0)) := by show _ = _; rw [HX.out, if_neg hb0]
     have hs0 : s = Stil.pt0 := (Stil.good_zero HG.out).2 (by omega)
     subst hs0
     simp only [Stil.pt0] at p0 p1 p2 p3
     go_wp2
     go_end0
     exact ⟨by rw [HX2.out]; rfl, hB⟩
/-- The cells of a fault lie in this block and may be written. -/
def FaultAt (w : World) (b : Nat) : Prop := b < w.heap.size ∧ (∃ u, w.cell? ⟨b, 0, none⟩ = some u) ∧ (∃ u, w.cell? ⟨b, 1, none⟩ = some u) ∧ w.frozen? ⟨b, 0, none⟩ = false ∧ w.frozen? ⟨b, 1, none⟩ = false
theorem catch_panicking (p : Nat) (c k : Int) (w : World) (hp : FaultAt w p) :
  CallsD Tryz.prog 97 #[.pointer (some ⟨p, 0, none⟩)] (.panicking [{ v := .iface 71 (.agg #[.int .i64 c, .int .i64 k]), recovered := false }]) w fun e u' w' =>
   e = .returned (.tuple #[]) ∧ u' = .panicking [{ v := .iface 71 (.agg #[.int .i64 c, .int .i64 k]), recovered := true }] ∧ ∃ w1, Below w.heap.size w w1 ∧ w' = (w1.setCell ⟨p, 0, none⟩ (.int .i64 c)).setCell ⟨p, 1, none⟩ (.int .i64 k) := by
 obtain ⟨hz, ⟨u0, h0⟩, ⟨u1, h1⟩, f0, f1⟩ := hp
 refine callsD_of_wpS Tryz.func97 rfl fun c₀ cs hu => ?_
 apply wpS_region
 simp [wpOpsS, go_sem, recoverD, hu, Tryz.ntmps97]
 refine (i_sureTold c k _).mono ?_
 rintro e w1 ⟨rfl, hb⟩
 have g0 : w1.cell? ⟨p, 0, none⟩ = some u0 := (hb.cell (p := ⟨p, 0, none⟩) hz).trans h0
 have g1 : w1.cell? ⟨p, 1, none⟩ = some u1 := (hb.cell (p := ⟨p, 1, none⟩) hz).trans h1
 have y0 : w1.frozen? ⟨p, 0, none⟩ = false := (hb.frozen (p := ⟨p, 0, none⟩) hz).trans f0
 have y1 : w1.frozen? ⟨p, 1, none⟩ = false := (hb.frozen (p := ⟨p, 1, none⟩) hz).trans f1
 simp [go_sem, g0, g1, y0, y1, bodyPostS, results, Tryz.results97]
 exact ⟨w1, hb, rfl⟩
theorem catch_idle (p : Nat) (w : World) (hp : FaultAt w p) :
  CallsD Tryz.prog 97 #[.pointer (some ⟨p, 0, none⟩)] .returning w fun e u' w' =>
   e = .returned (.tuple #[]) ∧ u' = .returning ∧ ∃ w1, Below w.heap.size w w1 ∧ w' = (w1.setCell ⟨p, 0, none⟩ (.int .i64 0)).setCell ⟨p, 1, none⟩ (.int .i64 0) := by
 obtain ⟨hz, ⟨u0, h0⟩, ⟨u1, h1⟩, f0, f1⟩ := hp
 refine callsD_of_wpS Tryz.func97 rfl fun c₀ cs hu => ?_
 apply wpS_region
 simp [wpOpsS, go_sem, recoverD, hu, Tryz.ntmps97]
 refine (i_sureTold_nil _).mono ?_
 rintro e w1 ⟨rfl, hb⟩
 have g0 : w1.cell? ⟨p, 0, none⟩ = some u0 := (hb.cell (p := ⟨p, 0, none⟩) hz).trans h0
 have g1 : w1.cell? ⟨p, 1, none⟩ = some u1 := (hb.cell (p := ⟨p, 1, none⟩) hz).trans h1
 have y0 : w1.frozen? ⟨p, 0, none⟩ = false := (hb.frozen (p := ⟨p, 0, none⟩) hz).trans f0
 have y1 : w1.frozen? ⟨p, 1, none⟩ = false := (hb.frozen (p := ⟨p, 1, none⟩) hz).trans f1
 cases c₀
 simp_all [go_sem, bodyPostS, results, Tryz.results97]
 exact ⟨w1, hb, rfl⟩
theorem i_sureCheck (l : List Stil.Inst) (v : Value) (w : World) (hr : RowsAt w) (hw : LWordsAt w) (hat : InstsAt w v l) (hl : l.length ≤ 1048576) (hft : ∀ x ∈ l, x.fits) :
  Calls Tryz.prog 69 #[v] w fun e w' => e = .returned (.agg #[.int .i64 (Stil.sureCheck l).1, .int .i64 (Stil.sureCheck l).2]) ∧ Below w.heap.size w w' := by
 have HRN : Hid (∀ W, Below w.heap.size w W → Calls Tryz.prog 99 #[v] W fun e w' => e = endOf (Stil.sureCheck l) ∧ Below W.heap.size W w') := fun W h => i_sureRun l v W (hr.below h) (hw.below h) (hat.below h) hl hft
 have hmf : ∀ (fn : Fn) (first cap : Array Value) (w : World), (Instr.makeFunc fn first cap).run Tryz.prog w = .ok (.func fn first cap) w := fun _ _ _ _ => rfl
 obtain ⟨a, cap, rfl, _⟩ := hat
 obtain ⟨R1, hR1⟩ : ∃ R1, R1 = (Stil.sureCheck l).1 := ⟨_, rfl⟩
 obtain ⟨R2, hR2⟩ : ∃ R2, R2 = (Stil.sureCheck l).2 := ⟨_, rfl⟩
 have HE : Hid (endOf (Stil.sureCheck l) = endOf (R1, R2)) := by show _ = _; rw [hR1, hR2]
 have HZ : Hid (¬ 0 < R1 → R1 = 0 ∧ R2 = 0) := by
  show _ → _
  rw [hR1, hR2]
  exact Stil.sureCheck_zero l
 rw [HE.out] at HRN
 rw [← hR1, ← hR2]
 clear hr hw hft hR1 hR2 HE
 by_cases h0 : 0 < R1
 ·have HX : Hid (endOf (R1, R2) = .panicked [{ v := .iface 71 (.agg #[.int .i64 R1, .int .i64 R2]), recovered := false }]) := by show _ = _; unfold endOf; rw [if_pos h0]
  rw [HX.out] at HRN
  clear HX HZ
  go_enter_defers Tryz.func69, Tryz.ntmps69
  go_wp2_with (go_at_call 99; refine (HRN.out _ blA).mono ?_; rintro e w1 ⟨rfl, hb⟩)
  have hz : w.heap.size < w1.heap.size := Nat.lt_of_lt_of_le (by simp) hb.size
  have hfa : FaultAt w1 w.heap.size := ⟨hz, ⟨_, by rw [hb.cell (p := ⟨w.heap.size, 0, none⟩) (by simp)]; simp [go_sem]; rfl⟩, ⟨_, by rw [hb.cell (p := ⟨w.heap.size, 1, none⟩) (by simp)]; simp [go_sem]; rfl⟩, frA hb, frA hb⟩
  refine leaves_cons (f := 97) (args := #[.pointer (some ⟨w.heap.size, 0, none⟩)]) (by simp) (by simp [go_sem]) ?_
  refine (catch_panicking w.heap.size R1 R2 _ hfa).mono ?_
  rintro e u' w'' ⟨rfl, rfl, w2, hb2, rfl⟩
  obtain ⟨_, ⟨u0, h0⟩, ⟨u1, h1⟩, _, _⟩ := hfa
  have g0 : w2.cell? ⟨w.heap.size, 0, none⟩ = some u0 := (hb2.cell (p := ⟨w.heap.size, 0, none⟩) hz).trans h0
  have g1 : w2.cell? ⟨w.heap.size, 1, none⟩ = some u1 := (hb2.cell (p := ⟨w.heap.size, 1, none⟩) hz).trans h1
  simp [Leaves, settle, results, Tryz.results69, go_sem, g0, g1]
  have hbw : Below w.heap.size w w2 := (below_alloc _ _).trans ((hb.trans (hb2.mono hb.size)).mono (by simp))
  exact (hbw.setCell (Nat.le_refl _) _).setCell (Nat.le_refl _) _
 ·obtain ⟨rfl, rfl⟩ := HZ.out h0
  have HX : Hid (endOf (0, 0) = .returned (.tuple #[])) := by show _ = _; unfold endOf; rw [if_neg (by decide)]
  rw [HX.out] at HRN
  clear HX HZ h0
  go_enter_defers Tryz.func69, Tryz.ntmps69
  go_wp2_with (go_at_call 99; refine (HRN.out _ blA).mono ?_; rintro e w1 ⟨rfl, hb⟩; have q0 : w1.cell? ⟨w.heap.size, 0, none⟩ = some (.int .i64 0) := (clA hb); have q1 : w1.cell? ⟨w.heap.size, 1, none⟩ = some (.int .i64 0) := (clA hb); have k0 : w1.frozen? ⟨w.heap.size, 0, none⟩ = false := (frA hb); have k1 : w1.frozen? ⟨w.heap.size, 1, none⟩ = false := (frA hb))
  have hz : w.heap.size < w1.heap.size := Nat.lt_of_lt_of_le (by simp) hb.size
  refine leaves_cons (f := 97) (args := #[.pointer (some ⟨w.heap.size, 0, none⟩)]) (by simp) (by simp [go_sem]) ?_
  obtain ⟨W, hW⟩ : ∃ W, W = (w1.setCell ⟨w.heap.size, 0, none⟩ (.int .i64 0)).setCell ⟨w.heap.size, 1, none⟩ (.int .i64 0) := ⟨_, rfl⟩
  have hzW : w.heap.size < W.heap.size := by rw [hW]; exact Nat.lt_of_lt_of_le hz (Nat.le_trans (sizeSet _ _ _) (sizeSet _ _ _))
  have hfa : FaultAt W w.heap.size := by
   refine ⟨hzW, ⟨.int .i64 0, ?_⟩, ⟨.int .i64 0, ?_⟩, ?_, ?_⟩
   ·rw [hW]; exact (cellSetOff (by omega)).trans (cellSetAt q0)
   ·rw [hW]; exact cellSetAt ((cellSetOff (by omega)).trans q1)
   ·rw [hW]; exact frozenSet.trans (frozenSet.trans k0)
   ·rw [hW]; exact frozenSet.trans (frozenSet.trans k1)
  have hbW : Below w.heap.size w W := by
   rw [hW]
   exact (((below_alloc _ _).trans (hb.mono (by simp))).setCell (Nat.le_refl _) _).setCell (Nat.le_refl _) _
  rw [← hW]
  clear hW q0 q1 k0 k1
  refine (catch_idle w.heap.size _ hfa).mono ?_
  rintro e u' w'' ⟨rfl, rfl, w2, hb2, rfl⟩
  obtain ⟨_, ⟨u0, h0⟩, ⟨u1, h1⟩, _, _⟩ := hfa
  have g0 : w2.cell? ⟨w.heap.size, 0, none⟩ = some u0 := (hb2.cell (p := ⟨w.heap.size, 0, none⟩) hzW).trans h0
  have g1 : w2.cell? ⟨w.heap.size, 1, none⟩ = some u1 := (hb2.cell (p := ⟨w.heap.size, 1, none⟩) hzW).trans h1
  simp [Leaves, settle, results, Tryz.results69, go_sem, g0, g1]
  have hbw : Below w.heap.size w w2 := hbW.trans (hb2.mono hbW.size)
  exact (hbw.setCell (Nat.le_refl _) _).setCell (Nat.le_refl _) _
end Go.Proofs.YtpaljcoojkbhnaaGreatDoor
