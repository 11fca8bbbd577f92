/- The program's chapter 8: an arm is read. -/
import Derived.Test.YtpaljcoojkbhnaaGreatDoorI31
namespace Go.Proofs.YtpaljcoojkbhnaaGreatDoor
open Go.RowKit Go.Sort Go.BigFrame
theorem LinkAt.off {w : World} {P : Nat} {a : Option Addr} {n c : Nat} (hc : w.cell? ⟨P, 0, none⟩ = some (.slice a n c)) : ∀ {bs : List Nat} {ms : List MNet} {v : Value}, LinkAt w bs ms v → ∀ q ∈ bs, q ≠ P
 | [], _, _, _, q, hq => by cases hq
 | b :: bs, [], _, h, _, _ => h.elim
 | b :: bs, m :: ms, v, h, q, hq => by
  obtain ⟨_, _, ⟨h3, _⟩, p, _, h8⟩ := h
  rcases List.mem_cons.1 hq with rfl | hq
  ·rintro rfl
   rw [h3] at hc
   cases hc
  ·exact LinkAt.off hc h8 q hq
theorem StackAt.grownP {w w' : World} {base P : Nat} {bs : List Nat} {ms : List MNet} {v : Value} (h : StackAt w base bs ms v) (hg : w.grownBy w' (some P)) (hP : P < base) (hne : ∀ q ∈ bs, q ≠ P) : StackAt w' base bs ms v :=
 ⟨h.link.kept hg (fun q hq e => by injection e with e; exact hne q hq e.symm), fun m hm => (h.oks m hm).kept (x := .slice (some ⟨P, 0, none⟩) 0 0) hg (fun u hu => .inr (fun e => by have := ((h.oks m hm).lt m u hu P e).1; omega)), h.apart, fun c hc => ⟨Nat.zero_le _, Nat.lt_of_lt_of_le (h.free c hc).2.1 hg.size, (h.free c hc).2.2⟩⟩
theorem AS.setKids {w wk w9 : World} {P B : Nat} {m : MArm} {kv' : Value} {ks : List MArm} (h : AS w wk P B m) (hP : P < w.heap.size) (hg : wk.grownBy w9 (some P)) (hr : ARow w9 wk.heap.size kv' ks) : AS w (w9.setCell ⟨B, 5, none⟩ kv') P B ⟨m.net, m.cv, m.coils, kv', ks⟩ := by
 have h9 := h.grown hP hg
 have hB := h.hB
 have hBk : B < wk.heap.size := h.box.1
 have hv : (MArm.mk m.net m.cv m.coils kv' ks).vals = m.net.vals ++ ((m.cv :: eVals m.coils) ++ (kv' :: aVals ks)) := MArm.vals_eq _
 have hm : m.vals = m.net.vals ++ ((m.cv :: eVals m.coils) ++ (m.kv :: aVals m.kids)) := MArm.vals_eq _
 have mN : ∀ x ∈ m.net.vals, x ∈ m.vals := fun x hx => by rw [hm]; exact List.mem_append_left _ hx
 have mC : ∀ x ∈ m.cv :: eVals m.coils, x ∈ m.vals := fun x hx => by rw [hm]; exact List.mem_append_right _ (List.mem_append_left _ hx)
 have hlo : ∀ x ∈ m.vals, ∀ q, x.ownBlock = some q → q < wk.heap.size := fun x hx q hq => (h.own.1.lt _ x hx q hq).2
 have hhi : ∀ x ∈ kv' :: aVals ks, ∀ q, x.ownBlock = some q → wk.heap.size ≤ q := fun x hx q hq => (hr.lt x hx q hq).1
 have hp := h.own.2
 rw [hm] at hp
 obtain ⟨pN, pR, pNR⟩ := List.pairwise_append.1 hp
 obtain ⟨pC, _, _⟩ := List.pairwise_append.1 pR
 obtain ⟨g1, g2, _, _⟩ := (AOk_iff _ _ _).1 h9.own.1
 have hle : w.heap.size + 1 ≤ wk.heap.size := by omega
 have hno : ∀ x ∈ (MArm.mk m.net m.cv m.coils kv' ks).vals, x.ownBlock ≠ some B := by
  intro x hx e
  rw [hv] at hx
  rcases List.mem_append.1 hx with hx | hx
  ·exact h.off x (mN x hx) e
  ·rcases List.mem_append.1 hx with hx | hx
   ·exact h.off x (mC x hx) e
   ·have := hhi x hx _ e; omega
 have hown : AOwn w9 (w.heap.size + 1) ⟨m.net, m.cv, m.coils, kv', ks⟩ := by
  refine ⟨(AOk_iff _ _ _).2 ⟨g1, g2, Joins.ownsRow_le hr.1 hle, fun x hx => (hr.2.1 x hx).le hle⟩, ?_⟩
  rw [hv]
  refine List.pairwise_append.2 ⟨pN, List.pairwise_append.2 ⟨pC, hr.2.2, fun x hx y hy => aside_new (n := wk.heap.size) (hlo x (mC x hx)) (hhi y hy)⟩, fun x hx y hy => ?_⟩
  rcases List.mem_append.1 hy with hy | hy
  ·exact pNR x hx y (List.mem_append_left _ hy)
  ·exact aside_new (n := wk.heap.size) (hlo x (mN x hx)) (hhi y hy)
 refine ⟨hB, B6.set5 h9.box _, AOwn.setO hown (a := ⟨B, 5, none⟩) hno _, hno, B6.setO h9.res (by omega) _, ?_⟩
 refine grown_then h9.gr (n := w.heap.size) ?_ (Nat.le_refl _)
 exact (Below.refl _ _).setCell (p := ⟨B, 5, none⟩) (by simp only; omega) _
set_option maxHeartbeats 8000000 in
set_option maxRecDepth 100000 in
theorem i_armS (N : Nat) (w0 : World) (b o : Nat) (L : List Stil.Inst) (hia : IArm N w0 b o L) (hat : LAt w0 b o L) (hl : L.length ≤ 1000) (hft : ∀ i ∈ L, i.fits) (l r : List Stil.Inst) (x : Stil.Arm) (bs0 : List Nat) (ms0 : List MNet) (po0 : Option Addr) (w : World) (hst : ∀ base, StackAt w base bs0 ms0 (.pointer po0)) (hok : Stil.stOk 1 (ms0.map MNet.net)) (h : Stil.ArmR (N + 1) (ms0.map MNet.net) l x r) (hrd : Rd9 w0 w b o L l) :
  Calls Tryz.prog 101 #[.pointer (some ⟨w0.heap.size, 0, none⟩), .pointer po0] w fun e w' => ArmRet w' w.heap.size x e ∧ Rd9 w0 w' b o L r ∧ w.grownBy w' (some w0.heap.size) := by
 obtain ⟨l1, l2, hN, hC, hK⟩ := h
 have HAT : Hid (LAt w0 b o L) := hat
 have HF : Hid (∀ i ∈ L, i.fits) := hft
 have hP : w0.heap.size < w.heap.size := hrd.lt
 have hbP : b < w0.heap.size := by
  cases l with
  | nil => exact hN.elim
  | cons i l =>
   have h2 := hrd.suf.length_le
   exact hat.lt (i := 0) (by simp only [List.length_cons] at h2; omega)
 have hll : l1.length ≤ 1000 := by have := hN.suffix.1.length_le; have := hrd.suf.length_le; omega
 have hcl : x.coils.length ≤ 1000 := by have := hC.suffix.2.2; omega
 obtain ⟨xn, xcs, xks⟩ := x
 simp only at hN hC hK hcl
 have hkl : xks.length ≤ 1000 := by
  have h2 := hC.suffix.2.2
  rcases hK with ⟨_, e, _⟩ | ⟨_, _, y, e, _⟩ | ⟨_, h⟩
  ·rw [e]; simp
  ·rw [e]; simp
  ·have h3 := fork_len h; omega
 have HKD : Hid (∀ W, Rd9 w0 W b o L l2 → Calls Tryz.prog 115 #[.pointer (some ⟨w0.heap.size, 0, none⟩)] W fun e w' => ArmsRet w' W.heap.size xks e ∧ Rd9 w0 w' b o L r ∧ W.grownBy w' (some w0.heap.size)) := fun W hr => i_kids N w0 b o L hia HAT.out hl l2 r xks W hK hr hkl
 have HN : Hid (Stil.NetR (ms0.map MNet.net) l xn l1) := hN
 have HC : Hid (Stil.CoilR l1 xcs l2) := hC
 have HST0 : Hid (∀ base, StackAt w base bs0 ms0 (.pointer po0)) := hst
 have HOK0 : Hid (Stil.stOk 1 (ms0.map MNet.net)) := hok
 have HRD0 : Hid (Rd9 w0 w b o L l) := hrd
 clear hia hat hft hrd hN hC hK hst hok
 have hfo := inst_one
 go_enter Tryz.func101, Tryz.ntmps101
 go_wp2
 go_loopw [1] (fun sv wr => ∃ (l' : List Stil.Inst) (bs : List Nat) (ms : List MNet) (po : Option Addr), sv = .pointer po ∧ StackAt wr (w.heap.size + 1) bs ms (.pointer po) ∧ Stil.NetR (ms.map MNet.net) l' xn l1 ∧ Rd9 w0 wr b o L l' ∧ Stil.stOk (1 + 2 * (L.length - l'.length)) (ms.map MNet.net) ∧ B6 wr w.heap.size (.int .i64 0) (.int .i64 0) (.slice none 0 0) (.slice none 0 0) (.slice none 0 0) (.slice none 0 0) ∧ w.grownBy wr (some w0.heap.size)) (fun _ wr => lenOf wr w0.heap.size)
 case atStart =>
  exact ⟨l, bs0, ms0, po0, rfl, (HST0.out _).below (below_alloc _ _), HN.out, HRD0.out.below (below_alloc _ _) HRD0.out.lt, ⟨HOK0.out.1, Nat.le_trans HOK0.out.2 (by omega)⟩, B6.new _ _ _ _ _ _ _ _, grown_of (below_alloc _ _) _⟩
 case round =>
  clear HN HST0 HOK0 HRD0
  obtain ⟨l', bs, ms, po, rfl, hst, hnr, hrd, hok, hbx, hgb⟩ := hrel
  cases l' with
  | nil => exact hnr.elim
  | cons i r' =>
   obtain ⟨J, cap, av, hJ, hJ1, hJ2, hcap, c0, x0, -, -, -⟩ := hrd.inst HAT.out
   have hPr : w0.heap.size < wr.heap.size := hrd.lt
   have hbr : b < wr.heap.size := Nat.lt_trans hbP hPr
   have hlr : r'.length + 1 ≤ 1000 := by have := hrd.suf.length_le; simp only [List.length_cons] at this; omega
   have hsw : w.heap.size < wr.heap.size := hbx.1
   have HLN : Hid (lenOf wr w0.heap.size = r'.length + 1) := hrd.len
   rw [Stil.NetR] at hnr
   by_cases h7 : i.code < 7
   ·rw [if_pos h7] at hnr
    obtain ⟨hc1, hnd, hnr⟩ := hnr
    rw [List.length_map] at hnd
    have hfi : i.fits := HF.out i (hrd.suf.subset (by simp))
    have HNC : Hid (∀ W, Calls Tryz.prog 52 #[.int .i64 i.code] W fun e w' => e = .returned (.bool true) ∧ w' = W) := fun W => by
     have h2 := i_isNetCode i.code W
     rw [decide_eq_true (by omega)] at h2
     exact h2
    have HNX : Hid (Calls Tryz.prog 102 #[.pointer (some ⟨w0.heap.size, 0, none⟩)] wr fun e w' => (∃ (a : Option Addr) (c : Nat), e = .returned (.agg #[.int .i64 i.code, .int .i64 i.one.op, .slice a i.one.args.length c]) ∧ DevsAt w' (.slice a i.one.args.length c) i.one.args) ∧ Rd9 w0 w' b o L r' ∧ wr.grownBy w' (some w0.heap.size)) := i_next L r' i b o w0 wr hrd HAT.out hl
    have hoff := LinkAt.off c0 hst.link
    have HBH : Hid (∀ (W : World) (av : Value), wr.grownBy W (some w0.heap.size) → DevsAt W av i.one.args → Calls Tryz.prog 55 #[.pointer po, .agg #[.int .i64 i.code, .int .i64 i.one.op, av]] W fun e w' => BehRet W w' (w.heap.size + 1) (Stil.doNet i.code i.one (ms.map MNet.net)) e) := fun W av hg hd => i_netBehind i av bs ms (.pointer po) (w.heap.size + 1) (1 + 2 * (L.length - (i :: r').length)) W (hst.grownP hg (by omega) hoff) hd hfi hc1 h7 hnd hok (by omega) (Nat.le_trans (by omega) hg.size)
    have HEND : Hid (∀ (w5 w7 : World) (ms7 : List MNet), wr.grownBy w5 (some w0.heap.size) → Rd9 w0 w5 b o L r' → Below (w.heap.size + 1) w5 w7 → ms7.map MNet.net = Stil.doNet i.code i.one (ms.map MNet.net) → Stil.NetR (ms7.map MNet.net) r' xn l1 ∧ Rd9 w0 w7 b o L r' ∧ Stil.stOk (1 + 2 * (L.length - r'.length)) (ms7.map MNet.net) ∧ B6 w7 w.heap.size (.int .i64 0) (.int .i64 0) (.slice none 0 0) (.slice none 0 0) (.slice none 0 0) (.slice none 0 0) ∧ w.grownBy w7 (some w0.heap.size)) := fun w5 w7 ms7 g5 r5 hb7 hn7 => by
     rw [hn7]
     have h5 := Stil.do_ok (c := i.code) hfi.2 hok (by omega)
     have e5 : 1 + 2 * (L.length - (i :: r').length) + 2 = 1 + 2 * (L.length - r'.length) := by omega
     rw [e5] at h5
     exact ⟨hnr, r5.below hb7 (by omega), h5, (hbx.grown g5 (fun e => by injection e with e; omega)).below hb7 (Nat.lt_succ_self _), grown_then (hgb.trans g5) hb7 (Nat.le_succ _)⟩
    clear hnr hst hok hbx hgb hrd hJ1 hJ2 hnd hoff hfi
    go_wp2_with (first | (go_at_call 52; refine (HNC.out _).mono ?_; rintro e w4 ⟨rfl, hw4⟩; obtain rfl := hw4.symm) | (go_at_call 102; refine HNX.out.mono ?_; rintro e w5 ⟨⟨ta, ua, rfl, hd5⟩, hrd5, hg5⟩; have HD5 : Hid (DevsAt w5 (.slice ta i.one.args.length ua) i.one.args) := hd5; have HR5 : Hid (Rd9 w0 w5 b o L r') := hrd5; have HG5 : Hid (wr.grownBy w5 (some w0.heap.size)) := hg5; clear hd5 hrd5 hg5) | (go_at_call 55; refine (HBH.out _ _ HG5.out HD5.out).mono ?_; rintro e w7 ⟨b7, bs7, ms7, rfl, hm7, hn7, hb7⟩; have HM7 : Hid (StackAt w7 (w.heap.size + 1) (b7 :: bs7) ms7 (.pointer (some ⟨b7, 0, none⟩))) := hm7; have HE7 := hid_of (HEND.out w5 w7 ms7 HG5.out HR5.out hb7 hn7); clear hm7 hn7 hb7))
    exact ⟨⟨r', b7 :: bs7, ms7, _, rfl, HM7.out, HE7.out⟩, by rw [HE7.out.2.1.len, HLN.out]; omega⟩
   ·rw [if_neg h7] at hnr
    obtain ⟨hst1, rfl⟩ := hnr
    have HNC : Hid (∀ W, Calls Tryz.prog 52 #[.int .i64 i.code] W fun e w' => e = .returned (.bool false) ∧ w' = W) := fun W => by
     have h2 := i_isNetCode i.code W
     rw [decide_eq_false (by omega)] at h2
     exact h2
    have hlen : ms.length = 1 := by have := congrArg List.length hst1; simpa using this
    obtain ⟨m, rfl⟩ := List.length_eq_one_iff.1 hlen
    have hmn : m.net = xn := by simpa using hst1
    obtain ⟨g, bs', rfl, hvp, hlt2, ⟨y0, y1, y2, y3⟩, _⟩ := hst.link.cons
    obtain rfl : po = some ⟨g, 0, none⟩ := by injection hvp
    have hmo : MOwn wr (w.heap.size + 1) m := ⟨hst.oks m (by simp), by have := hst.apart; rw [mVals_one] at this; exact this⟩
    have hmok := (MOk_iff _ _ _).1 hmo.1
    obtain ⟨q1, q2, hd⟩ := slice_of_owns hmok.1
    obtain ⟨q3, q4, hd2⟩ := slice_of_owns hmok.2.1
    have HAN : Hid (∀ t : TypeId, AS w (wr.alloc (.cells #[.int .i64 m.kind, .int .i64 m.op, m.av, m.kv, .slice none 0 0, .slice none 0 0] t)) w0.heap.size wr.heap.size ⟨m, .slice none 0 0, [], .slice none 0 0, []⟩) := fun t => AS.new hmo hbx hgb
    have HRW : Hid (Rd9 w0 wr b o L (i :: r')) := hrd
    have HMN : Hid (m.net = xn) := hmn
    clear hst hst1 hmo hmok hrd hok hbx hgb hvp hJ1 hJ2 hmn hlen
    obtain ⟨mk, mop, mds, mav, mkv, mks⟩ := m
    simp only at hd hd2 y0 y1 y2 y3 HAN
    subst hd
    subst hd2
    obtain ⟨wb, hwb⟩ : ∃ wb : World, wb = wr := ⟨wr, rfl⟩
    subst hwb
    go_wp2_with (go_at_call 52; refine (HNC.out _).mono ?_; rintro e w4 ⟨rfl, hw4⟩; obtain rfl := hw4.symm)
    go_loopw [] (fun wr => ∃ (l' : List Stil.Inst) (cs' : List Stil.Elem) (m : MArm), AS w wr w0.heap.size wb.heap.size m ∧ m.arm.net = xn ∧ m.arm.kids = [] ∧ m.arm.coils ++ cs' = xcs ∧ Stil.CoilR l' cs' l2 ∧ Rd9 w0 wr b o L l') (fun wr => lenOf wr w0.heap.size)
    case atStart =>
     refine ⟨i :: r', xcs, _, HAN.out _, ?_, ?_, ?_, HC.out, HRW.out.below (below_alloc _ _) HRW.out.lt⟩
     ·rw [MArm.arm_eq]; exact HMN.out
     ·rw [MArm.arm_eq]; rfl
     ·rw [MArm.arm_eq]; rfl
    case round =>
     clear HC HAN HRW HMN HNC HLN y0 y1 y2 y3 hlt2 hcap c0 x0 hJ hPr hbr hlr hsw h7
     obtain ⟨l', cs', m, has, hmn, hmk, hmc, hcr, hrd⟩ := hrel
     cases l' with
     | nil => exact hcr.elim
     | cons i r' =>
      obtain ⟨J, cap, av, hJ, hJ1, hJ2, hcap, c0, x0, -, -, -⟩ := hrd.inst HAT.out
      have hPr : w0.heap.size < wr.heap.size := hrd.lt
      have hbr : b < wr.heap.size := Nat.lt_trans hbP hPr
      have hlr : r'.length + 1 ≤ 1000 := by have := hrd.suf.length_le; simp only [List.length_cons] at this; omega
      have HLN : Hid (lenOf wr w0.heap.size = r'.length + 1) := hrd.len
      obtain ⟨k1, o1, d1, a1, c1, b1, e1, n1, f1, g1, s1, h1, j1, ks1, rfl⟩ := marm_form m has.own.1
      have HAS0 : Hid (AS w wr w0.heap.size wb.heap.size (MArm.mk ⟨k1, o1, d1, .slice a1 d1.length c1, .slice b1 n1.length e1, n1⟩ (.slice f1 s1.length g1) s1 (.slice h1 ks1.length j1) ks1)) := has
      have HRD : Hid (Rd9 w0 wr b o L (i :: r')) := hrd
      have HMN : Hid ((MArm.mk ⟨k1, o1, d1, .slice a1 d1.length c1, .slice b1 n1.length e1, n1⟩ (.slice f1 s1.length g1) s1 (.slice h1 ks1.length j1) ks1).arm.net = xn) := hmn
      have HMK : Hid ((MArm.mk ⟨k1, o1, d1, .slice a1 d1.length c1, .slice b1 n1.length e1, n1⟩ (.slice f1 s1.length g1) s1 (.slice h1 ks1.length j1) ks1).arm.kids = []) := hmk
      have HMC : Hid ((MArm.mk ⟨k1, o1, d1, .slice a1 d1.length c1, .slice b1 n1.length e1, n1⟩ (.slice f1 s1.length g1) s1 (.slice h1 ks1.length j1) ks1).arm.coils ++ cs' = xcs) := hmc
      have hB1 := has.hB
      by_cases h10 : i.code = 10
      ·rw [Stil.CoilR, if_pos h10] at hcr
       obtain ⟨cs2, rfl, hcr⟩ := hcr
       have HCR : Hid (Stil.CoilR r' cs2 l2) := hcr
       have hfi : i.fits := HF.out i (hrd.suf.subset (by simp))
       have HNX : Hid (∀ W, Below wr.heap.size wr W → Calls Tryz.prog 102 #[.pointer (some ⟨w0.heap.size, 0, none⟩)] W fun e w' => (∃ (a : Option Addr) (c : Nat), e = .returned (.agg #[.int .i64 i.code, .int .i64 i.one.op, .slice a i.one.args.length c]) ∧ DevsAt w' (.slice a i.one.args.length c) i.one.args) ∧ Rd9 w0 w' b o L r' ∧ wr.grownBy w' (some w0.heap.size)) := fun W h => (i_next L r' i b o w0 W (hrd.below h hrd.lt) HAT.out hl).mono (fun e w' hh => ⟨hh.1, hh.2.1, gbelow8 h hh.2.2⟩)
       have HCP : Hid (∀ (W : World) (av : Value), wr.grownBy W (some w0.heap.size) → DevsAt W av i.one.args → Calls Tryz.prog 87 #[.agg #[.int .i64 i.one.op, av]] W fun e w' => ∃ ac cc, e = .returned (.agg #[.int .i64 i.one.op, .slice ac i.one.args.length cc]) ∧ w'.ownsRow wr.heap.size 117 3 (.slice ac i.one.args.length cc) i.one.args.length (devsCells i.one.args) ∧ Below W.heap.size W w') := fun W av hg hd => by
        refine (i_normElem i.one.op av i.one.args W hd hfi.2.2.1).mono ?_
        rintro e w' ⟨u, rfl, ho, hb⟩
        obtain ⟨ac, cc, rfl⟩ := slice_of_owns ho
        exact ⟨ac, cc, rfl, Joins.ownsRow_le ho hg.size, hb⟩
       have hsl : s1.length ≤ 1000 := by
        have h2 := congrArg List.length hmc
        rw [MArm.arm_eq] at h2
        simp only [List.length_append, List.length_map, List.length_cons] at h2
        omega
       have hl2 : s1.length + [MElem.mk i.one.op i.one.args (.slice none 0 0)].length ≤ 1000000 := by simp only [List.length_singleton]; omega
       have hBk : wb.heap.size < wr.heap.size := has.box.1
       have y4 : wr.cell? ⟨wb.heap.size, 4, none⟩ = some (.slice f1 s1.length g1) := has.box.2.1.2.2.2.2.1
       have hvm : Value.slice f1 s1.length g1 ∈ (MArm.mk ⟨k1, o1, d1, .slice a1 d1.length c1, .slice b1 n1.length e1, n1⟩ (.slice f1 s1.length g1) s1 (.slice h1 ks1.length j1) ks1).vals := by rw [MArm.vals_eq]; simp
       have HKB : Hid ((Value.slice f1 s1.length g1).ownBlock ≠ some wb.heap.size) := has.off _ hvm
       have HKW : Hid (∀ q, (Value.slice f1 s1.length g1).ownBlock = some q → w.heap.size + 1 ≤ q) := fun q hq => (has.own.1.lt _ _ hvm q hq).1
       have HBK : Hid (w.heap.size + 1 ≤ wr.heap.size) := by show _ ≤ _; omega
       have HXP : Hid (∀ W, wr.grownBy W (some w0.heap.size) → wb.heap.size < W.heap.size ∧ W.cell? ⟨wb.heap.size, 4, none⟩ = some (.slice f1 s1.length g1) ∧ W.frozen? ⟨wb.heap.size, 4, none⟩ = false) := fun W h => by
        have h2 := HAS0.out.grown hP h
        exact ⟨h2.box.1, h2.box.2.1.2.2.2.2.1, h2.box.2.2 4 (by omega)⟩
       have HXG : Hid (∀ w7, wr.grownBy w7 (some w0.heap.size) → ∀ ac cc w6, (w7.alloc (.cells #[.int .i64 i.one.op, .slice ac i.one.args.length cc] 26)).grownBy w6 (Value.slice f1 s1.length g1).ownBlock → w6.cell? ⟨wb.heap.size, 4, none⟩ = some (.slice f1 s1.length g1) ∧ w6.frozen? ⟨wb.heap.size, 4, none⟩ = false) := fun w7 h ac cc w6 hg => by
        obtain ⟨z2, q4, q5⟩ := HXP.out w7 h
        exact ⟨(grownO_cell hg (by simp; omega) HKB.out).trans ((celA z2).trans q4), (grownO_frozen hg (by simp; omega) HKB.out).trans (((below_alloc w7 (.cells #[.int .i64 i.one.op, .slice ac i.one.args.length cc] 26)).frozen (p := ⟨wb.heap.size, 4, none⟩) z2).trans q5)⟩
       have HEND : Hid (∀ (w7 w6 : World) (ac : Option Addr) (cc : Nat) (a6 : Option Addr) (c6 : Nat), wr.grownBy w7 (some w0.heap.size) → Rd9 w0 w7 b o L r' → w7.ownsRow wr.heap.size 117 3 (.slice ac i.one.args.length cc) i.one.args.length (devsCells i.one.args) → ERow w6 (w.heap.size + 1) (.slice a6 (s1.length + 1) c6) (s1 ++ [(MElem.mk i.one.op i.one.args (.slice ac i.one.args.length cc))]) → (w7.alloc (.cells #[.int .i64 i.one.op, .slice ac i.one.args.length cc] 26)).grownBy w6 (Value.slice f1 s1.length g1).ownBlock → ((Value.slice a6 (s1.length + 1) c6).ownBlock = (Value.slice f1 s1.length g1).ownBlock ∨ (Value.slice a6 (s1.length + 1) c6).ownBlock = some (w7.alloc (.cells #[.int .i64 i.one.op, .slice ac i.one.args.length cc] 26)).heap.size) →
         ∃ m : MArm, AS w (w6.setCell ⟨wb.heap.size, 4, none⟩ (.slice a6 (s1.length + 1) c6)) w0.heap.size wb.heap.size m ∧ m.arm.net = xn ∧ m.arm.kids = [] ∧ m.arm.coils ++ cs2 = xcs ∧ Rd9 w0 (w6.setCell ⟨wb.heap.size, 4, none⟩ (.slice a6 (s1.length + 1) c6)) b o L r') := fun w7 w6 ac cc a6 c6 h7 hr7 hoc hr6 hg6 hat6 => by
        have hkw := HKW.out
        refine ⟨_, AS.coilEnd (c := (MElem.mk i.one.op i.one.args (.slice ac i.one.args.length cc))) (cv' := .slice a6 (s1.length + 1) c6) HAS0.out hP h7 (fun q hq => (hoc.lt q hq).1) hr6 hg6 hat6, ?_, ?_, ?_, (((hr7.below (below_alloc _ _) hr7.lt).grown hg6 (fun q e => by have := hkw q e; omega)).setB (by omega) _)⟩
        ·have h2 := HMN.out
         rw [MArm.arm_eq] at h2 ⊢
         exact h2
        ·have h2 := HMK.out
         rw [MArm.arm_eq] at h2 ⊢
         exact h2
        ·have h2 := HMC.out
         rw [MArm.arm_eq] at h2 ⊢
         simp only [List.map_append, List.append_assoc] at h2 ⊢
         exact h2
       clear hcr hfi hJ1 hJ2 hmn hmk hmc hrd has hvm hsl
       go_upto_region 5 with fail
       go_region_law (first | (refine step_raw_elems rfl _ _ rfl (w.heap.size + 1) f1 g1 s1 [(MElem.mk i.one.op i.one.args (.slice ac i.one.args.length cc))] (some ⟨w7.heap.size, 0, none⟩) 1 rfl rfl ((((HAS0.out.grown hP HG7.out).below hP (below_alloc _ _)).own).crow) (fun _ => ⟨_, rfl, by exact cells2e rfl⟩) (fun m hm => by rw [List.mem_singleton.1 hm]; exact ownsRow_below (Joins.ownsRow_le HOC.out HBK.out) (below_alloc _ _)) (HAS0.out.own.crow.apart (w1 := w7) (b1 := wr.heap.size) (fun m hm => by rw [List.mem_singleton.1 hm]; exact HOC.out) (Nat.le_refl _) (List.pairwise_singleton _ _)) hl2 (by have := HG7.out.size; have := HBK.out; simp; omega) ?_; intro a6 c6 w6 hmr6 hgr6 hat6; have HM6 : Hid (ERow w6 (w.heap.size + 1) (.slice a6 (s1.length + 1) c6) (s1 ++ [(MElem.mk i.one.op i.one.args (.slice ac i.one.args.length cc))])) := hmr6; have HG6 : Hid ((w7.alloc (.cells #[.int .i64 i.one.op, .slice ac i.one.args.length cc] 26)).grownBy w6 (Value.slice f1 s1.length g1).ownBlock) := hgr6; have HT6 : Hid ((Value.slice a6 (s1.length + 1) c6).ownBlock = (Value.slice f1 s1.length g1).ownBlock ∨ (Value.slice a6 (s1.length + 1) c6).ownBlock = some (w7.alloc (.cells #[.int .i64 i.one.op, .slice ac i.one.args.length cc] 26)).heap.size) := hat6; obtain ⟨t4, u4⟩ := HXG.out w7 HG7.out _ _ w6 hgr6; clear hmr6 hgr6 hat6) | (have hx := HG5.out; clear hx; go_simp; go_at_call 87; refine (HCP.out w5 _ HG5.out HD5.out).mono ?_; rintro e w7 ⟨ac, cc, rfl, hoc, hb7⟩; have HOC : Hid (w7.ownsRow wr.heap.size 117 3 (.slice ac i.one.args.length cc) i.one.args.length (devsCells i.one.args)) := hoc; have HG7 : Hid (wr.grownBy w7 (some w0.heap.size)) := (HG5.out.trans (grown_of hb7 _)); have HR7 : Hid (Rd9 w0 w7 b o L r') := (HR5.out.below hb7 HR5.out.lt); obtain ⟨z72, y47, f47⟩ := HXP.out w7 HG7.out; clear hoc hb7) | (go_simp; go_at_call 102; refine (HNX.out _ (by exact (Below.refl _ _).drew)).mono ?_; rintro e w5 ⟨⟨ta, ua, rfl, hd5⟩, hrd5, hg5⟩; have HD5 : Hid (DevsAt w5 (.slice ta i.one.args.length ua) i.one.args) := hd5; have HR5 : Hid (Rd9 w0 w5 b o L r') := hrd5; have HG5 : Hid (wr.grownBy w5 (some w0.heap.size)) := hg5; obtain ⟨z52, y45, f45⟩ := HXP.out w5 hg5; clear hd5 hrd5 hg5))
       all_goals
        go_wp2
        obtain ⟨m2, g1', g2', g3', g4', g5'⟩ := HEND.out w7 w6 ac cc a6 c6 HG7.out HR7.out HOC.out HM6.out HG6.out HT6.out
        exact ⟨⟨r', cs2, m2, g1', g2', g3', g4', HCR.out, g5'⟩, by rw [g5'.len, HLN.out]; omega⟩
      ·rw [Stil.CoilR, if_neg h10] at hcr
       obtain ⟨rfl, rfl⟩ := hcr
       have HMA0 : Hid ((MArm.mk ⟨k1, o1, d1, .slice a1 d1.length c1, .slice b1 n1.length e1, n1⟩ (.slice f1 s1.length g1) s1 (.slice h1 ks1.length j1) ks1).arm = ⟨xn, xcs, []⟩) := arm_ext8 HMN.out (by have h2 := HMC.out; rw [List.append_nil] at h2; exact h2) HMK.out
       have HK1 : Hid (Calls Tryz.prog 115 #[.pointer (some ⟨w0.heap.size, 0, none⟩)] wr fun e w' => ArmsRet w' wr.heap.size xks e ∧ Rd9 w0 w' b o L r ∧ wr.grownBy w' (some w0.heap.size)) := HKD.out wr hrd
       have HXP : Hid (∀ W, wr.grownBy W (some w0.heap.size) → wb.heap.size < W.heap.size ∧ (∃ u, W.cell? ⟨wb.heap.size, 5, none⟩ = some u) ∧ W.frozen? ⟨wb.heap.size, 5, none⟩ = false) := fun W h => by
        have h2 := HAS0.out.grown hP h
        exact ⟨h2.box.1, ⟨_, h2.box.2.1.2.2.2.2.2⟩, h2.box.2.2 5 (by omega)⟩
       clear hmn hmk hmc hrd has HMN HMK HMC HLN HRD HKD hJ1 hJ2
       go_upto_region 7 with (go_at_call 115; refine HK1.out.mono ?_; rintro e w9 ⟨⟨a9, c9, ms9, rfl, hn9, hr9⟩, hrd9, hg9⟩; have HN9 : Hid (ms9.map MArm.arm = xks) := hn9; have HA9 : Hid (ARow w9 wr.heap.size (.slice a9 ms9.length c9) ms9) := hr9; have HR9 : Hid (Rd9 w0 w9 b o L r) := hrd9; have HG9 : Hid (wr.grownBy w9 (some w0.heap.size)) := hg9; obtain ⟨z9, ⟨u9, y9⟩, f9⟩ := HXP.out w9 hg9; clear hn9 hr9 hrd9 hg9)
       obtain ⟨wz, hwz⟩ : ∃ wz, wz = w9.setCell ⟨wb.heap.size, 5, none⟩ (.slice a9 ms9.length c9) := ⟨_, rfl⟩
       obtain ⟨m3, has3, hma3, hrd3⟩ : ∃ m3 : MArm, AS w wz w0.heap.size wb.heap.size m3 ∧ m3.arm = ⟨xn, xcs, xks⟩ ∧ Rd9 w0 wz b o L r := by
        rw [hwz]
        refine ⟨_, AS.setKids HAS0.out hP HG9.out HA9.out, ?_, HR9.out.setB (by omega) _⟩
        have h2 := HMA0.out
        rw [MArm.arm_eq] at h2 ⊢
        simp only [Stil.Arm.mk.injEq] at h2 ⊢
        exact ⟨h2.1, h2.2.1, HN9.out⟩
       rw [← hwz]
       clear hwz y9 f9 z9 HA9 HR9 HG9 HN9 HAS0 HMA0 HK1 HXP
       obtain ⟨kz, oz, dz, az, cz, bz, ez, nz, fz, gz, sz, hz, jz, ksz, rfl⟩ := marm_form m3 has3.own.1
       have has := has3
       have HRE : Hid (Rd9 w0 wz b o L r) := hrd3
       have HMA : Hid ((MArm.mk ⟨kz, oz, dz, .slice az dz.length cz, .slice bz nz.length ez, nz⟩ (.slice fz sz.length gz) sz (.slice hz ksz.length jz) ksz).arm = ⟨xn, xcs, xks⟩) := hma3
       clear has3 hrd3 hma3
       obtain ⟨_, ⟨y0, y1, y2, y3, y4, y5⟩, _⟩ := has.box
       obtain ⟨_, ⟨t0, t1, t2, t3, t4, t5⟩, hfz⟩ := has.res
       have f0 := hfz 0 (by omega)
       have f1' := hfz 1 (by omega)
       have f2 := hfz 2 (by omega)
       have f3 := hfz 3 (by omega)
       have f4 := hfz 4 (by omega)
       have f5 := hfz 5 (by omega)
       have HAE : Hid (AS w wz w0.heap.size wb.heap.size (MArm.mk ⟨kz, oz, dz, .slice az dz.length cz, .slice bz nz.length ez, nz⟩ (.slice fz sz.length gz) sz (.slice hz ksz.length jz) ksz)) := has
       clear has hfz
       simp only at y0 y1 y2 y3 y4 y5
       go_wp2
       refine bodyPost_ret (v := .agg #[.int .i64 kz, .int .i64 oz, .slice az dz.length cz, .slice bz nz.length ez, .slice fz sz.length gz, .slice hz ksz.length jz]) (by simp [results, Tryz.results101, go_sem, t0, t1, t2, t3, t4, t5]) rfl ?_
       exact ⟨⟨_, _, _, _, _, _, _, _, _, _, _, _, _, _, rfl, (HAE.out.ret _ _ _ _ _ _).1, HMA.out⟩, HRE.out.below (HAE.out.ret _ _ _ _ _ _).2.1 hP, (HAE.out.ret _ _ _ _ _ _).2.2⟩
theorem none_stack {w0 w : World} {Q base : Nat} (h : NoneAt w0 w Q) : StackAt w base [Q] [⟨0, 0, [], .slice none 0 0, .slice none 0 0, []⟩] (.pointer (some ⟨Q, 0, none⟩)) := by
 have hv : mVals [(⟨0, 0, [], .slice none 0 0, .slice none 0 0, []⟩ : MNet)] = [.slice none 0 0, .slice none 0 0] := by rw [mVals_one, MNet.vals_eq]; rfl
 refine ⟨⟨rfl, h.lt, ⟨h.k0, h.k1, h.k2, h.k3⟩, _, h.k4, rfl⟩, fun m hm => ?_, ?_, fun c hc => ⟨Nat.zero_le _, ?_, fun x hx e => ?_⟩⟩
 ·rw [List.mem_singleton.1 hm]; exact (zero_own w base).1
 ·have h2 := (zero_own w base).2
  rw [mVals_one]; exact h2
 ·rw [List.mem_singleton.1 hc]; exact h.lt
 ·rw [hv] at hx
  simp only [List.mem_cons, List.not_mem_nil, or_false, or_self] at hx
  rw [hx] at e
  cases e
theorem i_armK (w0 : World) (b o : Nat) (L : List Stil.Inst) (hat : LAt w0 b o L) (hl : L.length ≤ 1000) (hft : ∀ i ∈ L, i.fits) : ∀ N, IArm N w0 b o L
 | 0 => fun _ _ _ _ _ h => h.elim
 | N + 1 => fun l r y Q W h hr hno => i_armS N w0 b o L (i_armK w0 b o L hat hl hft N) hat hl hft l r y [Q] [⟨0, 0, [], .slice none 0 0, .slice none 0 0, []⟩] (some ⟨Q, 0, none⟩) W (fun _ => none_stack hno) (by rw [List.map_singleton, zero_net]; exact Stil.zero_stOk) (by rw [List.map_singleton, zero_net]; exact h) hr
/-- A rung is read. -/
theorem i_armR (w0 : World) (b o : Nat) (L : List Stil.Inst) (hat : LAt w0 b o L) (hl : L.length ≤ 1000) (hft : ∀ i ∈ L, i.fits) (N : Nat) (l r : List Stil.Inst) (y : Stil.Arm) (W : World) (h : Stil.ArmR (N + 1) [] l y r) (hr : Rd9 w0 W b o L l) :
  Calls Tryz.prog 101 #[.pointer (some ⟨w0.heap.size, 0, none⟩), .pointer none] W fun e w' => ArmRet w' W.heap.size y e ∧ Rd9 w0 w' b o L r ∧ W.grownBy w' (some w0.heap.size) :=
 i_armS N w0 b o L (i_armK w0 b o L hat hl hft N) hat hl hft l r y [] [] none W (fun _ => ⟨rfl, (fun m hm => by cases hm), List.Pairwise.nil, (fun c hc => by cases hc)⟩) ⟨(fun n hn => by cases hn), by simp [Stil.sizes]⟩ h hr
end Go.Proofs.YtpaljcoojkbhnaaGreatDoor
