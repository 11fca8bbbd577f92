/- The program's chapter 8: the kids of a fork, the kids of an arm. -/
import Derived.Test.YtpaljcoojkbhnaaGreatDoorI30
import Derived.Test.YtpaljcoojkbhnaaGreatDoorS27
set_option maxHeartbeats 4000000
set_option maxRecDepth 100000
namespace Go.Proofs.YtpaljcoojkbhnaaGreatDoor
open Go.RowKit Go.Sort Go.BigFrame
/-- The stack of one net that is none, which kids share. -/
structure NoneAt (w0 w : World) (Q : Nat) : Prop where
 hi : w0.heap.size < Q
 lt : Q < w.heap.size
 k0 : w.cell? ⟨Q, 0, none⟩ = some (.int .i64 0)
 k1 : w.cell? ⟨Q, 1, none⟩ = some (.int .i64 0)
 k2 : w.cell? ⟨Q, 2, none⟩ = some (.slice none 0 0)
 k3 : w.cell? ⟨Q, 3, none⟩ = some (.slice none 0 0)
 k4 : w.cell? ⟨Q, 4, none⟩ = some (.pointer none)
theorem NoneAt.keep {w0 w w' : World} {Q : Nat} (h : NoneAt w0 w Q) (hs : w.heap.size ≤ w'.heap.size) (hc : ∀ o, w'.cell? ⟨Q, o, none⟩ = w.cell? ⟨Q, o, none⟩) : NoneAt w0 w' Q :=
 ⟨h.hi, Nat.lt_of_lt_of_le h.lt hs, (hc _).trans h.k0, (hc _).trans h.k1, (hc _).trans h.k2, (hc _).trans h.k3, (hc _).trans h.k4⟩
theorem NoneAt.below {w0 w w' : World} {Q n : Nat} (h : NoneAt w0 w Q) (hb : Below n w w') (hn : Q < n) : NoneAt w0 w' Q := h.keep hb.size (fun o => hb.cell (p := ⟨Q, o, none⟩) hn)
theorem NoneAt.grownO {w0 w w' : World} {Q : Nat} {r : Option Nat} (h : NoneAt w0 w Q) (hg : w.grownBy w' r) (hr : r ≠ some Q) : NoneAt w0 w' Q := h.keep hg.size (fun _ => grownO_cell hg h.lt hr)
theorem NoneAt.grown {w0 w w' : World} {Q : Nat} (h : NoneAt w0 w Q) (hg : w.grownBy w' (some w0.heap.size)) : NoneAt w0 w' Q := h.grownO hg (fun e => by injection e with e; have := h.hi; omega)
theorem ARow.grownP {w w' : World} {base P : Nat} {v : Value} {ms : List MArm} (h : ARow w base v ms) (hg : w.grownBy w' (some P)) (hP : P < base) : ARow w' base v ms := ((rowArm_own h).grownP hg hP).krow
theorem ARow.single {w : World} {base : Nat} {m : MArm} (h : AOwn w base m) (hb : base ≤ w.heap.size) : ARow (w.alloc (.cells #[.int .i64 m.net.kind, .int .i64 m.net.op, m.net.av, m.net.kv, m.cv, m.kv] 80)) base (.slice (some ⟨w.heap.size, 0, none⟩) 1 1) [m] := by
 refine ⟨?_, fun x hx => ?_, ?_⟩
 ·exact World.ownsRow_lit w #[.int .i64 m.net.kind, .int .i64 m.net.op, m.net.av, m.net.kv, m.cv, m.kv] 1 hb (by unfold maxLen; omega) rfl
 ·rw [List.mem_singleton.1 hx]; exact h.1.below (below_alloc _ _)
 ·rw [aVals_one, List.pairwise_cons]
  refine ⟨fun y hy => (aside_new (n := w.heap.size) (fun k hk => (h.1.lt m y hy k hk).2) (fun k hk => ?_)).symm, h.2⟩
  have e : w.heap.size = k := by simpa [Value.ownBlock] using hk
  omega
def lenOf (w : World) (P : Nat) : Nat := match w.cell? ⟨P, 0, none⟩ with
 | some (.slice _ n _) => n
 | _ => 0
theorem Rd9.len {w0 w : World} {b o : Nat} {L l : List Stil.Inst} (h : Rd9 w0 w b o L l) : lenOf w w0.heap.size = l.length := by
 obtain ⟨cap, q, _, c0, _⟩ := h.c0
 unfold lenOf
 rw [c0]
theorem inst_code (x y z : Value) (w : World) : Sem.run Tryz.prog (Instr.field 51 (.agg #[x, y, z]) 0) w = .ok x w := by kernel_rfl
theorem inst_one (x y z : Value) (w : World) : Sem.run Tryz.prog (Instr.field 51 (.agg #[x, y, z]) 1) w = .ok (.agg #[y, z]) w := by kernel_rfl
/-- The program reads an arm that begins on a net that is none. -/
def IArm (N : Nat) (w0 : World) (b o : Nat) (L : List Stil.Inst) : Prop := ∀ (l r : List Stil.Inst) (y : Stil.Arm) (Q : Nat) (W : World), Stil.ArmR N [Stil.netZero] l y r → Rd9 w0 W b o L l → NoneAt w0 W Q → Calls Tryz.prog 101 #[.pointer (some ⟨w0.heap.size, 0, none⟩), .pointer (some ⟨Q, 0, none⟩)] W fun e w' => ArmRet w' W.heap.size y e ∧ Rd9 w0 w' b o L r ∧ W.grownBy w' (some w0.heap.size)
theorem i_forked (N : Nat) (w0 : World) (b o : Nat) (L : List Stil.Inst) (hia : IArm N w0 b o L) (hat : LAt w0 b o L) (hl : L.length ≤ 1000) (l r : List Stil.Inst) (ks : List Stil.Arm) (Q : Nat) (w : World) (hf : Stil.ForkR (Stil.ArmR N [Stil.netZero]) ks l r) (hrd : Rd9 w0 w b o L l) (hno : NoneAt w0 w Q) (hkl : ks.length ≤ 1000) :
  Calls Tryz.prog 129 #[.pointer (some ⟨w0.heap.size, 0, none⟩), .pointer (some ⟨Q, 0, none⟩)] w fun e w' => ArmsRet w' w.heap.size ks e ∧ Rd9 w0 w' b o L r ∧ w.grownBy w' (some w0.heap.size) := by
 have HIA : Hid (IArm N w0 b o L) := hia
 have HAT : Hid (LAt w0 b o L) := hat
 have HF : Hid (Stil.ForkR (Stil.ArmR N [Stil.netZero]) ks l r) := hf
 have HRD : Hid (Rd9 w0 w b o L l) := hrd
 have HN0 : Hid (NoneAt w0 w Q) := hno
 have hP : w0.heap.size < w.heap.size := hrd.lt
 have hQ : Q < w.heap.size := hno.lt
 clear hia hat hf hrd hno
 have hfc := inst_code
 go_enter Tryz.func129, Tryz.ntmps129
 go_wp2
 go_loopw [5] (fun kv wr => ∃ (l' : List Stil.Inst) (ks' : List Stil.Arm) (ms : List MArm) (ra : Option Addr) (rc : Nat), kv = .slice ra ms.length rc ∧ ARow wr w.heap.size (.slice ra ms.length rc) ms ∧ ms.map MArm.arm ++ ks' = ks ∧ Stil.ForkR (Stil.ArmR N [Stil.netZero]) ks' l' r ∧ Rd9 w0 wr b o L l' ∧ NoneAt w0 wr Q ∧ w.grownBy wr (some w0.heap.size)) (fun _ wr => lenOf wr w0.heap.size)
 case atStart =>
  exact ⟨l, ks, [], none, 0, rfl, ARow.nil _ _, rfl, HF.out, HRD.out, HN0.out, World.grownBy.refl _ _⟩
 case round =>
  clear HF HRD HN0
  obtain ⟨l', ks', ms, ra, rc, rfl, hmr, hmk, hfk, hrd, hno, hgr⟩ := hrel
  cases l' with
  | nil => exact absurd hfk (by cases ks' <;> simp [Stil.ForkR])
  | cons i l2 =>
   obtain ⟨y, ks2, rfl, hcase⟩ := fork_code hfk
   have HMR : Hid (ARow wr w.heap.size (.slice ra ms.length rc) ms) := hmr
   have HMK : Hid (ms.map MArm.arm ++ y :: ks2 = ks) := hmk
   have HNO : Hid (NoneAt w0 wr Q) := hno
   have HGR : Hid (w.grownBy wr (some w0.heap.size)) := hgr
   have HLN : Hid (lenOf wr w0.heap.size = l2.length + 1) := hrd.len
   have HNX : Hid (Calls Tryz.prog 102 #[.pointer (some ⟨w0.heap.size, 0, none⟩)] wr fun e w' => (∃ (a : Option Addr) (c : Nat), e = .returned (.agg #[.int .i64 i.code, .int .i64 i.one.op, .slice a i.one.args.length c]) ∧ DevsAt w' (.slice a i.one.args.length c) i.one.args) ∧ Rd9 w0 w' b o L l2 ∧ wr.grownBy w' (some w0.heap.size)) := i_next L l2 i b o w0 wr hrd HAT.out hl
   have hml : ms.length ≤ 1000 := by
    have h2 := congrArg List.length hmk
    simp only [List.length_append, List.length_map, List.length_cons] at h2
    omega
   have hl3 : ms.length + [rowArm (.slice none 0 0) []].length ≤ 1000000 := by simp only [List.length_singleton]; omega
   have hsr := hgr.size
   clear hmr hmk hno hgr hrd hfk
   obtain ⟨lm, hlm⟩ : ∃ lm, Stil.ArmR N [Stil.netZero] l2 y lm ∧ (ks2 = [] ∧ i.code = 9 ∧ lm = r ∨ ¬ i.code = 9 ∧ Stil.ForkR (Stil.ArmR N [Stil.netZero]) ks2 lm r) := by
    rcases hcase with ⟨h1, h2, h3⟩ | ⟨_, h2, m, h3, h4⟩
    ·exact ⟨r, h3, .inl ⟨h1, h2, rfl⟩⟩
    ·exact ⟨m, h3, .inr ⟨by omega, h4⟩⟩
   clear hcase
   have HY : Hid (Stil.ArmR N [Stil.netZero] l2 y lm) := hlm.1
   have HEND : Hid (∀ (w5 w6 w7 : World) (k : MArm) (ob : Obj) (a7 : Option Addr) (c7 : Nat), wr.grownBy w5 (some w0.heap.size) → w5.grownBy w6 (some w0.heap.size) → Rd9 w0 w6 b o L lm → k.arm = y → (w6.alloc ob).grownBy w7 (Value.slice ra ms.length rc).ownBlock → (ms ++ [k]).map MArm.arm ++ ks2 = ks ∧ Rd9 w0 w7 b o L lm ∧ NoneAt w0 w7 Q ∧ w.grownBy w7 (some w0.heap.size)) := fun w5 w6 w7 k ob a7 c7 g5 g6 r6 hk g7 => by
    have hlo : ∀ q, (Value.slice ra ms.length rc).ownBlock = some q → w.heap.size ≤ q := fun q hq => (HMR.out.1.lt q hq).1
    refine ⟨?_, (r6.below (below_alloc _ _) r6.lt).grown g7 (fun q hq => by have := hlo q hq; omega), ((((HNO.out.grown g5).grown g6).below (below_alloc _ _) ((HNO.out.grown g5).grown g6).lt).grownO g7 (fun e => by have := hlo _ e; omega)), ?_⟩
    ·rw [List.map_append, List.append_assoc, List.map_singleton, hk]
     exact HMK.out
    ·exact ((((HGR.out.trans g5).trans g6).trans (grown_of (below_alloc _ _) _)).andThen g7 (fun q hq => .inl (hlo q hq)))
   rcases hlm.2 with ⟨rfl, h9, rfl⟩ | ⟨h9, hf2⟩
   ·clear hlm
    go_wp2_with (first | (go_at_call 102; refine HNX.out.mono ?_; rintro e w5 ⟨⟨ta, ua, rfl, -⟩, hrd5, hg5⟩; have HR5 : Hid (Rd9 w0 w5 b o L l2) := hrd5; have HG5 : Hid (wr.grownBy w5 (some w0.heap.size)) := hg5; have HN5 : Hid (NoneAt w0 w5 Q) := HNO.out.grown hg5; clear hrd5 hg5) | (go_at_call 101; refine (HIA.out l2 lm y Q w5 HY.out HR5.out HN5.out).mono ?_; rintro e w6 ⟨⟨mk, mop, mds, xa, ya, mns, xb, yb, mcs, xc, yc, mks, xd, yd, rfl, hmo, hmn⟩, hrd6, hg6⟩; have HMO : Hid (AOwn w6 w5.heap.size (MArm.mk ⟨mk, mop, mds, .slice xa mds.length ya, .slice xb mns.length yb, mns⟩ (.slice xc mcs.length yc) mcs (.slice xd mks.length yd) mks)) := hmo; have HMN : Hid ((MArm.mk ⟨mk, mop, mds, .slice xa mds.length ya, .slice xb mns.length yb, mns⟩ (.slice xc mcs.length yc) mcs (.slice xd mks.length yd) mks).arm = y) := hmn; have HR6 : Hid (Rd9 w0 w6 b o L lm) := hrd6; have HG6 : Hid (w5.grownBy w6 (some w0.heap.size)) := hg6; have HA6 : Hid (ARow w6 w.heap.size (.slice ra ms.length rc) ms) := ((HMR.out.grownP HG5.out hP).grownP hg6 hP); have hs56 : w5.heap.size ≤ w6.heap.size := hg6.size; have hsr5 : wr.heap.size ≤ w5.heap.size := HG5.out.size; clear hmo hmn hrd6 hg6) | (at_builtin; refine wpList_raw_arms rfl _ _ rfl w.heap.size ra rc ms [(MArm.mk ⟨mk, mop, mds, .slice xa mds.length ya, .slice xb mns.length yb, mns⟩ (.slice xc mcs.length yc) mcs (.slice xd mks.length yd) mks)] _ 1 rfl rfl (HA6.out.below (below_alloc _ _)) (fun _ => ⟨_, rfl, by exact cells6a⟩) (fun m hm => by rw [List.mem_singleton.1 hm]; exact ((HMO.out.1.le (by omega)).below (below_alloc _ _))) ((HMR.out.grownP HG5.out hP).apart (w1 := w6) (b1 := w5.heap.size) (fun m hm => by rw [List.mem_singleton.1 hm]; exact HMO.out.1) (Nat.le_refl _) (by rw [aVals_one]; exact HMO.out.2)) hl3 (by simp only [World.size_alloc]; omega) ?_; intro a7 c7 w7 hmr7 hg7 hv7; have HM7 : Hid (ARow w7 w.heap.size (.slice a7 (ms.length + 1) c7) (ms ++ [(MArm.mk ⟨mk, mop, mds, .slice xa mds.length ya, .slice xb mns.length yb, mns⟩ (.slice xc mcs.length yc) mcs (.slice xd mks.length yd) mks)])) := hmr7; have HG7 : Hid ((w6.alloc (.cells #[.int .i64 mk, .int .i64 mop, .slice xa mds.length ya, .slice xb mns.length yb, .slice xc mcs.length yc, .slice xd mks.length yd] 80)).grownBy w7 (Value.slice ra ms.length rc).ownBlock) := hg7; clear hmr7 hg7 hv7))
    go_ret
    obtain ⟨e1, e2, e3, e4⟩ := HEND.out w5 w6 w7 (MArm.mk ⟨mk, mop, mds, .slice xa mds.length ya, .slice xb mns.length yb, mns⟩ (.slice xc mcs.length yc) mcs (.slice xd mks.length yd) mks) _ a7 c7 HG5.out HG6.out HR6.out HMN.out HG7.out
    exact ⟨⟨a7, c7, ms ++ [(MArm.mk ⟨mk, mop, mds, .slice xa mds.length ya, .slice xb mns.length yb, mns⟩ (.slice xc mcs.length yc) mcs (.slice xd mks.length yd) mks)], by simp, by rw [← e1, List.append_nil], by rw [List.length_append]; exact HM7.out⟩, e2, e4⟩
   ·have HF2 : Hid (Stil.ForkR (Stil.ArmR N [Stil.netZero]) ks2 lm r) := hf2
    clear hlm hf2
    go_wp2_with (first | (go_at_call 102; refine HNX.out.mono ?_; rintro e w5 ⟨⟨ta, ua, rfl, -⟩, hrd5, hg5⟩; have HR5 : Hid (Rd9 w0 w5 b o L l2) := hrd5; have HG5 : Hid (wr.grownBy w5 (some w0.heap.size)) := hg5; have HN5 : Hid (NoneAt w0 w5 Q) := HNO.out.grown hg5; clear hrd5 hg5) | (go_at_call 101; refine (HIA.out l2 lm y Q w5 HY.out HR5.out HN5.out).mono ?_; rintro e w6 ⟨⟨mk, mop, mds, xa, ya, mns, xb, yb, mcs, xc, yc, mks, xd, yd, rfl, hmo, hmn⟩, hrd6, hg6⟩; have HMO : Hid (AOwn w6 w5.heap.size (MArm.mk ⟨mk, mop, mds, .slice xa mds.length ya, .slice xb mns.length yb, mns⟩ (.slice xc mcs.length yc) mcs (.slice xd mks.length yd) mks)) := hmo; have HMN : Hid ((MArm.mk ⟨mk, mop, mds, .slice xa mds.length ya, .slice xb mns.length yb, mns⟩ (.slice xc mcs.length yc) mcs (.slice xd mks.length yd) mks).arm = y) := hmn; have HR6 : Hid (Rd9 w0 w6 b o L lm) := hrd6; have HG6 : Hid (w5.grownBy w6 (some w0.heap.size)) := hg6; have HA6 : Hid (ARow w6 w.heap.size (.slice ra ms.length rc) ms) := ((HMR.out.grownP HG5.out hP).grownP hg6 hP); have hs56 : w5.heap.size ≤ w6.heap.size := hg6.size; have hsr5 : wr.heap.size ≤ w5.heap.size := HG5.out.size; clear hmo hmn hrd6 hg6) | (at_builtin; refine wpList_raw_arms rfl _ _ rfl w.heap.size ra rc ms [(MArm.mk ⟨mk, mop, mds, .slice xa mds.length ya, .slice xb mns.length yb, mns⟩ (.slice xc mcs.length yc) mcs (.slice xd mks.length yd) mks)] _ 1 rfl rfl (HA6.out.below (below_alloc _ _)) (fun _ => ⟨_, rfl, by exact cells6a⟩) (fun m hm => by rw [List.mem_singleton.1 hm]; exact ((HMO.out.1.le (by omega)).below (below_alloc _ _))) ((HMR.out.grownP HG5.out hP).apart (w1 := w6) (b1 := w5.heap.size) (fun m hm => by rw [List.mem_singleton.1 hm]; exact HMO.out.1) (Nat.le_refl _) (by rw [aVals_one]; exact HMO.out.2)) hl3 (by simp only [World.size_alloc]; omega) ?_; intro a7 c7 w7 hmr7 hg7 hv7; have HM7 : Hid (ARow w7 w.heap.size (.slice a7 (ms.length + 1) c7) (ms ++ [(MArm.mk ⟨mk, mop, mds, .slice xa mds.length ya, .slice xb mns.length yb, mns⟩ (.slice xc mcs.length yc) mcs (.slice xd mks.length yd) mks)])) := hmr7; have HG7 : Hid ((w6.alloc (.cells #[.int .i64 mk, .int .i64 mop, .slice xa mds.length ya, .slice xb mns.length yb, .slice xc mcs.length yc, .slice xd mks.length yd] 80)).grownBy w7 (Value.slice ra ms.length rc).ownBlock) := hg7; clear hmr7 hg7 hv7))
    obtain ⟨e1, e2, e3, e4⟩ := HEND.out w5 w6 w7 (MArm.mk ⟨mk, mop, mds, .slice xa mds.length ya, .slice xb mns.length yb, mns⟩ (.slice xc mcs.length yc) mcs (.slice xd mks.length yd) mks) _ a7 c7 HG5.out HG6.out HR6.out HMN.out HG7.out
    have hle := HY.out.suffix.length_le
    exact ⟨⟨lm, ks2, ms ++ [(MArm.mk ⟨mk, mop, mds, .slice xa mds.length ya, .slice xb mns.length yb, mns⟩ (.slice xc mcs.length yc) mcs (.slice xd mks.length yd) mks)], a7, c7, by simp, by rw [List.length_append]; exact HM7.out, e1, HF2.out, e2, e3, e4⟩, by rw [e2.len, HLN.out]; omega⟩
theorem i_kids (N : Nat) (w0 : World) (b o : Nat) (L : List Stil.Inst) (hia : IArm N w0 b o L) (hat : LAt w0 b o L) (hl : L.length ≤ 1000) (l r : List Stil.Inst) (ks : List Stil.Arm) (w : World) (hk : Stil.KidsR (Stil.ArmR N [Stil.netZero]) ks l r) (hrd : Rd9 w0 w b o L l) (hkl : ks.length ≤ 1000) :
  Calls Tryz.prog 115 #[.pointer (some ⟨w0.heap.size, 0, none⟩)] w fun e w' => ArmsRet w' w.heap.size ks e ∧ Rd9 w0 w' b o L r ∧ w.grownBy w' (some w0.heap.size) := by
 cases l with
 | nil =>
  exfalso
  rcases hk with ⟨h, _⟩ | ⟨h, _⟩ | ⟨h, _⟩
  ·simp [Stil.headCode] at h
  ·simp [Stil.headCode] at h
  ·simp [Stil.headCode] at h
 | cons i l2 =>
  obtain ⟨J, cap, av, hJ, hJ1, -, hcap, c0, x0, -, -, -⟩ := hrd.inst hat
  have hP : w0.heap.size < w.heap.size := hrd.lt
  have hb : b < w.heap.size := Nat.lt_trans (hat.lt hJ) hrd.lt
  have hlm : l2.length + 1 ≤ 1000 := by have := hrd.suf.length_le; simp only [List.length_cons] at this; omega
  have HIA : Hid (IArm N w0 b o L) := hia
  have HAT : Hid (LAt w0 b o L) := hat
  have HRD : Hid (Rd9 w0 w b o L (i :: l2)) := hrd
  have HNO : Hid (∀ t : TypeId, NoneAt w0 (w.alloc (.cells #[.int .i64 0, .int .i64 0, .slice none 0 0, .slice none 0 0, .pointer none] t)) w.heap.size) := fun t => ⟨hP, by simp, by simp [go_sem], by simp [go_sem], by simp [go_sem], by simp [go_sem], by simp [go_sem]⟩
  clear hia hat hrd hJ1
  rcases hk with ⟨hc, rfl, rfl⟩ | ⟨hc1, hc7, y, rfl, hy⟩ | ⟨hc7, hf⟩
  ·have hc : i.code = 8 ∨ i.code = 9 ∨ i.code = 11 := hc
   rcases hc with hc | hc | hc
   all_goals
    go_enter Tryz.func115, Tryz.ntmps115
    go_wp2
    go_ret
    exact ⟨⟨none, 0, [], rfl, rfl, ARow.nil _ _⟩, HRD.out.below (below_alloc _ _) HRD.out.lt, grown_of (below_alloc _ _) _⟩
  ·have hc1 : 1 ≤ i.code := hc1
   have hc7 : i.code < 7 := hc7
   have n8 : ¬ i.code = 8 := by omega
   have n9 : ¬ i.code = 9 := by omega
   have n11 : ¬ i.code = 11 := by omega
   have n7 : ¬ i.code = 7 := by omega
   have HCA : Hid (∀ t : TypeId, Calls Tryz.prog 101 #[.pointer (some ⟨w0.heap.size, 0, none⟩), .pointer (some ⟨w.heap.size, 0, none⟩)] (w.alloc (.cells #[.int .i64 0, .int .i64 0, .slice none 0 0, .slice none 0 0, .pointer none] t)) fun e w' => ArmRet w' w.heap.size y e ∧ Rd9 w0 w' b o L r ∧ w.grownBy w' (some w0.heap.size)) := fun t => by
    refine (HIA.out (i :: l2) r y w.heap.size _ hy (HRD.out.below (below_alloc _ _) HRD.out.lt) (HNO.out t)).mono ?_
    rintro e w' ⟨⟨mk, mop, mds, xa, ya, mns, xb, yb, mcs, xc, yc, mks, xd, yd, he, hmo, hmn⟩, h2, h3⟩
    exact ⟨⟨mk, mop, mds, xa, ya, mns, xb, yb, mcs, xc, yc, mks, xd, yd, he, hmo.le (by simp), hmn⟩, h2, gbelow8 (below_alloc _ _) h3⟩
   clear hy
   go_enter Tryz.func115, Tryz.ntmps115
   go_wp2_with (go_at_call 101; refine (HCA.out _).mono ?_; rintro e w6 ⟨⟨mk, mop, mds, xa, ya, mns, xb, yb, mcs, xc, yc, mks, xd, yd, rfl, hmo, hmn⟩, hrd6, hg6⟩; have HMO : Hid (AOwn w6 w.heap.size (MArm.mk ⟨mk, mop, mds, .slice xa mds.length ya, .slice xb mns.length yb, mns⟩ (.slice xc mcs.length yc) mcs (.slice xd mks.length yd) mks)) := hmo; have HMN : Hid ((MArm.mk ⟨mk, mop, mds, .slice xa mds.length ya, .slice xb mns.length yb, mns⟩ (.slice xc mcs.length yc) mcs (.slice xd mks.length yd) mks).arm = y) := hmn; have HR6 : Hid (Rd9 w0 w6 b o L r) := hrd6; have HG6 : Hid (w.grownBy w6 (some w0.heap.size)) := hg6; clear hmo hmn hrd6 hg6)
   go_ret
   exact ⟨⟨some ⟨w6.heap.size, 0, none⟩, 1, [(MArm.mk ⟨mk, mop, mds, .slice xa mds.length ya, .slice xb mns.length yb, mns⟩ (.slice xc mcs.length yc) mcs (.slice xd mks.length yd) mks)], rfl, by rw [List.map_singleton, HMN.out], ARow.single HMO.out HG6.out.size⟩, HR6.out.below (below_alloc _ _) HR6.out.lt, HG6.out.trans (grown_of (below_alloc _ _) _)⟩
  ·have hc7 : i.code = 7 := hc7
   have HCF : Hid (∀ t : TypeId, Calls Tryz.prog 129 #[.pointer (some ⟨w0.heap.size, 0, none⟩), .pointer (some ⟨w.heap.size, 0, none⟩)] (w.alloc (.cells #[.int .i64 0, .int .i64 0, .slice none 0 0, .slice none 0 0, .pointer none] t)) fun e w' => ArmsRet w' w.heap.size ks e ∧ Rd9 w0 w' b o L r ∧ w.grownBy w' (some w0.heap.size)) := fun t => by
    refine (i_forked N w0 b o L HIA.out HAT.out hl (i :: l2) r ks w.heap.size _ hf (HRD.out.below (below_alloc _ _) HRD.out.lt) (HNO.out t) hkl).mono ?_
    rintro e w' ⟨⟨a, c, ms, he, hn, hr⟩, h2, h3⟩
    exact ⟨⟨a, c, ms, he, hn, hr.le (by simp)⟩, h2, gbelow8 (below_alloc _ _) h3⟩
   clear hf
   go_enter Tryz.func115, Tryz.ntmps115
   go_wp2_with (go_at_call 129; refine (HCF.out _).mono ?_; rintro e w6 ⟨⟨a, c, ms, rfl, hn, hr⟩, h2, h3⟩)
   go_ret
   exact ⟨⟨a, c, ms, rfl, hn, hr⟩, h2, h3⟩
end Go.Proofs.YtpaljcoojkbhnaaGreatDoor
