/- The specification's chapter 8: BackUp. -/
import Derived.Test.YtpaljcoojkbhnaaGreatDoorS26
import Derived.Test.YtpaljcoojkbhnaaGreatDoorS23
import Derived.Test.YtpaljcoojkbhnaaGreatDoorN7
import Derived.Test.YtpaljcoojkbhnaaGreatDoorGw
import Derived.Test.YtpaljcoojkbhnaaGreatDoorHg
set_option maxHeartbeats 4000000
set_option maxRecDepth 100000
namespace Go.Proofs.YtpaljcoojkbhnaaGreatDoor
open Go.RowKit Go.Sort Go.BigFrame
/-- A ladder and a code are answered; the ladder owns its memory. -/
def UpRet (w : World) (base : Nat) (R : List Stil.Arm × Int) (e : Ending) : Prop := ∃ (a : Option Addr) (c : Nat) (ms : List MArm), e = .returned (.tuple #[.slice a ms.length c, .int .i64 R.2]) ∧ ms.map MArm.arm = R.1 ∧ ARow w base (.slice a ms.length c) ms
theorem sfault_code (c r : Value) (w : World) : Sem.run Tryz.prog (Instr.field 71 (.agg #[c, r]) 0) w = .ok c w := by kernel_rfl
theorem tfault_code (c r : Value) (w : World) : Sem.run Tryz.prog (Instr.field 83 (.agg #[c, r]) 0) w = .ok c w := by kernel_rfl
theorem row_arms {w : World} {base : Nat} {v : Value} {ms : List MArm} (h : ARow w base v ms) : ArmsFrom base w v (ms.map MArm.arm) := by
 obtain ⟨_, _, _, f4⟩ := AOk.from _ (rowArm_own h).1
 have hk : (rowArm v ms).arm.kids = ms.map MArm.arm := by rw [MArm.arm_eq]; rfl
 rw [hk] at f4
 exact f4
theorem wpList_raw_arms {ops : Array Oper} {rest : List Oper} {o : Oper} {a : Act} {w : World} {Q : Exit → Act → World → Prop}
  (hg : o.guard = none) (s x : Operand) (hop : o.op = .call { callee := .builtin .append, args := #[s, x], argTypes := #[39, 39] })
  (base : Nat) (ra : Option Addr) (rc : Nat) (ms ks : List MArm) (ad : Option Addr) (c : Nat) (hs : a.eval s = .slice ra ms.length rc) (hx : a.eval x = .slice ad ks.length c)
  (hrow : ARow w base (.slice ra ms.length rc) ms) (hxs : 0 < ks.length → ∃ p, ad = some p ∧ ∀ j u, (aCells ks)[j]? = some u → w.cell? (p.add j) = some u)
  (hk : ∀ m ∈ ks, AOk w base m) (hp : (Value.slice ra ms.length rc :: (aVals ms ++ aVals ks)).Pairwise Aside) (hl : ms.length + ks.length ≤ 1000000) (hbase : base ≤ w.heap.size)
  (h : ∀ a' c' w', ARow w' base (.slice a' (ms.length + ks.length) c') (ms ++ ks) → w.grownBy w' (Value.slice ra ms.length rc).ownBlock → ((Value.slice a' (ms.length + ks.length) c').ownBlock = (Value.slice ra ms.length rc).ownBlock ∨ (Value.slice a' (ms.length + ks.length) c').ownBlock = some w.heap.size) → wpList Tryz.prog ops Q rest (a.put o.dst (.slice a' (ms.length + ks.length) c')) w') :
  wpList Tryz.prog ops Q (o :: rest) a w := by
 refine wpList_plain hg fun K hK => ?_
 have hw : Region.wanted o (yielded #[] a.tmps) = true := by simp [Region.wanted, hg]
 have := step_raw_arms (ops := #[]) (K := K) (Q := Q) (E := True) hg s x hop base ra rc ms ks ad c hs hx hrow hxs hk hp hl hbase (fun a' c' w' h1 h2 h3 => hK _ _ (h a' c' w' h1 h2 h3))
 rwa [if_pos hw] at this
theorem below_of_grown {w w' : World} {P : Nat} (h : w.grownBy w' (some P)) {n : Nat} (hn : n ≤ P) (hw : n ≤ w.heap.size) : Below n w w' := ⟨h.os, h.tape, h.output, h.size, fun k hk => h.block k (by omega) (fun e => by injection e with e; omega)⟩
/-- The reader of a rung, new. -/
theorem Rd8.new {w : World} {a : Option Addr} {cap : Nat} {L : List Stil.Inst} {t : TypeId} : Rd8 w (w.alloc (.cells #[.slice a L.length cap, .int .i64 0] t)) a cap L L := by
 refine ⟨below_alloc _ _, by simp, by simp [go_sem], ?_, by simp [go_sem], List.suffix_refl _⟩
 rw [Nat.sub_self]
 simp [go_sem]
theorem s_backUp_bad (l : List Stil.Inst) (v : Value) (w : World) (hat : InstsAt w v l) (hl : l.length ≤ 1048576) (hft : ∀ x ∈ l, x.fits) (hbad : 0 < (Stil.sureCheck l).1) :
  Calls Tryz.prog 14 #[v] w fun e w' => UpRet w' w.heap.size ([], 1) e ∧ Below w.heap.size w w' := by
 have HC : Hid (∀ W, Below w.heap.size w W → Calls Tryz.prog 35 #[v] W fun e w' => e = .returned (.agg #[.int .i64 (Stil.sureCheck l).1, .int .i64 (Stil.sureCheck l).2]) ∧ Below W.heap.size W w') := fun W h => s_sureCheck l v W (hat.below h) hl hft
 obtain ⟨a, cap, rfl, -⟩ := hat
 obtain ⟨c, hc⟩ : ∃ c, c = (Stil.sureCheck l).1 := ⟨_, rfl⟩
 obtain ⟨k, hk⟩ : ∃ k, k = (Stil.sureCheck l).2 := ⟨_, rfl⟩
 rw [← hc, ← hk] at HC
 rw [← hc] at hbad
 clear hc hk hft
 have hfc := sfault_code
 go_enter Tryz.func14, Tryz.ntmps14
 go_wp2_with (go_at_call 35; refine (HC.out _ blA).mono ?_; rintro e w1 ⟨rfl, hb1⟩)
 refine bodyPost_ret (v := .tuple #[.slice none 0 0, .int .i64 1]) (by simp [results, Tryz.results14, go_sem]) rfl ?_
 exact ⟨⟨none, 0, [], rfl, rfl, ARow.nil _ _⟩, blA⟩
theorem s_backUp_ok (l : List Stil.Inst) (v : Value) (w : World) (xs : List Stil.Arm) (hat : InstsAt w v l) (hl : l.length ≤ 1048576) (hft : ∀ x ∈ l, x.fits) (hcap : ∀ a n c, v = .slice a n c → n ≤ c) (hz : (Stil.sureCheck l).1 = 0) (hx : Stil.UpR (Stil.sureRungs l) xs) (hxf : ∀ x ∈ xs, Stil.armFits x) (hxs : Stil.treeSize xs ≤ 4000) (hxl : xs.length ≤ 1000) :
  Calls Tryz.prog 14 #[v] w fun e w' => UpRet w' w.heap.size (Stil.upOf xs) e ∧ Below w.heap.size w w' := by
 have HC : Hid (∀ W, Below w.heap.size w W → Calls Tryz.prog 35 #[v] W fun e w' => e = .returned (.agg #[.int .i64 (Stil.sureCheck l).1, .int .i64 (Stil.sureCheck l).2]) ∧ Below W.heap.size W w') := fun W h => s_sureCheck l v W (hat.below h) hl hft
 have HSR : Hid (∀ W, Below w.heap.size w W → Calls Tryz.prog 36 #[v] W fun e w' => ∃ (a : Option Addr) (cap : Nat), e = .returned (.slice a (Stil.sureRungs l).length cap) ∧ InstssFrom W.heap.size w' (.slice a (Stil.sureRungs l).length cap) (Stil.sureRungs l) ∧ Below W.heap.size W w') := fun W h => s_sureRungs l v W (hat.below h) hl hft hcap
 have HTC : Hid (∀ (W : World) (kv : Value), ArmsAt W kv xs → Calls Tryz.prog 38 #[kv] W fun e w' => e = .returned (.agg #[.int .i64 (Stil.treeCheck xs).1, .int .i64 (Stil.treeCheck xs).2]) ∧ Below W.heap.size W w') := fun W kv h => s_treeCheck xs kv W h (by omega) (by omega) hxf
 have HRF : Hid (∀ c ∈ Stil.sureRungs l, c.length ≤ 1000 ∧ ∀ i ∈ c, i.fits) := by
  have h1 := Stil.sureRungs_fits hft
  exact fun c hc => ⟨(h1.1 c hc).2, (h1.1 c hc).1⟩
 obtain ⟨R, hR⟩ : ∃ R, R = Stil.sureRungs l := ⟨_, rfl⟩
 rw [← hR] at HSR HRF hx
 have HX : Hid (Stil.UpR R xs) := hx
 have hRl : R.length = xs.length := hx.len.symm
 obtain ⟨a, cap, rfl, -⟩ := hat
 rw [hz] at HC
 obtain ⟨k, hk⟩ : ∃ k, k = (Stil.sureCheck l).2 := ⟨_, rfl⟩
 rw [← hk] at HC
 have hl2 : R.length ≤ 1000 := by omega
 have HRL : Hid (R.length = xs.length) := hRl
 clear hk hft hx hR hcap hz hxf hxs hRl
 have hfc := sfault_code
 have htc := tfault_code
 go_enter Tryz.func14, Tryz.ntmps14
 go_wp2_with (first | (go_at_call 35; refine (HC.out _ blA).mono ?_; rintro e w1 ⟨rfl, hb1⟩) | (go_at_call 36; refine (HSR.out _ blA).mono ?_; rintro e w4 ⟨a4, c4, rfl, hin, hb4⟩; have HIN : Hid (InstssFrom (w1.heap.size + 1) w4 (.slice a4 R.length c4) R) := (by have h := hin; simp only [World.size_alloc] at h; exact h); have hs4 : w1.heap.size + 1 ≤ w4.heap.size := (by have h := hb4.size; simp only [World.size_alloc] at h; exact h); clear hin))
 have HB4 : Hid (Below w.heap.size w w4) := by show Below _ _ _; (repeat (first | with_reducible exact Below.refl _ _ | with_reducible assumption | with_reducible refine bl_set (by first | exact Nat.le_refl _ | (simp; done) | (simp; omega) | omega) ?_ _ | with_reducible refine bl_alloc ?_ _ | with_reducible refine bl_drewN ?_ _ | with_reducible refine bl_drew ?_ | with_reducible refine bl_grow ?_ _ _ | with_reducible refine bl_call ?_ (by assumption)))
 have HR0 : Hid (ARow w4 w.heap.size (.slice (some ⟨w1.heap.size, 0, none⟩) 0 0) []) := by
  have h0 := World.ownsRow_lit (base := w.heap.size) (e := 80) (size := 6) w1 #[] 0 hb1.size (by unfold maxLen; omega) rfl
  have h1 : ARow (w1.alloc (.cells #[] 80)) w.heap.size (.slice (some ⟨w1.heap.size, 0, none⟩) 0 0) [] := ⟨by simpa [aCells] using h0, (fun m hm => by cases hm), List.pairwise_singleton _ _⟩
  exact h1.below hb4
 go_loopw [4, 6] (fun sv iv wr => ∃ (j : Nat) (ms : List MArm) (ra : Option Addr) (rc : Nat), j ≤ R.length ∧ iv = .int .i64 (j : Int) ∧ sv = .slice ra ms.length rc ∧ ms.map MArm.arm = xs.take j ∧ ARow wr w.heap.size (.slice ra ms.length rc) ms ∧ (∀ q, (Value.slice ra ms.length rc).ownBlock = some q → q = w1.heap.size ∨ w4.heap.size ≤ q) ∧ w4.grownBy wr (some w1.heap.size) ∧ Below w.heap.size w wr) (fun _ iv _ => R.length - (intOf iv).toNat)
 case atStart =>
  exact ⟨0, [], some ⟨w1.heap.size, 0, none⟩, 0, Nat.zero_le _, rfl, rfl, rfl, HR0.out, fun q hq => .inl (by cases hq; rfl), World.grownBy.refl _ _, HB4.out⟩
 case round =>
  clear HR0 HC HSR hfc
  obtain ⟨j, ms, ra, rc, hj, rfl, rfl, hmn, hmr, hqo, hgb, hb⟩ := hrel
  have HMN : Hid (ms.map MArm.arm = xs.take j) := hmn
  have HMR : Hid (ARow wr w.heap.size (.slice ra ms.length rc) ms) := hmr
  have HQO : Hid (∀ q, (Value.slice ra ms.length rc).ownBlock = some q → q = w1.heap.size ∨ w4.heap.size ≤ q) := hqo
  have HGB : Hid (w4.grownBy wr (some w1.heap.size)) := hgb
  have hml : ms.length ≤ 1000 := by
   have h1 := congrArg List.length hmn
   simp only [List.length_map, List.length_take] at h1
   omega
  clear hmn hmr hqo
  have hxl2 : xs.length = R.length := HRL.out.symm
  by_cases hlt : j < R.length
  ·have hjx : j < xs.length := by omega
   have hkeep : KeepsUp (w1.heap.size + 1) w4 wr := ⟨hgb.size, fun b o hb0 hz0 => grownO_cell hgb hz0 (fun e => by injection e with e; omega)⟩
   obtain ⟨a', c', e', hc⟩ := HIN.out.keep hkeep
   simp only [Value.slice.injEq] at e'
   obtain ⟨e1, _, e3⟩ := e'
   subst e1 e3
   obtain ⟨b, o, rfl, _, hbl, rv, hcell, hfr⟩ := hc j hlt
   obtain ⟨i0, hai⟩ := HX.out.at j hlt hjx
   have hrf := HRF.out R[j] (List.getElem_mem hlt)
   have hfa := hfr.at
   obtain ⟨p', q', hrv, _⟩ := hfr
   subst hrv
   have HI2 : Hid (∀ t : TypeId, Calls Tryz.prog 37 #[.pointer (some ⟨wr.heap.size, 0, none⟩), .bool true] (wr.alloc (.cells #[.slice p' R[j].length q', .int .i64 0] t)) fun e w' => ArmRet w' wr.heap.size xs[j] e ∧ Below wr.heap.size wr w') := fun t => by
    refine (s_arm 1001 true R[j] R[j] [i0] xs[j] p' q' wr _ Rd8.new hfa hrf.1 hrf.2 hai).mono ?_
    rintro e w' ⟨⟨mk, mop, mds, xa, ya, mns, xb, yb, mcs, xc, yc, mks, xd, yd, he, hmo, hmn⟩, -, h3⟩
    exact ⟨⟨mk, mop, mds, xa, ya, mns, xb, yb, mcs, xc, yc, mks, xd, yd, he, hmo.le (by simp), hmn⟩, (below_alloc _ _).trans (below_of_grown h3 (Nat.le_refl _) (by simp))⟩
   have HTS : Hid (xs.take (j + 1) = xs.take j ++ [xs[j]]) := List.take_succ_eq_append_getElem hjx
   obtain ⟨x, hx⟩ : ∃ x, x = xs[j] := ⟨_, rfl⟩
   rw [← hx] at HI2 HTS
   obtain ⟨n, hn⟩ : ∃ n, n = R[j].length := ⟨_, rfl⟩
   rw [← hn] at HI2 hcell
   have hl3 : ms.length + [rowArm (.slice none 0 0) []].length ≤ 1000000 := by simp only [List.length_singleton]; omega
   have hj1 : (0 : Int) ≤ (j : Int) := by omega
   have hj2 : (j : Int) < (R.length : Int) := by omega
   clear hx hn hc hai hrf hfa hkeep hgb hjx
   go_wp2_with (first | (go_at_call 37; refine (HI2.out _).mono ?_; rintro e w5 ⟨⟨mk, mop, mds, xa, ya, mns, xb, yb, mcs, xc, yc, mks, xd, yd, rfl, hmo, hmn⟩, hb5⟩; have HMO : Hid (AOwn w5 wr.heap.size (MArm.mk ⟨mk, mop, mds, .slice xa mds.length ya, .slice xb mns.length yb, mns⟩ (.slice xc mcs.length yc) mcs (.slice xd mks.length yd) mks)) := hmo; have HMN5 : Hid ((MArm.mk ⟨mk, mop, mds, .slice xa mds.length ya, .slice xb mns.length yb, mns⟩ (.slice xc mcs.length yc) mcs (.slice xd mks.length yd) mks).arm = x) := hmn; clear hmo hmn) | (at_builtin; refine wpList_raw_arms rfl _ _ rfl w.heap.size ra rc ms [(MArm.mk ⟨mk, mop, mds, .slice xa mds.length ya, .slice xb mns.length yb, mns⟩ (.slice xc mcs.length yc) mcs (.slice xd mks.length yd) mks)] _ 1 rfl rfl ((HMR.out.below hb5).below (below_alloc _ _)) (fun _ => ⟨_, rfl, by exact cells6a⟩) (fun m hm => by rw [List.mem_singleton.1 hm]; exact ((HMO.out.1.le hb.size).below (below_alloc _ _))) (HMR.out.apart (w1 := w5) (b1 := wr.heap.size) (fun m hm => by rw [List.mem_singleton.1 hm]; exact HMO.out.1) (Nat.le_refl _) (by rw [aVals_one]; exact HMO.out.2)) hl3 (by have := hb5.size; have := hb.size; simp only [World.size_alloc]; omega) ?_; intro a6 c6 w6 hmr6 hg6 hv6; have HM6 : Hid (ARow w6 w.heap.size (.slice a6 (ms.length + 1) c6) (ms ++ [(MArm.mk ⟨mk, mop, mds, .slice xa mds.length ya, .slice xb mns.length yb, mns⟩ (.slice xc mcs.length yc) mcs (.slice xd mks.length yd) mks)])) := hmr6; have HG6 : Hid ((w5.alloc (.cells #[.int .i64 mk, .int .i64 mop, .slice xa mds.length ya, .slice xb mns.length yb, .slice xc mcs.length yc, .slice xd mks.length yd] 80)).grownBy w6 (Value.slice ra ms.length rc).ownBlock) := hg6; have HV6 : Hid ((Value.slice a6 (ms.length + 1) c6).ownBlock = (Value.slice ra ms.length rc).ownBlock ∨ (Value.slice a6 (ms.length + 1) c6).ownBlock = some (w5.alloc (.cells #[.int .i64 mk, .int .i64 mop, .slice xa mds.length ya, .slice xb mns.length yb, .slice xc mcs.length yc, .slice xd mks.length yd] 80)).heap.size) := hv6; clear hmr6 hg6 hv6))
   have hs5 := hb5.size
   have hs4r := HGB.out.size
   have hgA : w4.grownBy (w5.alloc (.cells #[.int .i64 mk, .int .i64 mop, .slice xa mds.length ya, .slice xb mns.length yb, .slice xc mcs.length yc, .slice xd mks.length yd] 80)) (some w1.heap.size) := grown_then HGB.out (hb5.trans ((below_alloc w5 _).mono hs5)) hs4r
   refine ⟨⟨j + 1, ms ++ [(MArm.mk ⟨mk, mop, mds, .slice xa mds.length ya, .slice xb mns.length yb, mns⟩ (.slice xc mcs.length yc) mcs (.slice xd mks.length yd) mks)], a6, c6, by omega, by go_num, by simp, ?_, by rw [List.length_append]; exact HM6.out, ?_, hgA.andThen HG6.out (fun q hq => (HQO.out q hq).elim (fun e => .inr (by rw [e])) .inl), ?_⟩, by simp [intOf]; omega⟩
   ·rw [HTS.out, List.map_append, HMN.out, List.map_singleton, HMN5.out]
   ·intro q hq
    rw [List.length_append] at hq
    rcases HV6.out with h | h
    ·exact HQO.out q (h ▸ hq)
    ·have : some q = some (w5.alloc (.cells #[.int .i64 mk, .int .i64 mop, .slice xa mds.length ya, .slice xb mns.length yb, .slice xc mcs.length yc, .slice xd mks.length yd] 80)).heap.size := hq.symm.trans h
     injection this with this
     simp only [World.size_alloc] at this
     omega
   ·exact (bl_alloc (bl_call hb hb5) _).grown HG6.out (by have := hb.size; simp; omega) (fun k hk => (HMR.out.1.lt k hk).1)
  ·obtain rfl : j = R.length := by omega
   have hmn := HMN.out
   rw [← hxl2, List.take_length] at hmn
   have HMN2 : Hid (ms.map MArm.arm = xs) := hmn
   have HT2 : Hid (∀ W, Below wr.heap.size wr W → Calls Tryz.prog 38 #[.slice ra ms.length rc] W fun e w' => e = .returned (.agg #[.int .i64 (Stil.treeCheck xs).1, .int .i64 (Stil.treeCheck xs).2]) ∧ Below W.heap.size W w') := fun W h => HTC.out W _ (by
    have h1 := (row_arms HMR.out).at.below h
    rw [hmn] at h1
    exact h1)
   obtain ⟨tc, htc1⟩ : ∃ t, t = (Stil.treeCheck xs).1 := ⟨_, rfl⟩
   obtain ⟨tr, htr⟩ : ∃ t, t = (Stil.treeCheck xs).2 := ⟨_, rfl⟩
   have HU : Hid (Stil.upOf xs = if 0 < tc then ([], 2) else (xs, 0)) := by rw [htc1]; rfl
   rw [← htc1, ← htr] at HT2
   clear hmn htc1 htr hgb HGB HQO HMN HTC HX HIN
   by_cases hb0 : 0 < tc
   ·rw [if_pos hb0] at HU
    go_wp2_with (go_at_call 38; refine (HT2.out _ blA).mono ?_; rintro e w5 ⟨rfl, hb5⟩)
    refine bodyPost_ret (v := .tuple #[.slice none 0 0, .int .i64 2]) (by simp [results, Tryz.results14, go_sem]) rfl ?_
    exact ⟨⟨none, 0, [], by rw [HU.out] <;> rfl, by rw [HU.out] <;> rfl, ARow.nil _ _⟩, blA⟩
   ·rw [if_neg hb0] at HU
    go_wp2_with (go_at_call 38; refine (HT2.out _ blA).mono ?_; rintro e w5 ⟨rfl, hb5⟩)
    refine bodyPost_ret (v := .tuple #[.slice ra ms.length rc, .int .i64 0]) (by simp [results, Tryz.results14, go_sem]) rfl ?_
    exact ⟨⟨ra, rc, ms, by rw [HU.out] <;> rfl, by rw [HU.out]; exact HMN2.out, HMR.out.below blA⟩, blA⟩
end Go.Proofs.YtpaljcoojkbhnaaGreatDoor
