/- The program's chapter 8: the rungs of a verified list, one behind the other. -/
import Derived.Test.YtpaljcoojkbhnaaGreatDoorI32
namespace Go.Proofs.YtpaljcoojkbhnaaGreatDoor
open Go.RowKit Go.Sort Go.BigFrame Go.Shelf
attribute [local go_sem] Oper.semAt_some
/-- A world cut off at a block. -/
def cutAt (W : World) (P : Nat) : World := { W with heap := W.heap.extract 0 P }
theorem cutAt_size {W : World} {P : Nat} (h : P ≤ W.heap.size) : (cutAt W P).heap.size = P := by
 unfold cutAt
 simp only [Array.size_extract]
 omega
theorem cutAt_below {W : World} {P : Nat} (h : P ≤ W.heap.size) : Below P (cutAt W P) W := by
 refine ⟨rfl, rfl, rfl, by rw [cutAt_size h]; exact h, fun k hk => ?_⟩
 unfold cutAt
 simp only [Array.getElem?_extract]
 rw [if_pos (by omega)]
 simp
theorem below_cut {w W : World} {n P : Nat} (h : Below n w W) (hn : n ≤ P) (hw : w.heap.size ≤ P) (hP : P ≤ W.heap.size) : Below n w (cutAt W P) := by
 refine ⟨h.os, h.tape, h.output, by rw [cutAt_size hP]; exact hw, fun k hk => ?_⟩
 have h2 := (cutAt_below hP).block k (by omega)
 rw [← h2]
 exact h.block k hk
/-- The reader in its block P, the list older than wE. -/
structure RdP (wE W : World) (P b o : Nat) (L l : List Stil.Inst) : Prop where
 old : Below wE.heap.size wE W
 ge : wE.heap.size ≤ P
 lt : P < W.heap.size
 c0 : ∃ (cap : Nat) (q : Addr), l.length ≤ cap ∧ W.cell? ⟨P, 0, none⟩ = some (.slice (some q) l.length cap) ∧ (l ≠ [] → q = ⟨b, o + (L.length - l.length) * 3, none⟩)
 f0 : W.frozen? ⟨P, 0, none⟩ = false
 suf : l <:+ L
theorem RdP.rd9 {wE W : World} {P b o : Nat} {L l : List Stil.Inst} (h : RdP wE W P b o L l) : Rd9 (cutAt W P) W b o L l := by
 have e := cutAt_size (Nat.le_of_lt h.lt)
 refine ⟨?_, by rw [e]; exact h.lt, ?_, ?_, h.suf⟩
 ·rw [e]; exact cutAt_below (Nat.le_of_lt h.lt)
 ·rw [e]; exact h.c0
 ·rw [e]; exact h.f0
theorem RdP.lat {wE W : World} {P b o : Nat} {L l : List Stil.Inst} (h : RdP wE W P b o L l) (hat : LAt wE b o L) : LAt (cutAt W P) b o L := by
 have e := cutAt_size (Nat.le_of_lt h.lt)
 have hb := below_cut h.old h.ge h.ge (Nat.le_of_lt h.lt)
 have := h.ge
 exact ⟨fun hne => by rw [e]; exact Nat.lt_of_lt_of_le (hat.1 hne) h.ge, fun i hi => (hat.2 i hi).below hb (hat.lt hi)⟩
/-- What a round keeps of the reader and of the list. -/
theorem RdP.next {wE A W W' : World} {P b o : Nat} {L l r : List Stil.Inst} (h : RdP wE A P b o L l) (hr : Rd9 (cutAt A P) W b o L r) (hg : A.grownBy W (some P)) (hk : Below wE.heap.size W W') (hp : W'.heap[P]? = W.heap[P]?) : RdP wE W' P b o L r := by
 have e := cutAt_size (Nat.le_of_lt h.lt)
 have hge := h.ge
 obtain ⟨cap, q, h1, h2, h3⟩ := hr.c0
 rw [e] at h2
 have f0 := hr.f0
 rw [e] at f0
 refine ⟨?_, hge, Nat.lt_of_lt_of_le (Nat.lt_of_lt_of_le h.lt hg.size) hk.size, ⟨cap, q, h1, (World.cell?_of_block hp).trans h2, h3⟩, (World.frozen?_of_block hp).trans f0, hr.suf⟩
 exact (h.old.trans (below_of_grown hg hge (Nat.le_of_lt (Nat.lt_of_le_of_lt hge h.lt)))).trans hk
theorem RdP.len {wE W : World} {P b o : Nat} {L l : List Stil.Inst} (h : RdP wE W P b o L l) : lenOf W P = l.length := by
 obtain ⟨cap, q, _, c0, _⟩ := h.c0
 unfold lenOf
 rw [c0]
def armArg (x : MArm) : Value := .agg #[.int .i64 x.net.kind, .int .i64 x.net.op, x.net.av, x.net.kv, x.cv, x.kv]
set_option maxHeartbeats 4000000 in
set_option maxRecDepth 100000 in
theorem i_rungsF (wE : World) (b o cap LB l n : Nat) (L : List Stil.Inst) (hat : LAt wE b o L) (hl : L.length ≤ 1000) (hft : ∀ i ∈ L, i.fits) (hcap : L.length ≤ cap) (J : List MArm → World → Prop) (W : World) (hE : Below wE.heap.size wE W) (hLB : W.cell? ⟨LB, 0, none⟩ = some (.slice (some ⟨b, o, none⟩) L.length cap))
  (hY : ∀ (pre : List MArm) (x : MArm) (A W1 : World), J pre A → A.grownBy W1 (some W.heap.size) → (∃ lo, A.heap.size ≤ lo ∧ W.heap.size < lo ∧ lo ≤ W1.heap.size ∧ AOwn W1 lo x) → pre.length < 1000 → YieldAt Fence.wide (n - 1) Tryz.prog l #[armArg x] W1 fun e W' => e = .returned (.bool true) ∧ J (pre ++ [x]) W' ∧ Below wE.heap.size W1 W' ∧ W'.heap[W.heap.size]? = W1.heap[W.heap.size]?)
  (h0 : J [] W) (cs : List (List Stil.Inst)) (xs : List Stil.Arm) (hup : Stil.UpR cs xs) (hfl : cs.flatten = L) (hxl : xs.length ≤ 1000) :
  CallsIn Fence.wide n Tryz.prog 100 #[.func (.yield l) #[] #[], .pointer (some ⟨LB, 0, none⟩)] W fun e W' => (∃ v, e = .returned v) ∧ ∃ (ys : List MArm) (A : World), ys.map MArm.arm = xs ∧ J ys A ∧ A.grownBy W' (some W.heap.size) := by
 have HAT : Hid (LAt wE b o L) := hat
 have HF : Hid (∀ i ∈ L, i.fits) := hft
 have HUP : Hid (Stil.UpR cs xs) := hup
 have HYY : Hid (∀ (pre : List MArm) (x : MArm) (A W1 : World), J pre A → A.grownBy W1 (some W.heap.size) → (∃ lo, A.heap.size ≤ lo ∧ W.heap.size < lo ∧ lo ≤ W1.heap.size ∧ AOwn W1 lo x) → pre.length < 1000 → YieldAt Fence.wide (n - 1) Tryz.prog l #[armArg x] W1 fun e W' => e = .returned (.bool true) ∧ J (pre ++ [x]) W' ∧ Below wE.heap.size W1 W' ∧ W'.heap[W.heap.size]? = W1.heap[W.heap.size]?) := hY
 have HR0 : Hid (∀ t : TypeId, RdP wE (W.alloc (.cells #[.slice (some ⟨b, o, none⟩) L.length cap] t)) W.heap.size b o L L) := fun t => by
  refine ⟨hE.trans ((below_alloc _ _).mono hE.size), hE.size, by simp, ⟨cap, ⟨b, o, none⟩, hcap, by simp [go_sem], fun _ => by rw [Nat.sub_self, Nat.zero_mul]; rfl⟩, by simp [go_sem], List.suffix_refl _⟩
 have hLz := lt_of_cell3 hLB
 clear hat hft hup hY
 refine callsIn_of_wp Tryz.func100 rfl trivial ?_ rfl
 simp only [Tryz.ntmps100, List.size_toArray, List.length_cons, List.length_nil, Nat.reduceAdd, Nat.reduceSub, Array.replicate_succ, Array.replicate_zero, List.push_toArray, List.append_toArray, List.nil_append, List.cons_append]
 gi_wp2
 gi_loopw [] (fun wr => ∃ (cs' : List (List Stil.Inst)) (xs' : List Stil.Arm) (ys : List MArm) (A : World), Stil.UpR cs' xs' ∧ ys.map MArm.arm ++ xs' = xs ∧ J ys A ∧ A.grownBy wr (some W.heap.size) ∧ RdP wE wr W.heap.size b o L cs'.flatten) (fun wr => lenOf wr W.heap.size)
 case atStart =>
  exact ⟨cs, xs, [], W, HUP.out, rfl, h0, grown_of (below_alloc _ _) _, by rw [hfl]; exact HR0.out _⟩
 case round =>
  clear HR0 HUP h0
  obtain ⟨cs', xs', ys, A, hup, hxs, hj, hg, hrd⟩ := hrel
  obtain ⟨cp, q, hcp, c0, -⟩ := hrd.c0
  have hPr := hrd.lt
  cases cs' with
  | nil =>
   have hx0 : xs' = [] := hup
   subst hx0
   simp only [List.flatten_nil, List.length_nil] at c0
   gi_wp2
   go_end0
   exact ⟨⟨_, rfl⟩, ys, A, by rw [← hxs, List.append_nil], hj, hg⟩
  | cons c cs2 =>
   obtain ⟨x, xs2, i0, rfl, ha, hup2⟩ := hup
   have ha2 : Stil.ArmR 1001 [] (c ++ cs2.flatten) x (i0 :: cs2.flatten) := by
    have := ha.more cs2.flatten
    simpa using this
   have hc1 : 1 ≤ c.length := ha.suffix.length_le
   have hyl : ys.length < 1000 := by
    have h2 := congrArg List.length hxs
    simp only [List.length_append, List.length_map, List.length_cons] at h2
    omega
   rw [List.flatten_cons] at hrd c0 hcp
   have e := cutAt_size (Nat.le_of_lt hrd.lt)
   have hrd9 := hrd.rd9
   have hlat := hrd.lat HAT.out
   have HARM : Hid (Calls Tryz.prog 101 #[.pointer (some ⟨W.heap.size, 0, none⟩), .pointer none] wr fun e w' => ArmRet w' wr.heap.size x e ∧ Rd9 (cutAt wr W.heap.size) w' b o L (i0 :: cs2.flatten) ∧ wr.grownBy w' (some W.heap.size)) := by
    have h := i_armR (cutAt wr W.heap.size) b o L hlat hl HF.out 1000 _ _ x wr ha2 hrd9
    rw [e] at h
    exact h
   have HNX : Hid (∀ w6, Rd9 (cutAt wr W.heap.size) w6 b o L (i0 :: cs2.flatten) → Calls Tryz.prog 102 #[.pointer (some ⟨W.heap.size, 0, none⟩)] w6 fun e w' => (∃ v, e = .returned v) ∧ Rd9 (cutAt wr W.heap.size) w' b o L cs2.flatten ∧ w6.grownBy w' (some W.heap.size)) := fun w6 h6 => by
    have h := i_next L cs2.flatten i0 b o (cutAt wr W.heap.size) w6 h6 hlat hl
    rw [e] at h
    refine h.mono ?_
    rintro e w' ⟨⟨a, c, rfl, _⟩, h2, h3⟩
    exact ⟨⟨_, rfl⟩, h2, h3⟩
   have HRB : Hid (∀ w6 : World, Rd9 (cutAt wr W.heap.size) w6 b o L (i0 :: cs2.flatten) → ∀ ob : Obj, Rd9 (cutAt wr W.heap.size) (w6.alloc ob) b o L (i0 :: cs2.flatten)) := fun w6 h6 ob => h6.below (below_alloc _ _) h6.lt
   have HRD : Hid (RdP wE wr W.heap.size b o L (c ++ cs2.flatten)) := hrd
   have HLN : Hid (lenOf wr W.heap.size = c.length + cs2.flatten.length) := by have h := hrd.len; rw [List.length_append] at h; exact h
   have HXS : Hid (ys.map MArm.arm ++ x :: xs2 = xs) := hxs
   have HJ : Hid (J ys A) := hj
   have HG : Hid (A.grownBy wr (some W.heap.size)) := hg
   obtain ⟨ln, hln⟩ : ∃ ln, ln = (c ++ cs2.flatten).length := ⟨_, rfl⟩
   have hln1 : 1 ≤ ln := by rw [hln, List.length_append]; omega
   rw [← hln] at c0
   have hlnm : ln ≤ 1000 := by have := hrd.suf.length_le; omega
   clear hrd hrd9 hlat e hxs hj hg hcp hln ha ha2
   gi_wp2_with (first | (refine ⟨trivial, fun h => (by cases h), ?_⟩; gi_at_call 101; refine (callsIn_wide.2 HARM.out).mono ?_; rintro e w5 ⟨⟨mk, mop, mds, xa, ya, mns, xb, yb, mcs, xc, yc, mks, xd, yd, rfl, hmo, hmn⟩, hrd5, hg5⟩; have HMO : Hid (AOwn w5 wr.heap.size (MArm.mk ⟨mk, mop, mds, .slice xa mds.length ya, .slice xb mns.length yb, mns⟩ (.slice xc mcs.length yc) mcs (.slice xd mks.length yd) mks)) := hmo; have HMN : Hid ((MArm.mk ⟨mk, mop, mds, .slice xa mds.length ya, .slice xb mns.length yb, mns⟩ (.slice xc mcs.length yc) mcs (.slice xd mks.length yd) mks).arm = x) := hmn; have HR5 : Hid (Rd9 (cutAt wr W.heap.size) w5 b o L (i0 :: cs2.flatten)) := hrd5; have HG5 : Hid (wr.grownBy w5 (some W.heap.size)) := hg5; have hz5 : W.heap.size < w5.heap.size := Nat.lt_of_lt_of_le hPr hg5.size; clear hmo hmn hrd5 hg5) | (refine ⟨trivial, fun h => (by cases h), ?_⟩; gi_at_call 102; refine (callsIn_wide.2 (HNX.out _ (HRB.out _ HR5.out _))).mono ?_; rintro e w7 ⟨⟨v7, rfl⟩, hrd7, hg7⟩; have HR7 : Hid (Rd9 (cutAt wr W.heap.size) w7 b o L cs2.flatten) := hrd7; have hgw : wr.grownBy w7 (some W.heap.size) := ((HG5.out.trans (grown_of (below_alloc _ _) _)).trans hg7); have HGW : Hid (wr.grownBy w7 (some W.heap.size)) := hgw; have hbx : B6 w7 w5.heap.size (.int .i64 mk) (.int .i64 mop) (.slice xa mds.length ya) (.slice xb mns.length yb) (.slice xc mcs.length yc) (.slice xd mks.length yd) := (B6.new w5 _ _ _ _ _ _ _).grown hg7 (fun e => by injection e with e; omega); obtain ⟨_, ⟨d0, d1, d2, d3, d4, d5⟩, _⟩ := hbx; obtain ⟨fn, tmps, assign, body, hyd, hR⟩ := HYY.out ys (MArm.mk ⟨mk, mop, mds, .slice xa mds.length ya, .slice xb mns.length yb, mns⟩ (.slice xc mcs.length yc) mcs (.slice xd mks.length yd) mks) A w7 HJ.out (HG.out.trans hgw) ⟨wr.heap.size, HG.out.size, hPr, HGW.out.size, (HMO.out.below (below_alloc _ _)).grownP hg7 hPr⟩ hyl; simp only [armArg] at hyd; have HRR := hid_of hR; clear hrd7 hg7 hgw hR))
   refine ⟨fun h => (by cases h), HRR.out.mono ?_⟩
   rintro e W3 ⟨rfl, hj3, hk3, hp3⟩
   have hr3 : RdP wE W3 W.heap.size b o L cs2.flatten := HRD.out.next HR7.out HGW.out hk3 hp3
   have HR3 := hid_of hr3
   have HJ3 := hid_of hj3
   clear hr3 hj3 hk3 hp3 hyd HRR
   gi_wp2
   refine ⟨⟨cs2, xs2, ys ++ [(MArm.mk ⟨mk, mop, mds, .slice xa mds.length ya, .slice xb mns.length yb, mns⟩ (.slice xc mcs.length yc) mcs (.slice xd mks.length yd) mks)], W3, hup2, ?_, HJ3.out, World.grownBy.refl _ _, HR3.out⟩, by rw [HR3.out.len, HLN.out]; omega⟩
   rw [List.map_append, List.append_assoc, List.map_singleton, HMN.out]
   exact HXS.out
end Go.Proofs.YtpaljcoojkbhnaaGreatDoor
