/- The program's chapter 4: the normal form of an arm. -/
import Derived.Test.YtpaljcoojkbhnaaGreatDoorGt
import Derived.Deep.LoopGhost
import Derived.Deep.RegionHeld3
import Derived.Test.YtpaljcoojkbhnaaGreatDoorGY
namespace Go.Proofs.YtpaljcoojkbhnaaGreatDoor
open Go.RowKit Go.Sort Go.BigFrame
def nilNet : MNet := ⟨0, 0, [], .slice none 0 0, .slice none 0 0, []⟩
theorem nilNet_vals : nilNet.vals = [.slice none 0 0, .slice none 0 0] := by rw [MNet.vals_eq]; rfl
theorem nilNet_ok (w : World) (base : Nat) : MOk w base nilNet := (MOk_iff _ _ _).2 ⟨World.ownsRow_nil _ _ _ _, World.ownsRow_nil _ _ _ _, fun x hx => by cases hx⟩
theorem nil_own {x : Value} (hx : x ∈ nilNet.vals) : x.ownBlock = none := by
 rw [nilNet_vals] at hx
 simp only [List.mem_cons, List.mem_nil_iff, or_false, or_self] at hx
 rw [hx]; rfl
theorem marm_form {w : World} {base : Nat} (m : MArm) (h : AOk w base m) : ∃ k o d a1 c1 a2 c2 ns a3 c3 cs a4 c4 ks, m = ⟨⟨k, o, d, .slice a1 d.length c1, .slice a2 ns.length c2, ns⟩, .slice a3 cs.length c3, cs, .slice a4 ks.length c4, ks⟩ := by
 obtain ⟨⟨k, o, d, av, nv, ns⟩, cv, cs, kv, ks⟩ := m
 obtain ⟨h1, ⟨h2, _⟩, h4, _⟩ := (AOk_iff _ _ _).1 h
 obtain ⟨h5, h6, _⟩ := (MOk_iff _ _ _).1 h1
 simp only at h2 h4 h5 h6
 obtain ⟨a1, c1, rfl⟩ := slice_of_owns h5
 obtain ⟨a2, c2, rfl⟩ := slice_of_owns h6
 obtain ⟨a3, c3, rfl⟩ := slice_of_owns h2
 obtain ⟨a4, c4, rfl⟩ := slice_of_owns h4
 exact ⟨k, o, d, a1, c1, a2, c2, ns, a3, c3, cs, a4, c4, ks, rfl⟩
end Go.Proofs.YtpaljcoojkbhnaaGreatDoor
/- W3a: texts put together. -/
/- The specification's chapter 4: an arm takes a kid more. -/
namespace Go.Proofs.YtpaljcoojkbhnaaGreatDoor
open Go.RowKit Go.Sort Go.BigFrame
theorem step_raw_arms {ops : Array Oper} {o : Oper} {a : Act} {w : World} {K : Act → World → Prop} {Q : Exit → Act → World → Prop} {E : Prop}
  (hg : o.guard = none) (s x : Operand) (hop : o.op = .call { callee := .builtin .append, args := #[s, x], argTypes := #[39, 39] })
  (base : Nat) (ra : Option Addr) (rc : Nat) (ms ks : List MArm) (ad : Option Addr) (c : Nat) (hs : a.eval s = .slice ra ms.length rc) (hx : a.eval x = .slice ad ks.length c)
  (hrow : ARow w base (.slice ra ms.length rc) ms) (hxs : 0 < ks.length → ∃ p, ad = some p ∧ ∀ j u, (aCells ks)[j]? = some u → w.cell? (p.add j) = some u)
  (hk : ∀ m ∈ ks, AOk w base m) (hp : (Value.slice ra ms.length rc :: (aVals ms ++ aVals ks)).Pairwise Aside) (hl : ms.length + ks.length ≤ 1000000) (hbase : base ≤ w.heap.size)
  (hK : ∀ a' c' w', ARow w' base (.slice a' (ms.length + ks.length) c') (ms ++ ks) → w.grownBy w' (Value.slice ra ms.length rc).ownBlock → ((Value.slice a' (ms.length + ks.length) c').ownBlock = (Value.slice ra ms.length rc).ownBlock ∨ (Value.slice a' (ms.length + ks.length) c').ownBlock = some w.heap.size) → K (a.put o.dst (.slice a' (ms.length + ks.length) c')) w') :
  if Region.wanted o (yielded ops a.tmps) = true then Oper.wp Tryz.prog o a w K Q else E := by
 obtain ⟨i0, hi, hz0, hz1, hz2⟩ := info_parts info_Arm
 by_cases hd : ks.length = 0
 ·have hn : ks = [] := List.length_eq_zero_iff.1 hd
  subst hn
  have hw : Region.wanted o (yielded ops a.tmps) = true := by simp [Region.wanted, hg]
  rw [if_pos hw]
  have hcap : ms.length ≤ rc := by
   rcases hrow.1.2 with ⟨h0, h1⟩ | ⟨g, c', cur, h0, _, _, hnc, _⟩
   ·rw [h1]; exact Nat.zero_le _
   ·simp only [Value.slice.injEq] at h0
    rw [h0.2.2]; exact hnc
  have hk2 := hK ra rc w (by simpa using hrow) (grownSelf _ _) (.inl (by simp))
  simp only [List.length_nil, Nat.add_zero] at hk2 hx
  unfold Oper.wp execOp
  cases ad
  ·have e : Sem.run Tryz.prog (Builtin.append_ #[39, 39] o.type #[.slice ra ms.length rc, .slice none 0 c]) w = .ok (.slice ra ms.length rc) w := by cases ra <;> simp [Builtin.append_, go_sem, hcap]
   simp only [hop, resolve, invoke, builtin, Sem.run_bind, Sem.run_pure, Result.andThen_ok, List.map_toArray, List.map_cons, List.map_nil, hs, hx, e]
   exact hk2
  ·rename_i t1
   have e : Sem.run Tryz.prog (Builtin.append_ #[39, 39] o.type #[.slice ra ms.length rc, .slice (some t1) 0 c]) w = .ok (.slice ra ms.length rc) w := by cases ra <;> simp [Builtin.append_, go_sem, hcap]
   simp only [hop, resolve, invoke, builtin, Sem.run_bind, Sem.run_pure, Result.andThen_ok, List.map_toArray, List.map_cons, List.map_nil, hs, hx, e]
   exact hk2
 ·obtain ⟨p, rfl, hcs⟩ := hxs (by omega)
  refine step_append_at hg s x _ hop base 80 i0 _ 6 112 Tryz.underlying39 hi hz0 hz1 hz2 rfl (by decide) _ _ (aCells ms) hs hrow.1 _ _ _ (aCells ks) hx (aCells_len ks) hcs (aCells_one' hk) (by unfold maxLen; omega) (by omega) hbase ?_
  intro v' w' h1 h2 h3
  obtain ⟨a6, c6, hv6⟩ := slice_of_owns h1
  subst hv6
  exact hK a6 c6 w' (hrow.add hk hp h1 h2 h3) h2 h3
theorem aside_of {x y y' : Value} {n : Nat} (h : Aside x y) (hx : ∀ q, x.ownBlock = some q → q < n) (hat : y'.ownBlock = y.ownBlock ∨ y'.ownBlock = some n) : Aside x y' := by
 rcases hat with e | e
 ·rcases h with h0 | h0
  ·exact .inl h0
  ·exact .inr (by rw [e]; exact h0)
 ·by_cases e0 : x.ownBlock = none
  ·exact .inl e0
  ·refine .inr (fun e2 => ?_)
   rw [e] at e2
   have := hx _ e2
   omega
/-- An arm with a kid more. -/
theorem AOwn.addKid {w1 w6 : World} {base : Nat} {m k : MArm} {kv' : Value} (h : AOwn w1 base m) (hk : ∀ x ∈ k.vals, ∀ y ∈ m.vals, Aside x y) (hr : ARow w6 base kv' (m.kids ++ [k])) (hg : w1.grownBy w6 m.kv.ownBlock) (hat : kv'.ownBlock = m.kv.ownBlock ∨ kv'.ownBlock = some w1.heap.size) :
  AOwn w6 base ⟨m.net, m.cv, m.coils, kv', m.kids ++ [k]⟩ ∧ ∀ x ∈ (MArm.mk m.net m.cv m.coils kv' (m.kids ++ [k])).vals, x ∈ m.vals ∨ x ∈ k.vals ∨ x = kv' := by
 obtain ⟨h1, hp⟩ := h
 have hlt := fun x hx q hq => (h1.lt m x hx q hq).2
 obtain ⟨g1, ⟨g2, g3⟩, _, _⟩ := (AOk_iff _ _ _).1 h1
 have hv : (MArm.mk m.net m.cv m.coils kv' (m.kids ++ [k])).vals = m.net.vals ++ ((m.cv :: eVals m.coils) ++ (kv' :: (aVals m.kids ++ k.vals))) := by rw [MArm.vals_eq]; simp only; rw [aVals_append, aVals_one]
 have hm : m.vals = m.net.vals ++ ((m.cv :: eVals m.coils) ++ (m.kv :: aVals m.kids)) := MArm.vals_eq _
 have mN : ∀ x ∈ m.net.vals, x ∈ m.vals := fun x hx => by rw [hm]; exact List.mem_append_left _ hx
 have mC : ∀ x ∈ m.cv :: eVals m.coils, x ∈ m.vals := fun x hx => by rw [hm]; exact List.mem_append_right _ (List.mem_append_left _ hx)
 have mK : ∀ x ∈ aVals m.kids, x ∈ m.vals := fun x hx => by rw [hm]; exact List.mem_append_right _ (List.mem_append_right _ (List.mem_cons_of_mem _ hx))
 rw [hm] at hp
 obtain ⟨pN, pR, pNR⟩ := List.pairwise_append.1 hp
 obtain ⟨pC, _, pCK⟩ := List.pairwise_append.1 pR
 have nk : ∀ x ∈ m.net.vals, Aside x m.kv := fun x hx => pNR x hx _ (List.mem_append_right _ (List.mem_cons_self ..))
 have ck : ∀ x ∈ m.cv :: eVals m.coils, Aside x m.kv := fun x hx => pCK x hx _ (List.mem_cons_self ..)
 refine ⟨⟨(AOk_iff _ _ _).2 ⟨g1.kept hg nk, ⟨g2.kept hg (ck _ (List.mem_cons_self ..)), fun x hx => (g3 x hx).kept hg (ck _ (List.mem_cons_of_mem _ (mem_eVals.2 ⟨x, hx, rfl⟩)))⟩, hr.1, hr.2.1⟩, ?_⟩, ?_⟩
 ·rw [hv]
  have hr2 := hr.2.2
  rw [aVals_append, aVals_one] at hr2
  refine List.pairwise_append.2 ⟨pN, List.pairwise_append.2 ⟨pC, hr2, fun x hx y hy => ?_⟩, fun x hx y hy => ?_⟩
  ·rcases List.mem_cons.1 hy with rfl | hy
   ·exact aside_of (ck x hx) (hlt x (mC x hx)) hat
   rcases List.mem_append.1 hy with hy | hy
   ·exact pCK x hx y (List.mem_cons_of_mem _ hy)
   ·exact (hk y hy x (mC x hx)).symm
  ·rcases List.mem_append.1 hy with hy | hy
   ·exact pNR x hx y (List.mem_append_left _ hy)
   rcases List.mem_cons.1 hy with rfl | hy
   ·exact aside_of (nk x hx) (hlt x (mN x hx)) hat
   rcases List.mem_append.1 hy with hy | hy
   ·exact pNR x hx y (List.mem_append_right _ (List.mem_cons_of_mem _ hy))
   ·exact (hk y hy x (mN x hx)).symm
 ·intro x hx
  rw [hv] at hx
  rcases List.mem_append.1 hx with hx | hx
  ·exact .inl (mN x hx)
  rcases List.mem_append.1 hx with hx | hx
  ·exact .inl (mC x hx)
  rcases List.mem_cons.1 hx with rfl | hx
  ·exact .inr (.inr rfl)
  rcases List.mem_append.1 hx with hx | hx
  ·exact .inl (mK x hx)
  ·exact .inr (.inl hx)
theorem AOwn.krow {w : World} {base : Nat} {m : MArm} (h : AOwn w base m) : ARow w base m.kv m.kids := by
 obtain ⟨h1, hp⟩ := h
 obtain ⟨_, _, h4, h5⟩ := (AOk_iff _ _ _).1 h1
 rw [MArm.vals_eq] at hp
 exact ⟨h4, h5, (List.pairwise_append.1 (List.pairwise_append.1 hp).2.1).2.1⟩
theorem cells6a {W : World} {u0 u1 u2 u3 u4 u5 : Value} {t : TypeId} : ∀ j u, [u0, u1, u2, u3, u4, u5][j]? = some u → (W.alloc (.cells #[u0, u1, u2, u3, u4, u5] t)).cell? ((⟨W.heap.size, 0, none⟩ : Addr).add j) = some u := by
 intro j u h
 rw [Addr.add_lit]
 match j, h with
 | 0, h => simp at h; subst h; simp [go_sem]
 | 1, h => simp at h; subst h; simp [go_sem]
 | 2, h => simp at h; subst h; simp [go_sem]
 | 3, h => simp at h; subst h; simp [go_sem]
 | 4, h => simp at h; subst h; simp [go_sem]
 | 5, h => simp at h; subst h; simp [go_sem]
 | j + 6, h => simp at h
end Go.Proofs.YtpaljcoojkbhnaaGreatDoor
/- Z10, Z11: texts put together. -/
/- The program's chapter 4: the normal form of a ladder. -/
namespace Go.Proofs.YtpaljcoojkbhnaaGreatDoor
open Go.RowKit Go.Sort Go.BigFrame
set_option maxHeartbeats 2000000 in
set_option maxRecDepth 100000 in
theorem i_accepted (l : List Stil.Arm) (kv : Value) (w : World) (hr : RowsAt w) (hg : ErrTypeAt w) (hkv : ArmsAt w kv l) (hl : l.length ≤ 1048576) (hsz : Stil.treeSize l ≤ 1000000000) (hft : ∀ x ∈ l, Stil.armFits x) :
  Calls Tryz.prog 71 #[kv] w fun e w' => e = .returned (.bool (decide ((Stil.treeCheck l).1 = 0))) ∧ Below w.heap.size w w' := by
 have HC : Hid (∀ W, Below w.heap.size w W → Calls Tryz.prog 103 #[kv] W fun e w' => e = .returned (.agg #[.int .i64 (Stil.treeCheck l).1, .int .i64 (Stil.treeCheck l).2]) ∧ Below W.heap.size W w') := fun W h => i_treeCheck l kv W (hr.below h) (hg.below h) (hkv.below h) hl hsz hft
 have H0 : Hid ((Stil.treeCheck l).1 = 0 → (Stil.treeCheck l).2 = 0) := fun h => (Stil.check_zero h).1
 obtain ⟨p0, r0, rfl, hz⟩ := hkv
 obtain ⟨c, hc⟩ : ∃ c, c = (Stil.treeCheck l).1 := ⟨_, rfl⟩
 obtain ⟨r, hrr⟩ : ∃ r, r = (Stil.treeCheck l).2 := ⟨_, rfl⟩
 rw [← hc, ← hrr] at HC H0
 rw [← hc]
 clear hz hc hrr hr hg hft
 go_enter Tryz.func71, Tryz.ntmps71
 go_wp2_with (go_at_call 103; refine (HC.out _ blA).mono ?_; rintro e w1 ⟨rfl, hb1⟩)
 all_goals go_ret
 all_goals refine ⟨ret_bool ?_, blA⟩
 all_goals (have h0 := H0.out; by_cases hc0 : c = 0 <;> simp_all)
/-- A slice of arms that is answered: it owns its memory. -/
def ArmsRet (w : World) (base : Nat) (l : List Stil.Arm) (e : Ending) : Prop := ∃ (a : Option Addr) (c : Nat) (ms : List MArm), e = .returned (.slice a ms.length c) ∧ ms.map MArm.arm = l ∧ ARow w base (.slice a ms.length c) ms
end Go.Proofs.YtpaljcoojkbhnaaGreatDoor
/- An answered ladder: how it lies, its places, what it holds. -/
namespace Stil
theorem normMake_fits {l : List Arm} (h : ∀ x ∈ l, armFits x) : (∀ x ∈ normMake l, armFits x) ∧ treeSize (normMake l) ≤ 400 ∧ (normMake l).length ≤ 40 := by
 unfold normMake
 by_cases h0 : (treeCheck l).1 = 0
 ·rw [if_pos h0]
  have hx : ∀ x ∈ l, midOk (armSize x) (normArm x) := fun x hx => normArm_ok x (h x hx) (by have := (rung_right h0 hx).2; omega)
  refine ⟨fun x hx2 => ?_, ?_, ?_⟩
  ·obtain ⟨y, hy, rfl⟩ := List.mem_map.1 hx2
   exact (hx y hy).1
  ·refine Nat.le_trans ?_ (check_zero h0).2.2.1
   clear h h0
   unfold treeSize
   induction l with
   | nil => simp
   | cons x r ih =>
    have a := (hx x (by simp)).2
    have b := ih (fun y hy => hx y (List.mem_cons_of_mem _ hy))
    simp only [List.map_cons, List.sum_cons] at b ⊢
    omega
  ·rw [List.length_map]; exact (check_zero h0).2.1
 ·rw [if_neg h0]
  exact ⟨(fun x hx => by cases hx), by simp [treeSize], by simp⟩
end Stil
namespace Go.Proofs.YtpaljcoojkbhnaaGreatDoor
open Go.RowKit Go.Sort Go.BigFrame
theorem elPs_le : ∀ (b o : Nat) (qs : List (List Pl)) (c : Nat), (∀ q ∈ qs, q.length + 1 ≤ c) → (elPs b o qs).length ≤ qs.length * c
 | _, _, [], _, _ => by simp [elPs]
 | b, o, q :: r, c, h => by
  have a1 := h q (by simp)
  have a2 := elPs_le b (o + 2) r c (fun y hy => h y (List.mem_cons_of_mem _ hy))
  simp only [elPs, List.length_cons, List.length_append, Nat.add_mul] at a2 ⊢
  omega
theorem strPs_sum : ∀ (s b o : Nat) (qs : List (List Pl)), (strPs s b o qs).length = (qs.map (fun q => q.length + 2)).sum
 | _, _, _, [] => by simp [strPs]
 | s, b, o, q :: r => by
  have := strPs_sum s b (o + s) r
  simp only [strPs, List.length_cons, List.length_append, List.map_cons, List.sum_cons] at this ⊢
  omega
theorem kps_sum : ∀ (ars : List MArm), (∀ x ∈ ars, x.inner.length + 2 ≤ Stil.armSize x.arm * 6291460) → ((ars.map MArm.inner).map (fun q => q.length + 2)).sum ≤ ((ars.map MArm.arm).map Stil.armSize).sum * 6291460
 | [], _ => by simp
 | x :: r, h => by
  have a1 := h x (by simp)
  have a2 := kps_sum r (fun y hy => h y (List.mem_cons_of_mem _ hy))
  simp only [List.map_cons, List.sum_cons, Nat.add_mul] at a2 ⊢
  omega
/-- How many places an arm has. -/
theorem MArm.count (m : MArm) : Stil.armFits m.arm → m.inner.length + 2 ≤ Stil.armSize m.arm * 6291460 := by
 refine marm_ind (fun m => Stil.armFits m.arm → m.inner.length + 2 ≤ Stil.armSize m.arm * 6291460) ?_ m
 intro n cv cs kv kids ih hf
 have e := MArm.arm_eq ⟨n, cv, cs, kv, kids⟩
 simp only at e
 rw [e] at hf ⊢
 obtain ⟨hn, _, hcf, _, hk⟩ := (Stil.armFits_eq _ _ _).1 hf
 rw [MArm.inner_eq, Stil.armSize_nsz]
 have h1 := MNet.count n hn
 have h2 := Stil.size_le n.net
 rw [MNet.inner_eq, List.length_append] at h1
 have h3 : (ePs cv cs).length ≤ cs.length * 3145730 := by
  have := elPs_le (vb cv) 0 (cs.map MElem.dps) 3145730 (fun q hq => by
   obtain ⟨x, hx, rfl⟩ := List.mem_map.1 hq
   have h4 : x.ds.length ≤ 1048576 := (hcf x.elem (List.mem_map.2 ⟨x, hx, rfl⟩)).2.1
   rw [MElem.dps, blockPs_len]
   omega)
  rw [List.length_map] at this
  exact this
 have h5 : (MArm.mk n cv cs kv kids).kps.length ≤ Stil.ksize (kids.map MArm.arm) * 6291460 := by
  show (strPs 6 (vb kv) 0 (kids.map MArm.inner)).length ≤ _
  rw [strPs_sum]
  exact kps_sum kids (fun x hx => ih x hx (hk _ (List.mem_map.2 ⟨x, hx, rfl⟩)))
 simp only [List.length_append, List.length_map, Nat.add_mul] at h1 h3 h5 ⊢
 have h6 : Stil.netSize n.net * 3145730 ≤ (1 + Stil.nsz n.net) * 3145730 := Nat.mul_le_mul_right _ h2
 rw [Nat.add_mul] at h6
 omega
/-- The dummy arm whose kids are the row. -/
def rowArm (v : Value) (ars : List MArm) : MArm := ⟨nilNet, .slice none 0 0, [], v, ars⟩
theorem rowArm_own {w : World} {base : Nat} {v : Value} {ars : List MArm} (h : ARow w base v ars) : AOwn w base (rowArm v ars) := by
 have hv : (rowArm v ars).vals = nilNet.vals ++ (([.slice none 0 0]) ++ (v :: aVals ars)) := MArm.vals_eq _
 refine ⟨(AOk_iff _ _ _).2 ⟨nilNet_ok _ _, ⟨World.ownsRow_nil _ _ _ _, fun x hx => by cases hx⟩, h.1, h.2.1⟩, ?_⟩
 rw [hv]
 refine List.pairwise_append.2 ⟨?_, List.pairwise_append.2 ⟨List.pairwise_singleton _ _, h.2.2, fun x hx y _ => ?_⟩, fun x hx y _ => .inl (nil_own hx)⟩
 ·rw [nilNet_vals]
  exact List.pairwise_cons.2 ⟨fun y _ => aside_nil y, List.pairwise_singleton _ _⟩
 ·rw [List.mem_singleton.1 hx]; exact aside_nil y
theorem rowArm_kps (v : Value) (ars : List MArm) : ∀ p ∈ (rowArm v ars).kps, p ∈ (rowArm v ars).inner := fun p hp => by
 rw [MArm.inner_eq]
 exact List.mem_append_right _ (List.mem_append_right _ (List.mem_append_right _ hp))
def ArmsPk (base : Nat) (w : World) (L : List Stil.Arm) (a : Option Addr) (c : Nat) (m : MArm) : Prop :=
 m.kv = .slice a L.length c ∧ ASh (headsT m.tags) w m ∧ NumsAt w m.kps ∧ m.kps.Nodup ∧ (∀ p ∈ m.kps, base ≤ p.1) ∧ (∀ p ∈ m.kps, ¬ headsT m.tags p) ∧
 (∀ p, headsT m.tags p → base ≤ p.1) ∧ ArmsFrom base w (.slice a L.length c) L ∧ ((∀ x ∈ L, Stil.armFits x) → m.kps.length ≤ Stil.treeSize L * 6291460)
theorem armsPk_of {w : World} {base : Nat} {L : List Stil.Arm} {a : Option Addr} {c : Nat} {ms : List MArm} (hm : ms.map MArm.arm = L) (h : ARow w base (.slice a ms.length c) ms) : ArmsPk base w L a c (rowArm (.slice a ms.length c) ms) := by
 have hl : ms.length = L.length := by rw [← hm, List.length_map]
 have ho := rowArm_own h
 obtain ⟨p1, p2, p3, p4, p5, p6⟩ := MArm.places _ ho
 obtain ⟨_, _, _, f4⟩ := AOk.from _ ho.1
 have hin := rowArm_kps (.slice a ms.length c) ms
 have hk : (rowArm (.slice a ms.length c) ms).arm.kids = L := by rw [MArm.arm_eq]; exact hm
 rw [hk] at f4
 rw [MArm.inner_eq] at p3
 refine ⟨by rw [← hl]; rfl, p1, fun p hp => p2 p (hin p hp), (List.nodup_append.1 (List.nodup_append.1 (List.nodup_append.1 p3).2.1).2.1).2.1, fun p hp => p4 p (hin p hp), fun p hp => p5 p (hin p hp), p6, by rw [← hl]; exact f4, fun hf => ?_⟩
 show (strPs 6 (vb (.slice a ms.length c)) 0 (ms.map MArm.inner)).length ≤ _
 rw [strPs_sum, ← hm]
 rw [← hm] at hf
 exact kps_sum ms (fun x hx => MArm.count x (hf _ (List.mem_map.2 ⟨x, hx, rfl⟩)))
theorem ArmsPk.below {base : Nat} {w w' : World} {L : List Stil.Arm} {a : Option Addr} {c : Nat} {m : MArm} (h : ArmsPk base w L a c m) (hb : Below w.heap.size w w') : ArmsPk base w' L a c m := by
 obtain ⟨h0, h1, h2, h3, h4, h5, h6, h7, h8⟩ := h
 exact ⟨h0, h1.below hb, h2.below hb, h3, h4, h5, h6, h7.keep (KeepsUp.of_below hb), h8⟩
theorem ArmsPk.mono {base lo : Nat} {w : World} {L : List Stil.Arm} {a : Option Addr} {c : Nat} {m : MArm} (h : ArmsPk base w L a c m) (hl : lo ≤ base) : ArmsPk lo w L a c m := by
 obtain ⟨h0, h1, h2, h3, h4, h5, h6, h7, h8⟩ := h
 exact ⟨h0, h1, h2, h3, fun p hp => Nat.le_trans hl (h4 p hp), h5, fun p hp => Nat.le_trans hl (h6 p hp), h7.mono hl, h8⟩
theorem ArmsPk.marked {base : Nat} {w w' : World} {L : List Stil.Arm} {a : Option Addr} {c : Nat} {m : MArm} {ps : List Pl} {k : Int} (h : ArmsPk base w L a c m) (hm : Marked w w' ps k) (hp : ∀ p ∈ ps, p.1 < base) : ArmsPk base w' L a c m := by
 obtain ⟨h0, h1, h2, h3, h4, h5, h6, h7, h8⟩ := h
 have hk : KeepsUp base w w' := ⟨hm.1, fun b o hb hz => hm.2.1 (b, o) hz (fun h => by have := hp _ h; simp only at this; omega)⟩
 exact ⟨h0, h1.marked hm (fun p hp1 hq => by have := hp p hp1; have := h6 p hq; omega), h2.marked hm (fun p hp1 hp2 => by have := hp p hp2; have := h4 p hp1; omega), h3, h4, h5, h6, h7.keep hk, h8⟩
theorem ArmsPk.lt {base : Nat} {w : World} {L : List Stil.Arm} {a : Option Addr} {c : Nat} {m : MArm} (h : ArmsPk base w L a c m) : ∀ p ∈ m.kps, p.1 < w.heap.size := fun p hp => (h.2.2.1 p hp).1
theorem ArmsPk.mark {base : Nat} {w : World} {L : List Stil.Arm} {a : Option Addr} {c : Nat} {m : MArm} (h : ArmsPk base w L a c m) (hf : ∀ x ∈ L, Stil.armFits x) (hs : Stil.treeSize L ≤ 2097152) :
  Calls Tryz.prog 17 #[.slice a L.length c, .int .i64 1] w fun e w' => e = .returned (.int .i64 (1 + m.kps.length)) ∧ Marked w w' m.kps 1 := by
 obtain ⟨h0, h1, h2, h3, h4, h5, _, _, h9⟩ := h
 have h10 := h9 hf
 have h11 := Nat.mul_le_mul_right 6291460 hs
 rw [← h0]
 exact p_markArms (headsT m.tags) m 1 w h1 h2 h3 h5 (by omega) (by omega)
theorem ArmsPk.held {base : Nat} {w w' W : World} {L : List Stil.Arm} {a : Option Addr} {c : Nat} {m : MArm} (h : ArmsPk base w L a c m) (hm : Marked w w' m.kps 1) (hW : Below w'.heap.size w' W) (hf : ∀ x ∈ L, Stil.armFits x) (hs : Stil.treeSize L ≤ 2097152) :
  Calls Tryz.prog 18 #[.slice a L.length c, .int .i64 1] W fun e w' => e = .returned (.int .i64 (1 + m.kps.length)) ∧ Below W.heap.size W w' := by
 have hlt := h.lt
 obtain ⟨h0, h1, h2, h3, h4, h5, _, _, h9⟩ := h
 have h10 := h9 hf
 have h11 := Nat.mul_le_mul_right 6291460 hs
 have hlt2 : ∀ p ∈ m.kps, p.1 < w'.heap.size := fun p hp => Nat.lt_of_lt_of_le (hlt p hp) hm.1
 rw [← h0]
 refine (p_heldArms (headsT m.tags) m 1 W ((h1.marked hm h5).below hW) (hm.held.below hW hlt2) (by omega) (by omega)).mono ?_
 rintro e w2 ⟨rfl, rfl⟩
 exact ⟨rfl, Below.refl _ _⟩
end Go.Proofs.YtpaljcoojkbhnaaGreatDoor
