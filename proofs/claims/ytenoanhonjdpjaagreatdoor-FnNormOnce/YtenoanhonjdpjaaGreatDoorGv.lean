/- W3a,W3: texts put together. -/
import Derived.Test.YtenoanhonjdpjaaGreatDoorZ9
import Derived.Test.YtenoanhonjdpjaaGreatDoorGu
import Derived.Deep.LoopGhost
import Derived.Deep.RegionHeld3
/- The specification's chapter 4: an arm takes a kid more. -/
namespace Go.Proofs.YtenoanhonjdpjaaGreatDoor
open Go.RowKit Go.Sort Go.BigFrame
theorem step_raw_arms {ops : Array Oper} {o : Oper} {a : Act} {w : World} {K : Act → World → Prop} {Q : Exit → Act → World → Prop} {E : Prop}
  (hg : o.guard = none) (s x : Operand) (hop : o.op = .call { callee := .builtin .append,args := #[s,x],argTypes := #[23,23] })
  (base : Nat) (ra : Option Addr) (rc : Nat) (ms ks : List MArm) (ad : Option Addr) (c : Nat) (hs : a.eval s = .slice ra ms.length rc) (hx : a.eval x = .slice ad ks.length c)
  (hrow : ARow w base (.slice ra ms.length rc) ms) (hxs : 0 < ks.length → ∃ p,ad = some p ∧ ∀ j u,(aCells ks)[j]? = some u → w.cell? (p.add j) = some u)
  (hk : ∀ m ∈ ks,AOk w base m) (hp : (Value.slice ra ms.length rc :: (aVals ms ++ aVals ks)).Pairwise Aside) (hl : ms.length + ks.length ≤ 1000000) (hbase : base ≤ w.heap.size)
  (hK : ∀ a' c' w',ARow w' base (.slice a' (ms.length + ks.length) c') (ms ++ ks) → w.grownBy w' (Value.slice ra ms.length rc).ownBlock → ((Value.slice a' (ms.length + ks.length) c').ownBlock = (Value.slice ra ms.length rc).ownBlock ∨ (Value.slice a' (ms.length + ks.length) c').ownBlock = some w.heap.size) → K (a.put o.dst (.slice a' (ms.length + ks.length) c')) w') :
  if Region.wanted o (yielded ops a.tmps) = true then Oper.wp Tryz.prog o a w K Q else E := by
 obtain ⟨i0,hi,hz0,hz1,hz2⟩ := info_parts info_Arm
 by_cases hd : ks.length = 0
 ·have hn : ks = [] := List.length_eq_zero_iff.1 hd
  subst hn
  have hw : Region.wanted o (yielded ops a.tmps) = true := by simp [Region.wanted,hg]
  rw [if_pos hw]
  have hcap : ms.length ≤ rc := by
   rcases hrow.1.2 with ⟨h0,h1⟩ | ⟨g,c',cur,h0,_,_,hnc,_⟩
   ·rw [h1]; exact Nat.zero_le _
   ·simp only [Value.slice.injEq] at h0
    rw [h0.2.2]; exact hnc
  have hk2 := hK ra rc w (by simpa using hrow) (grownSelf _ _) (.inl (by simp))
  simp only [List.length_nil,Nat.add_zero] at hk2 hx
  unfold Oper.wp execOp
  cases ad
  ·have e : Sem.run Tryz.prog (Builtin.append_ #[23,23] o.type #[.slice ra ms.length rc,.slice none 0 c]) w = .ok (.slice ra ms.length rc) w := by cases ra <;> simp [Builtin.append_,go_sem,hcap]
   simp only [hop,resolve,invoke,builtin,Sem.run_bind,Sem.run_pure,Result.andThen_ok,List.map_toArray,List.map_cons,List.map_nil,hs,hx,e]
   exact hk2
  ·rename_i t1
   have e : Sem.run Tryz.prog (Builtin.append_ #[23,23] o.type #[.slice ra ms.length rc,.slice (some t1) 0 c]) w = .ok (.slice ra ms.length rc) w := by cases ra <;> simp [Builtin.append_,go_sem,hcap]
   simp only [hop,resolve,invoke,builtin,Sem.run_bind,Sem.run_pure,Result.andThen_ok,List.map_toArray,List.map_cons,List.map_nil,hs,hx,e]
   exact hk2
 ·obtain ⟨p,rfl,hcs⟩ := hxs (by omega)
  refine step_append_at hg s x _ hop base 36 i0 _ 6 112 Tryz.underlying23 hi hz0 hz1 hz2 rfl (by decide) _ _ (aCells ms) hs hrow.1 _ _ _ (aCells ks) hx (aCells_len ks) hcs (aCells_one' hk) (by unfold maxLen; omega) (by omega) hbase ?_
  intro v' w' h1 h2 h3
  obtain ⟨a6,c6,hv6⟩ := slice_of_owns h1
  subst hv6
  exact hK a6 c6 w' (hrow.add hk hp h1 h2 h3) h2 h3
theorem aside_of {x y y' : Value} {n : Nat} (h : Aside x y) (hx : ∀ q,x.ownBlock = some q → q < n) (hat : y'.ownBlock = y.ownBlock ∨ y'.ownBlock = some n) : Aside x y' := by
 rcases hat with e | e
 ·rcases h with h0 | h0
  ·exact .inl h0
  ·exact .inr (by rw [e]; exact h0)
 ·by_cases e0 : x.ownBlock = none
  ·exact .inl e0
  ·refine .inr (fun e2 => ?_)
   rw [e] at e2
   have := hx _ e2
   omega
/-- An arm with a kid more. -/
theorem AOwn.addKid {w1 w6 : World} {base : Nat} {m k : MArm} {kv' : Value} (h : AOwn w1 base m) (hk : ∀ x ∈ k.vals,∀ y ∈ m.vals,Aside x y) (hr : ARow w6 base kv' (m.kids ++ [k])) (hg : w1.grownBy w6 m.kv.ownBlock) (hat : kv'.ownBlock = m.kv.ownBlock ∨ kv'.ownBlock = some w1.heap.size) :
  AOwn w6 base ⟨m.net,m.cv,m.coils,kv',m.kids ++ [k]⟩ ∧ ∀ x ∈ (MArm.mk m.net m.cv m.coils kv' (m.kids ++ [k])).vals,x ∈ m.vals ∨ x ∈ k.vals ∨ x = kv' := by
 obtain ⟨h1,hp⟩ := h
 have hlt := fun x hx q hq => (h1.lt m x hx q hq).2
 obtain ⟨g1,⟨g2,g3⟩,_,_⟩ := (AOk_iff _ _ _).1 h1
 have hv : (MArm.mk m.net m.cv m.coils kv' (m.kids ++ [k])).vals = m.net.vals ++ ((m.cv :: eVals m.coils) ++ (kv' :: (aVals m.kids ++ k.vals))) := by rw [MArm.vals_eq]; simp only; rw [aVals_append,aVals_one]
 have hm : m.vals = m.net.vals ++ ((m.cv :: eVals m.coils) ++ (m.kv :: aVals m.kids)) := MArm.vals_eq _
 have mN : ∀ x ∈ m.net.vals,x ∈ m.vals := fun x hx => by rw [hm]; exact List.mem_append_left _ hx
 have mC : ∀ x ∈ m.cv :: eVals m.coils,x ∈ m.vals := fun x hx => by rw [hm]; exact List.mem_append_right _ (List.mem_append_left _ hx)
 have mK : ∀ x ∈ aVals m.kids,x ∈ m.vals := fun x hx => by rw [hm]; exact List.mem_append_right _ (List.mem_append_right _ (List.mem_cons_of_mem _ hx))
 rw [hm] at hp
 obtain ⟨pN,pR,pNR⟩ := List.pairwise_append.1 hp
 obtain ⟨pC,_,pCK⟩ := List.pairwise_append.1 pR
 have nk : ∀ x ∈ m.net.vals,Aside x m.kv := fun x hx => pNR x hx _ (List.mem_append_right _ (List.mem_cons_self ..))
 have ck : ∀ x ∈ m.cv :: eVals m.coils,Aside x m.kv := fun x hx => pCK x hx _ (List.mem_cons_self ..)
 refine ⟨⟨(AOk_iff _ _ _).2 ⟨g1.kept hg nk,⟨g2.kept hg (ck _ (List.mem_cons_self ..)),fun x hx => (g3 x hx).kept hg (ck _ (List.mem_cons_of_mem _ (mem_eVals.2 ⟨x,hx,rfl⟩)))⟩,hr.1,hr.2.1⟩,?_⟩,?_⟩
 ·rw [hv]
  have hr2 := hr.2.2
  rw [aVals_append,aVals_one] at hr2
  refine List.pairwise_append.2 ⟨pN,List.pairwise_append.2 ⟨pC,hr2,fun x hx y hy => ?_⟩,fun x hx y hy => ?_⟩
  ·rcases List.mem_cons.1 hy with rfl | hy
   ·exact aside_of (ck x hx) (hlt x (mC x hx)) hat
   rcases List.mem_append.1 hy with hy | hy
   ·exact pCK x hx y (List.mem_cons_of_mem _ hy)
   ·exact (hk y hy x (mC x hx)).symm
  ·rcases List.mem_append.1 hy with hy | hy
   ·exact pNR x hx y (List.mem_append_left _ hy)
   rcases List.mem_cons.1 hy with rfl | hy
   ·exact aside_of (nk x hx) (hlt x (mN x hx)) hat
   rcases List.mem_append.1 hy with hy | hy
   ·exact pNR x hx y (List.mem_append_right _ (List.mem_cons_of_mem _ hy))
   ·exact (hk y hy x (mN x hx)).symm
 ·intro x hx
  rw [hv] at hx
  rcases List.mem_append.1 hx with hx | hx
  ·exact .inl (mN x hx)
  rcases List.mem_append.1 hx with hx | hx
  ·exact .inl (mC x hx)
  rcases List.mem_cons.1 hx with rfl | hx
  ·exact .inr (.inr rfl)
  rcases List.mem_append.1 hx with hx | hx
  ·exact .inl (mK x hx)
  ·exact .inr (.inl hx)
theorem AOwn.krow {w : World} {base : Nat} {m : MArm} (h : AOwn w base m) : ARow w base m.kv m.kids := by
 obtain ⟨h1,hp⟩ := h
 obtain ⟨_,_,h4,h5⟩ := (AOk_iff _ _ _).1 h1
 rw [MArm.vals_eq] at hp
 exact ⟨h4,h5,(List.pairwise_append.1 (List.pairwise_append.1 hp).2.1).2.1⟩
theorem B6.al {w : World} {b : Nat} {v0 v1 v2 v3 v4 v5 : Value} (h : B6 w b v0 v1 v2 v3 v4 v5) (o : Obj) : B6 (w.alloc o) b v0 v1 v2 v3 v4 v5 := h.at (below_alloc _ _)
theorem cells6a {W : World} {u0 u1 u2 u3 u4 u5 : Value} {t : TypeId} : ∀ j u,[u0,u1,u2,u3,u4,u5][j]? = some u → (W.alloc (.cells #[u0,u1,u2,u3,u4,u5] t)).cell? ((⟨W.heap.size,0,none⟩ : Addr).add j) = some u := by
 intro j u h
 rw [Addr.add_lit]
 match j,h with
 | 0,h => simp at h; subst h; simp [go_sem]
 | 1,h => simp at h; subst h; simp [go_sem]
 | 2,h => simp at h; subst h; simp [go_sem]
 | 3,h => simp at h; subst h; simp [go_sem]
 | 4,h => simp at h; subst h; simp [go_sem]
 | 5,h => simp at h; subst h; simp [go_sem]
 | j + 6,h => simp at h
theorem wpList_raw_elems {ops : Array Oper} {rest : List Oper} {o : Oper} {a : Act} {w : World} {Q : Exit → Act → World → Prop}
  (hg : o.guard = none) (s x : Operand) (hop : o.op = .call { callee := .builtin .append,args := #[s,x],argTypes := #[34,34] })
  (base : Nat) (ra : Option Addr) (rc n : Nat) (ms ks : List MElem) (hn : n = ms.length) (ad : Option Addr) (c : Nat) (hs : a.eval s = .slice ra n rc) (hx : a.eval x = .slice ad ks.length c)
  (hrow : ERow w base (.slice ra ms.length rc) ms) (hxs : 0 < ks.length → ∃ p,ad = some p ∧ ∀ j u,(eCells ks)[j]? = some u → w.cell? (p.add j) = some u)
  (hk : ∀ m ∈ ks,EOk w base m) (hp : (Value.slice ra ms.length rc :: (eVals ms ++ eVals ks)).Pairwise Aside) (hl : ms.length + ks.length ≤ 1000000) (hbase : base ≤ w.heap.size)
  (h : ∀ a' c' w',ERow w' base (.slice a' (n + ks.length) c') (ms ++ ks) → w.grownBy w' (Value.slice ra n rc).ownBlock → ((Value.slice a' (n + ks.length) c').ownBlock = (Value.slice ra n rc).ownBlock ∨ (Value.slice a' (n + ks.length) c').ownBlock = some w.heap.size) → wpList Tryz.prog ops Q rest (a.put o.dst (.slice a' (n + ks.length) c')) w') :
  wpList Tryz.prog ops Q (o :: rest) a w := by
 subst hn
 refine wpList_plain hg fun K hK => ?_
 have hw : Region.wanted o (yielded #[] a.tmps) = true := by simp [Region.wanted,hg]
 have := step_raw_elems (ops := #[]) (K := K) (Q := Q) (E := True) hg s x hop base ra rc ms ks ad c hs hx hrow hxs hk hp hl hbase (fun a' c' w' h1 h2 h3 => hK _ _ (h a' c' w' h1 h2 h3))
 rwa [if_pos hw] at this
theorem below_both {n : Nat} {a b : World} (h : Below n a b) (p : Addr) (v : Value) : Below n (a.setCell p v) (b.setCell p v) := by
 refine ⟨h.os,h.tape,h.output,by simpa using h.size,fun k hk => ?_⟩
 have := h.block k hk
 simp only [World.setCell,Array.getElem?_modify]
 split
 ·rw [this]
 ·exact this
theorem below_both4 {n c : Nat} {a b : World} {u0 u1 u2 u3 : Value} (h : Below n a b) : Below n ((((a.setCell ⟨c,0,none⟩ u0).setCell ⟨c,1,none⟩ u1).setCell ⟨c,2,none⟩ u2).setCell ⟨c,3,none⟩ u3) ((((b.setCell ⟨c,0,none⟩ u0).setCell ⟨c,1,none⟩ u1).setCell ⟨c,2,none⟩ u2).setCell ⟨c,3,none⟩ u3) :=
 below_both (below_both (below_both (below_both h _ _) _ _) _ _) _ _
set_option maxHeartbeats 4000000 in
set_option maxRecDepth 100000 in
theorem s_l4Arm (a : Stil.Arm) : Stil.armFits a → Stil.armSize a ≤ 900000 → Stil.armRight a → ∀ (av nv cv kv : Value) (w : World),DevsAt w av a.net.one.args → NetsAt w nv a.net.kids → ElemsAt w cv a.coils → ArmsAt w kv a.kids → Calls Tryz.prog 52 #[.agg #[.int .i64 a.net.kind,.int .i64 a.net.one.op,av,nv,cv,kv]] w fun e w' => ArmRet w' w.heap.size (Stil.normArm a) e ∧ Below w.heap.size w w' := by
 induction a using Stil.arm_ind with
 | h n cs kids ih =>
  intro hft hsz hrt av nv cv kv w hav hnv hcv hkv
  obtain ⟨hnf,hcl,hcf,hkl,hkf⟩ := (Stil.armFits_eq _ _ _).1 hft
  obtain ⟨hnr,hkr⟩ := (Stil.armRight_eq _ _ _).1 hrt
  simp only at hav hnv hcv hkv
  have hks : ∀ x ∈ kids,Stil.armSize x ≤ 900000 := by
   intro x hx
   have : Stil.armSize x ≤ Stil.ksize kids := Stil.mem_le_sum Stil.armSize kids x hx
   rw [Stil.armSize_nsz] at hsz
   omega
  have hkn : kids.length ≤ 999999 := by
   have h1 := Stil.len_ksize kids
   rw [Stil.armSize_nsz] at hsz
   omega
  have hcn : cs.length ≤ 999999 := by
   rw [Stil.armSize_nsz] at hsz
   omega
  have hns : Stil.netNone n = false → Stil.netSize n ≤ 999999 := by
   intro h
   rw [Stil.armSize_nsz] at hsz
   have e : Stil.nsz n = Stil.netSize n := if_neg (by rw [h]; exact Bool.false_ne_true)
   omega
  have H1 : Hid (∀ W,Below w.heap.size w W → Calls Tryz.prog 92 #[cv] W fun e w' => ∃ (a : Option Addr) (c : Nat) (ms : List MElem),e = .returned (.slice a ms.length c) ∧ ms.map MElem.elem = cs ∧ ERow w' W.heap.size (.slice a ms.length c) ms ∧ Below W.heap.size W w') := fun W h => s_coils cs cv W (hcv.below h) hcn hcf
  have H2 : Hid (∀ x ∈ kids,∀ (av nv cv kv : Value) (W : World),DevsAt W av x.net.one.args → NetsAt W nv x.net.kids → ElemsAt W cv x.coils → ArmsAt W kv x.kids → Calls Tryz.prog 52 #[.agg #[.int .i64 x.net.kind,.int .i64 x.net.one.op,av,nv,cv,kv]] W fun e w' => ArmRet w' W.heap.size (Stil.normArm x) e ∧ Below W.heap.size W w') := fun x hx => ih x hx (hkf x hx) (hks x hx) (hkr x hx)
  have H3 : Hid (∀ W,Below w.heap.size w W → Calls Tryz.prog 74 #[.agg #[.int .i64 n.kind,.int .i64 n.one.op,av,nv]] W fun e w' => e = .returned (.bool (Stil.netNone n)) ∧ Below W.heap.size W w') := fun W h => s_netNone' n av nv W (hav.below h) (hnv.below h) hnf
  have H4 : Hid (Stil.netNone n = false → ∀ W,Below w.heap.size w W → Calls Tryz.prog 93 #[.agg #[.int .i64 n.kind,.int .i64 n.one.op,av,nv]] W fun e w' => NetRet w' W.heap.size (Stil.normNet n) e ∧ Below W.heap.size W w') := fun hn W h => s_l4Net n hnf (hnr.resolve_left (by rw [hn]; exact Bool.false_ne_true)) (by have := hns hn; omega) av nv W (hav.below h) (hnv.below h)
  have HAK : Hid (∀ W,Below w.heap.size w W → ArmsAt W kv kids) := fun W h => hkv.below h
  have HJ : Hid (Stil.normArm ⟨n,cs,kids⟩ = Stil.joined ⟨Stil.netOf n,cs,kids.map Stil.normArm⟩) := Stil.normArm_of n cs kids
  have HM : Hid (Stil.midOk 900000 ⟨Stil.netOf n,cs,kids.map Stil.normArm⟩) := by
   have := Stil.begin_ok hft hsz (fun x hx => Stil.normArm_ok x (hkf x hx) (hks x hx))
   exact ⟨this.1,Nat.le_trans this.2 hsz⟩
  have HFI : Hid (Stil.armFine ⟨Stil.netOf n,cs,kids.map Stil.normArm⟩) := (Stil.armFine_eq _ _ _).2 ⟨Stil.netOf_fine hnr,fun x hx => by obtain ⟨y,hy,rfl⟩ := List.mem_map.1 hx; exact Stil.normArm_fine y (hkr y hy)⟩
  have HKN : Hid (kids.length ≤ 999999) := hkn
  obtain ⟨T,hT⟩ : ∃ T,T = Stil.normArm ⟨n,cs,kids⟩ := ⟨_,rfl⟩
  rw [← hT] at HJ ⊢
  obtain ⟨p0,r0,rfl,hz0⟩ := hav
  obtain ⟨p1,r1,rfl,hz1⟩ := hnv
  obtain ⟨p2,r2,rfl,hz2⟩ := hcv
  obtain ⟨p3,r3,rfl,hz3⟩ := hkv
  clear hz0 hz1 hz2 hz3 ih hft hsz hnf hcl hcf hkl hkf hks hcn hns hT hrt hnr hkr
  go_enter Tryz.func52,Tryz.ntmps52
  go_upto_region 1 with fail
  obtain ⟨W,hW⟩ : ∃ W,W = (w.alloc (.cells #[.int .i64 n.kind,.int .i64 n.one.op,.slice p0 n.one.args.length r0,.slice p1 n.kids.length r1,.slice p2 cs.length r2,.slice p3 kids.length r3] 36)).alloc (.cells #[.int .i64 0,.int .i64 0,.slice none 0 0,.slice none 0 0,.slice none 0 0,.slice none 0 0] 36) := ⟨_,rfl⟩
  rw [← hW]
  have hA : B6 W w.heap.size (.int .i64 n.kind) (.int .i64 n.one.op) (.slice p0 n.one.args.length r0) (.slice p1 n.kids.length r1) (.slice p2 cs.length r2) (.slice p3 kids.length r3) := by rw [hW]; exact (B6.new w _ _ _ _ _ _ _).at (below_alloc _ _)
  have hZ : B6 W (w.heap.size + 1) (.int .i64 0) (.int .i64 0) (.slice none 0 0) (.slice none 0 0) (.slice none 0 0) (.slice none 0 0) := by rw [hW]; have := B6.new (w.alloc (.cells #[.int .i64 n.kind,.int .i64 n.one.op,.slice p0 n.one.args.length r0,.slice p1 n.kids.length r1,.slice p2 cs.length r2,.slice p3 kids.length r3] 36)) (.int .i64 0) (.int .i64 0) (.slice none 0 0) (.slice none 0 0) (.slice none 0 0) (.slice none 0 0) 36; simpa using this
  have hsW : W.heap.size = w.heap.size + 2 := by rw [hW]; simp
  have hBW : Below w.heap.size w W := by rw [hW]; exact bl_alloc (below_alloc _ _) _
  clear hW
  have HA : Hid (B6 W w.heap.size (.int .i64 n.kind) (.int .i64 n.one.op) (.slice p0 n.one.args.length r0) (.slice p1 n.kids.length r1) (.slice p2 cs.length r2) (.slice p3 kids.length r3)) := hA
  have HZ : Hid (B6 W (w.heap.size + 1) (.int .i64 0) (.int .i64 0) (.slice none 0 0) (.slice none 0 0) (.slice none 0 0) (.slice none 0 0)) := hZ
  have HSW : Hid (W.heap.size = w.heap.size + 2) := hsW
  have hl0 : w.heap.size < W.heap.size := by omega
  obtain ⟨_,⟨_,_,_,_,p4,_⟩,_⟩ := hA
  clear hZ hsW
  go_cut [3] (fun s3 wc => ∃ (B : Nat) (m : MArm),s3 = .pointer (some ⟨B,0,none⟩) ∧ NSt w wc B m ∧ m.arm = ⟨Stil.none0,cs,[]⟩ ∧ B6 wc w.heap.size (.int .i64 n.kind) (.int .i64 n.one.op) (.slice p0 n.one.args.length r0) (.slice p1 n.kids.length r1) (.slice p2 cs.length r2) (.slice p3 kids.length r3))
  case first =>
   go_wp2_with (go_at_call 92; refine (H1.out _ (by exact hBW)).mono ?_; rintro e w1 ⟨ra,rc,ems,rfl,hmn,hmr,hb1⟩; have hC1 : Below W.heap.size W w1 := hb1; have hB1 : Below w.heap.size w w1 := hBW.trans (hC1.mono hBW.size); have hz1 : w.heap.size < w1.heap.size := Nat.lt_of_lt_of_le hl0 hC1.size; have hS1 : (w1.cell? ⟨w.heap.size,4,none⟩ = some (.slice p2 cs.length r2)) := (hC1.cell (p := ⟨w.heap.size,4,none⟩) hl0).trans p4; have HEN : Hid (ems.map MElem.elem = cs) := hmn; have HER : Hid (ERow w1 _ (.slice ra ems.length rc) ems) := hmr; have HB1 : Hid (Below _ _ w1) := hb1; clear hmn hmr)
   go_meet
   have hs0 := HSW.out
   obtain ⟨ho,hv⟩ := arm_facts (base := w.heap.size + 2) (lA := w1.heap.size) HER.out (ARow.nil w1 w1.heap.size) (Below.refl _ _) (by show _ ≤ W.heap.size; omega) (Nat.le_refl _) (by have := hC1.size; omega)
   have hsz := hC1.size
   refine ⟨w1.heap.size,⟨nilNet,.slice ra ems.length rc,ems,.slice none 0 0,[]⟩,rfl,⟨by omega,B6.new _ _ _ _ _ _ _ _,ho.below (below_alloc _ _),fun x hx e => by (have h := hv x hx _ e; omega),(HZ.out.at hC1).at (below_alloc _ _),bl_alloc hB1 _⟩,?_,(HA.out.at hC1).at (below_alloc _ _)⟩
   rw [MArm.arm_eq]; simp only; rw [HEN.out,nilNet_net]; rfl
  case rest =>
   clear p4 hBW hl0 HSW HA HZ
   obtain ⟨B,m,rfl,hst,hma,hA⟩ := hcut
   have HST : Hid (NSt w wc B m) := hst
   have HMA : Hid (m.arm = ⟨Stil.none0,cs,[]⟩) := hma
   have HA : Hid (B6 wc w.heap.size (.int .i64 n.kind) (.int .i64 n.one.op) (.slice p0 n.one.args.length r0) (.slice p1 n.kids.length r1) (.slice p2 cs.length r2) (.slice p3 kids.length r3)) := hA
   clear hst hma H1
   obtain ⟨hA0,⟨p0',p1',p2',p3',p4',p5'⟩,hAf⟩ := hA
   clear hAf
   obtain ⟨hB2,hbx,hao,hno,hzb,hbw⟩ := HST.out
   obtain ⟨t,ht⟩ : ∃ t,t = Stil.netNone n := ⟨_,rfl⟩
   have HT : Hid (t = Stil.netNone n) := ht
   have HN1 : Hid (∀ W,Below wc.heap.size wc W → Calls Tryz.prog 74 #[.agg #[.int .i64 n.kind,.int .i64 n.one.op,.slice p0 n.one.args.length r0,.slice p1 n.kids.length r1]] W fun e w' => e = .returned (.bool t) ∧ Below W.heap.size W w') := by rw [ht]; exact fun W h => H3.out W (hbw.trans (h.mono hbw.size))
   have HN2 : Hid (t = false → ∀ W,Below wc.heap.size wc W → Calls Tryz.prog 93 #[.agg #[.int .i64 n.kind,.int .i64 n.one.op,.slice p0 n.one.args.length r0,.slice p1 n.kids.length r1]] W fun e w' => NetRet w' W.heap.size (Stil.normNet n) e ∧ Below W.heap.size W w') := by rw [ht]; exact fun hn W h => H4.out hn W (hbw.trans (h.mono hbw.size))
   clear ht H3 H4 hB2 hbx hao hno hzb hbw
   go_upto_if 13 with (go_at_call 74; refine (HN1.out _ blA).mono ?_; rintro e w3 ⟨rfl,hb3⟩; obtain ⟨hc3,hf3⟩ := bcell hb3; have hza3 : w.heap.size < w3.heap.size := Nat.lt_of_lt_of_le hA0 hb3.size; have q0 : w3.cell? ⟨w.heap.size,0,none⟩ = _ := (hc3 _ _ hA0).trans p0'; have q1 : w3.cell? ⟨w.heap.size,1,none⟩ = _ := (hc3 _ _ hA0).trans p1'; have q2 : w3.cell? ⟨w.heap.size,2,none⟩ = _ := (hc3 _ _ hA0).trans p2'; have q3 : w3.cell? ⟨w.heap.size,3,none⟩ = _ := (hc3 _ _ hA0).trans p3'; clear hc3 hf3)
   clear HN1
   have HST3 : Hid (NSt w w3 B m) := by
    obtain ⟨hB2,hbx,hao,hno,hzb,hbw⟩ := HST.out
    exact ⟨hB2,hbx.at hb3,hao.below hb3,hno,hzb.at hb3,bl_call hbw hb3⟩
   have HN3 : Hid (t = false → Calls Tryz.prog 93 #[.agg #[.int .i64 n.kind,.int .i64 n.one.op,.slice p0 n.one.args.length r0,.slice p1 n.kids.length r1]] w3 fun e w' => NetRet w' w3.heap.size (Stil.normNet n) e ∧ Below w3.heap.size w3 w') := fun h => HN2.out h w3 hb3
   have HA4 := HA.out.at hb3
   clear HST HA hA0 p0' p1' p2' p3' p4' p5' hb3 HN2
   have HA3 : Hid (B6 w3 w.heap.size (.int .i64 n.kind) (.int .i64 n.one.op) (.slice p0 n.one.args.length r0) (.slice p1 n.kids.length r1) (.slice p2 cs.length r2) (.slice p3 kids.length r3)) := HA4
   clear HA4
   go_cut [] (fun wd => ∃ m : MArm,NSt w wd B m ∧ m.arm = ⟨Stil.netOf n,cs,[]⟩ ∧ B6 wd w.heap.size (.int .i64 n.kind) (.int .i64 n.one.op) (.slice p0 n.one.args.length r0) (.slice p1 n.kids.length r1) (.slice p2 cs.length r2) (.slice p3 kids.length r3))
   case first =>
    cases t with
    | true =>
     have HNO : Hid (Stil.netOf n = n ∧ n = Stil.none0) := ⟨if_pos HT.out.symm,Stil.none_eq HT.out.symm⟩
     clear HN3
     go_wp2
     go_meet
     exact ⟨m,HST3.out,by rw [HMA.out,HNO.out.1,HNO.out.2],HA3.out⟩
    | false =>
     have HNO : Hid (Stil.netOf n = Stil.normNet n) := if_neg (by rw [← HT.out]; exact Bool.false_ne_true)
     have HN4 : Hid (Calls Tryz.prog 93 #[.agg #[.int .i64 n.kind,.int .i64 n.one.op,.slice p0 n.one.args.length r0,.slice p1 n.kids.length r1]] w3 fun e w' => NetRet w' w3.heap.size (Stil.normNet n) e ∧ Below w3.heap.size w3 w') := HN3.out rfl
     clear HN3
     go_wp2_with (go_at_call 93; refine HN4.out.mono ?_; rintro e w4 ⟨⟨mk,mop,mds,s0,t0,s1,t1,mks,rfl,hmo,hmn⟩,hb4⟩; have HMO : Hid (MOwn w4 w3.heap.size ⟨mk,mop,mds,.slice s0 mds.length t0,.slice s1 mks.length t1,mks⟩) := hmo; have HMN : Hid ((MNet.mk mk mop mds (.slice s0 mds.length t0) (.slice s1 mks.length t1) mks).net = Stil.normNet n) := hmn; clear hmo hmn; have HBX4 : Hid (BoxA w4 B m) := B6.at HST3.out.2.1 hb4; obtain ⟨hB0,⟨y0,y1,y2,y3,_,_⟩,hBf⟩ := HBX4.out; have f0 := hBf 0 (by omega); have f1 := hBf 1 (by omega); have f2 := hBf 2 (by omega); have f3 := hBf 3 (by omega); clear hBf)
     go_meet
     obtain ⟨hB2,hbx,hao,hno,hzb,hbw⟩ := HST3.out
     have hle4 := hb4.size
     have hsz := hbw.size
     have hBl : B < w3.heap.size := hbx.1
     have hN : MOwn w4 (w.heap.size + 2) ⟨mk,mop,mds,.slice s0 mds.length t0,.slice s1 mks.length t1,mks⟩ := HMO.out.le (by omega)
     have ho4 := AOwn.setNet (hao.below hb4) hN (fun x hx q hq => (HMO.out.1.lt _ x hx q hq).1) (fun x hx q hq => (hao.1.lt _ x hx q hq).2)
     have hno4 : ∀ x ∈ (MArm.mk ⟨mk,mop,mds,.slice s0 mds.length t0,.slice s1 mks.length t1,mks⟩ m.cv m.coils m.kv m.kids).vals,x.ownBlock ≠ some B := by
      intro x hx e
      rw [MArm.vals_eq] at hx
      rcases List.mem_append.1 hx with hx | hx
      ·have := (HMO.out.1.lt _ x hx _ e).1; omega
      ·exact hno x (by rw [MArm.vals_eq]; exact List.mem_append_right _ hx) e
     refine ⟨⟨⟨mk,mop,mds,.slice s0 mds.length t0,.slice s1 mks.length t1,mks⟩,m.cv,m.coils,m.kv,m.kids⟩,⟨hB2,B6.setN HBX4.out,AOwn.setN ho4 hno4,hno4,B6.set4O (hzb.at hb4) (by omega),?_⟩,?_,B6.set4O (HA3.out.at hb4) (by omega)⟩
     ·have hbw4 : Below w.heap.size w w4 := bl_call hbw hb4
      have hle : w.heap.size ≤ B := by omega
      exact bl_set hle (bl_set hle (bl_set hle (bl_set hle hbw4 _) _) _) _
     ·have e := HMA.out
      rw [MArm.arm_eq] at e ⊢
      simp only [Stil.Arm.mk.injEq] at e ⊢
      exact ⟨by rw [HMN.out,HNO.out],e.2.1,e.2.2⟩
   case rest =>
    obtain ⟨m2,hst,hma,hA⟩ := hcut
    clear HMA HST3 HN3 q0 q1 q2 q3 HA3 hza3
    have HST : Hid (NSt w wc B m2) := hst
    have HMA : Hid (m2.arm = ⟨Stil.netOf n,cs,[]⟩) := hma
    clear hst hma
    go_wp2
    go_loopw [4] (fun i wr => ∃ (j : Nat) (m : MArm),j ≤ kids.length ∧ i = .int .i64 j ∧ NSt w wr B m ∧ m.arm = ⟨Stil.netOf n,cs,(kids.take j).map Stil.normArm⟩ ∧ B6 wr w.heap.size (.int .i64 n.kind) (.int .i64 n.one.op) (.slice p0 n.one.args.length r0) (.slice p1 n.kids.length r1) (.slice p2 cs.length r2) (.slice p3 kids.length r3)) (fun i _ => kids.length - (intOf i).toNat)
    case atStart => exact ⟨0,m2,by omega,rfl,HST.out,by rw [HMA.out]; rfl,hA⟩
    case round =>
     clear HST HMA hA HT
     obtain ⟨j,m3,hj,rfl,hst,hma,hA⟩ := hrel
     obtain ⟨hB2,hbx,hao,hno,hzb,hbw⟩ := hst
     obtain ⟨k1,o1,d1,a1,c1,b1,e1,n1,f1,g1,s1,h1,j1,ks1,rfl⟩ := marm_form m3 hao.1
     have hkl : ks1.length = j := by
      rw [MArm.arm_eq] at hma
      have h2 := congrArg (fun a : Stil.Arm => a.kids.length) hma
      simp only [List.length_map,List.length_take] at h2
      omega
     have hbx' : B6 wr B (.int .i64 k1) (.int .i64 o1) (.slice a1 d1.length c1) (.slice b1 n1.length e1) (.slice f1 s1.length g1) (.slice h1 ks1.length j1) := hbx
     have HBX : Hid (B6 wr B (.int .i64 k1) (.int .i64 o1) (.slice a1 d1.length c1) (.slice b1 n1.length e1) (.slice f1 s1.length g1) (.slice h1 ks1.length j1)) := hbx'
     have HAO : Hid (AOwn wr (w.heap.size + 2) (MArm.mk ⟨k1,o1,d1,.slice a1 d1.length c1,.slice b1 n1.length e1,n1⟩ (.slice f1 s1.length g1) s1 (.slice h1 ks1.length j1) ks1)) := hao
     have HNO : Hid (∀ x ∈ (MArm.mk ⟨k1,o1,d1,.slice a1 d1.length c1,.slice b1 n1.length e1,n1⟩ (.slice f1 s1.length g1) s1 (.slice h1 ks1.length j1) ks1).vals,x.ownBlock ≠ some B) := hno
     have HZB : Hid (B6 wr (w.heap.size + 1) (.int .i64 0) (.int .i64 0) (.slice none 0 0) (.slice none 0 0) (.slice none 0 0) (.slice none 0 0)) := hzb
     have HBW : Hid (Below w.heap.size w wr) := hbw
     have HMA : Hid ((MArm.mk ⟨k1,o1,d1,.slice a1 d1.length c1,.slice b1 n1.length e1,n1⟩ (.slice f1 s1.length g1) s1 (.slice h1 ks1.length j1) ks1).arm = ⟨Stil.netOf n,cs,(kids.take j).map Stil.normArm⟩) := hma
     have HB2 : Hid (w.heap.size + 2 ≤ B) := hB2
     have HA : Hid (B6 wr w.heap.size (.int .i64 n.kind) (.int .i64 n.one.op) (.slice p0 n.one.args.length r0) (.slice p1 n.kids.length r1) (.slice p2 cs.length r2) (.slice p3 kids.length r3)) := hA
     have HB3 : Hid (w.heap.size + 2 ≤ wr.heap.size) := by have := hbx'.1; show _ ≤ _; omega
     by_cases hlt : j < kids.length
     ·have hat := HAK.out wr hbw
      obtain ⟨pa,pc,hpe,hpc⟩ := hat
      simp only [Value.slice.injEq,true_and] at hpe
      obtain ⟨rfl,rfl⟩ := hpe
      obtain ⟨b,o,rfl,hbl,hn⟩ := hpc j hlt
      obtain ⟨hnn,cv',kk',x4,x5,hcv,hkv⟩ := hn.open
      obtain ⟨x0,x1,av',nv',x2,x3,hav,hnv⟩ := hnn.open
      have HI : Hid (∀ W,Below wr.heap.size wr W → Calls Tryz.prog 52 #[.agg #[.int .i64 kids[j].net.kind,.int .i64 kids[j].net.one.op,av',nv',cv',kk']] W fun e w' => ArmRet w' W.heap.size (Stil.normArm kids[j]) e ∧ Below W.heap.size W w') := fun W h => H2.out kids[j] (List.getElem_mem hlt) av' nv' cv' kk' W (hav.below h) (hnv.below h) (hcv.below h) (hkv.below h)
      have HTS : Hid ((kids.take (j + 1)).map Stil.normArm = (kids.take j).map Stil.normArm ++ [Stil.normArm kids[j]]) := by show _ = _; rw [List.take_succ_eq_append_getElem hlt,List.map_append]; rfl
      obtain ⟨x,hx⟩ : ∃ x,x = kids[j] := ⟨_,rfl⟩
      rw [← hx] at HI HTS x0 x1 hav hnv hcv hkv
      obtain ⟨q0,s0,rfl,_⟩ := hav
      obtain ⟨q1,s1',rfl,_⟩ := hnv
      obtain ⟨q2,s2',rfl,_⟩ := hcv
      obtain ⟨q3,s3',rfl,_⟩ := hkv
      obtain ⟨hBs,⟨_,_,_,_,_,y5⟩,hBf⟩ := hbx'
      obtain ⟨hAs,⟨_,_,_,_,_,z5⟩,_⟩ := hA
      have HF5 : Hid (wr.frozen? ⟨B,5,none⟩ = false) := hBf 5 (by omega)
      have hl2 : ks1.length + [(MArm.mk ⟨k1,o1,d1,.slice a1 d1.length c1,.slice b1 n1.length e1,n1⟩ (.slice f1 s1.length g1) s1 (.slice h1 ks1.length j1) ks1)].length ≤ 1000000 := by simp only [List.length_singleton]; omega
      have hvm : Value.slice h1 ks1.length j1 ∈ (MArm.mk ⟨k1,o1,d1,.slice a1 d1.length c1,.slice b1 n1.length e1,n1⟩ (.slice f1 s1.length g1) s1 (.slice h1 ks1.length j1) ks1).vals := by rw [MArm.vals_eq]; simp
      have HKB : Hid ((Value.slice h1 ks1.length j1).ownBlock ≠ some B) := hno _ hvm
      have HKW : Hid (∀ q,(Value.slice h1 ks1.length j1).ownBlock = some q → w.heap.size + 2 ≤ q) := fun q hq => (hao.1.lt _ _ hvm q hq).1
      have hj1 : (0 : Int) ≤ (j : Int) := by omega
      have hj2 : (j : Int) < (kids.length : Int) := by omega
      clear hx hn hnn hpc hbx hao hno hzb hbw hma hB2 hBf hvm hkl
      go_upto_region 7 with fail
      go_region_law (first | (refine step_raw_arms rfl _ _ rfl (w.heap.size + 2) h1 j1 ks1 [(MArm.mk ⟨mk,mop,mds,.slice xa mds.length ya,.slice xb mns.length yb,mns⟩ (.slice xc mcs.length yc) mcs (.slice xd mks.length yd) mks)] (some ⟨w5.heap.size,0,none⟩) 1 rfl rfl (((HAO.out.below hb5).below (below_alloc _ _)).krow) (fun _ => ⟨_,rfl,by exact cells6a⟩) (fun m hm => by rw [List.mem_singleton.1 hm]; exact ((HMO.out.1.le HB3.out).below (below_alloc _ _))) (HAO.out.krow.apart (w1 := w5) (b1 := wr.heap.size) (fun m hm => by rw [List.mem_singleton.1 hm]; exact HMO.out.1) (Nat.le_refl _) (by rw [aVals_one]; exact HMO.out.2)) hl2 (by have := hb5.size; have := HB3.out; simp; omega) ?_; intro a6 c6 w6 hmr6 hgr6 hat6; have HM6 : Hid (ARow w6 (w.heap.size + 2) (.slice a6 (ks1.length + 1) c6) (ks1 ++ [(MArm.mk ⟨mk,mop,mds,.slice xa mds.length ya,.slice xb mns.length yb,mns⟩ (.slice xc mcs.length yc) mcs (.slice xd mks.length yd) mks)])) := hmr6; have HG6 : Hid ((w5.alloc (.cells #[.int .i64 mk,.int .i64 mop,.slice xa mds.length ya,.slice xb mns.length yb,.slice xc mcs.length yc,.slice xd mks.length yd] 36)).grownBy w6 (Value.slice h1 ks1.length j1).ownBlock) := hgr6; have HT6 : Hid ((Value.slice a6 (ks1.length + 1) c6).ownBlock = (Value.slice h1 ks1.length j1).ownBlock ∨ (Value.slice a6 (ks1.length + 1) c6).ownBlock = some (w5.alloc (.cells #[.int .i64 mk,.int .i64 mop,.slice xa mds.length ya,.slice xb mns.length yb,.slice xc mcs.length yc,.slice xd mks.length yd] 36)).heap.size) := hat6; have hBa : B < (w5.alloc (.cells #[.int .i64 mk,.int .i64 mop,.slice xa mds.length ya,.slice xb mns.length yb,.slice xc mcs.length yc,.slice xd mks.length yd] 36)).heap.size := (by simp; omega); have t5 : w6.cell? ⟨B,5,none⟩ = some (.slice h1 ks1.length j1) := (grownO_cell hgr6 hBa HKB.out).trans ((cellAllocO hBs5).trans y55); have u5 : w6.frozen? ⟨B,5,none⟩ = false := (grownO_frozen hgr6 hBa HKB.out).trans (((below_alloc w5 (.cells #[.int .i64 mk,.int .i64 mop,.slice xa mds.length ya,.slice xb mns.length yb,.slice xc mcs.length yc,.slice xd mks.length yd] 36)).frozen (p := ⟨B,5,none⟩) hBs5).trans HU5.out); clear hmr6 hgr6 hat6 hBa) | (go_simp; go_at_call 52; refine (HI.out _ (by exact (Below.refl _ _).drew)).mono ?_; rintro e w5 ⟨⟨mk,mop,mds,xa,ya,mns,xb,yb,mcs,xc,yc,mks,xd,yd,rfl,hmo,hmn⟩,hb5'⟩; have hb5 : Below wr.heap.size wr w5 := bl_call (Below.refl _ _).drew hb5'; have HMO : Hid (AOwn w5 wr.heap.size (MArm.mk ⟨mk,mop,mds,.slice xa mds.length ya,.slice xb mns.length yb,mns⟩ (.slice xc mcs.length yc) mcs (.slice xd mks.length yd) mks)) := hmo; have HMN : Hid ((MArm.mk ⟨mk,mop,mds,.slice xa mds.length ya,.slice xb mns.length yb,mns⟩ (.slice xc mcs.length yc) mcs (.slice xd mks.length yd) mks).arm = Stil.normArm x) := hmn; have hBs5 : B < w5.heap.size := Nat.lt_of_lt_of_le hBs hb5.size; have y55 : w5.cell? ⟨B,5,none⟩ = some (.slice h1 ks1.length j1) := (hb5.cell (p := ⟨B,5,none⟩) hBs).trans y5; have HU5 : Hid (w5.frozen? ⟨B,5,none⟩ = false) := (hb5.frozen (p := ⟨B,5,none⟩) hBs).trans HF5.out; clear hmo hmn hb5'))
      all_goals
       go_wp2
       have hB0 := HB2.out
       have hg := HG6.out
       have hadd := AOwn.addKid (m := (MArm.mk ⟨k1,o1,d1,.slice a1 d1.length c1,.slice b1 n1.length e1,n1⟩ (.slice f1 s1.length g1) s1 (.slice h1 ks1.length j1) ks1)) (k := (MArm.mk ⟨mk,mop,mds,.slice xa mds.length ya,.slice xb mns.length yb,mns⟩ (.slice xc mcs.length yc) mcs (.slice xd mks.length yd) mks)) (kv' := .slice a6 (ks1.length + 1) c6) ((HAO.out.below hb5).below (below_alloc _ _)) (fun x hx y hy => (aside_new (n := wr.heap.size) (fun q hq => (HAO.out.1.lt _ y hy q hq).2) (fun q hq => (HMO.out.1.lt _ x hx q hq).1)).symm) HM6.out hg HT6.out
       have hno6 : ∀ x ∈ (MArm.mk ⟨k1,o1,d1,.slice a1 d1.length c1,.slice b1 n1.length e1,n1⟩ (.slice f1 s1.length g1) s1 (.slice a6 (ks1.length + 1) c6) (ks1 ++ [(MArm.mk ⟨mk,mop,mds,.slice xa mds.length ya,.slice xb mns.length yb,mns⟩ (.slice xc mcs.length yc) mcs (.slice xd mks.length yd) mks)])).vals,x.ownBlock ≠ some B := by
        intro x hx e
        rcases hadd.2 x hx with h | h | h
        ·exact HNO.out x h e
        ·have := (HMO.out.1.lt _ x h _ e).1; omega
        ·rw [h] at e
         rcases HT6.out with h2 | h2
         ·rw [h2] at e; exact HKB.out e
         ·rw [h2] at e; cases e; simp at hBs5; omega
       refine ⟨⟨j + 1,(MArm.mk ⟨k1,o1,d1,.slice a1 d1.length c1,.slice b1 n1.length e1,n1⟩ (.slice f1 s1.length g1) s1 (.slice a6 (ks1.length + 1) c6) (ks1 ++ [(MArm.mk ⟨mk,mop,mds,.slice xa mds.length ya,.slice xb mns.length yb,mns⟩ (.slice xc mcs.length yc) mcs (.slice xd mks.length yd) mks)])),by omega,by go_num,⟨hB0,B6.set5 (B6.grown ((HBX.out.at hb5).al _) hg HKB.out) _,AOwn.setO hadd.1 (a := ⟨B,5,none⟩) hno6 _,hno6,B6.setO (B6.grown ((HZB.out.at hb5).al _) hg (fun e => by have := HKW.out _ e; omega)) (by omega) _,?_⟩,?_,B6.setO (B6.grown ((HA.out.at hb5).al _) hg (fun e => by have := HKW.out _ e; omega)) (by omega) _⟩,by simp [intOf]; omega⟩
       ·have hle : w.heap.size ≤ B := by omega
        exact bl_set hle ((bl_alloc (bl_call HBW.out hb5) _).grown hg (by have := HBW.out.size; have := hb5.size; simp; omega) (fun k hk => by have := HKW.out k hk; omega)) _
       ·have e := HMA.out
        rw [MArm.arm_eq] at e ⊢
        simp only [Stil.Arm.mk.injEq] at e ⊢
        refine ⟨e.1,e.2.1,?_⟩
        rw [List.map_append,e.2.2,HTS.out,List.map_singleton,HMN.out]
     ·obtain rfl : j = kids.length := by omega
      have hm4 := HMA.out
      rw [List.take_length] at hm4
      have HM4 : Hid ((MArm.mk ⟨k1,o1,d1,.slice a1 d1.length c1,.slice b1 n1.length e1,n1⟩ (.slice f1 s1.length g1) s1 (.slice h1 ks1.length j1) ks1).arm = ⟨Stil.netOf n,cs,kids.map Stil.normArm⟩) := hm4
      have HST4 : Hid (NSt w wr B (MArm.mk ⟨k1,o1,d1,.slice a1 d1.length c1,.slice b1 n1.length e1,n1⟩ (.slice f1 s1.length g1) s1 (.slice h1 ks1.length j1) ks1)) := ⟨HB2.out,HBX.out,HAO.out,HNO.out,HZB.out,HBW.out⟩
      obtain ⟨_,⟨_,_,_,_,_,z5⟩,_⟩ := hA
      clear hm4 hbx hbx' hao hno hzb hbw hma HBX HAO HNO HZB HBW HMA HA HB3 H2 HAK hlt hkl hB2
      obtain ⟨wo,hwo⟩ : ∃ wo : World,wo = wr := ⟨wr,rfl⟩
      subst hwo
      go_wp2
      go_loopg [] (Stil.ksize (kids.map Stil.normArm)) (fun k wr => ∃ m : MArm,NSt w wr B m ∧ Stil.joined m.arm = T ∧ Stil.midOk 900000 m.arm ∧ Stil.armFine m.arm ∧ Stil.ksize m.arm.kids ≤ k)
      case atStart =>
       refine ⟨(MArm.mk ⟨k1,o1,d1,.slice a1 d1.length c1,.slice b1 n1.length e1,n1⟩ (.slice f1 s1.length g1) s1 (.slice h1 ks1.length j1) ks1),HST4.out,?_,?_,?_,?_⟩
       ·rw [HM4.out,HJ.out]
       ·rw [HM4.out]; exact HM.out
       ·rw [HM4.out]; exact HFI.out
       ·rw [HM4.out]; exact Nat.le_refl _
      case round =>
       clear HST4 HM4 HJ HM HFI HKN z5 k1 o1 d1 a1 c1 b1 e1 n1 f1 g1 s1 h1 j1 ks1 HB2
       obtain ⟨m3,hst,hjo,hmid,hfi,hgk⟩ := hrel
       obtain ⟨hB2,hbx,hao,hno,hzb,hbw⟩ := hst
       obtain ⟨k1,o1,d1,a1,c1,b1,e1,n1,f1,g1,s1,h1,j1,ks1,rfl⟩ := marm_form m3 hao.1
       have hbx' : B6 wr B (.int .i64 k1) (.int .i64 o1) (.slice a1 d1.length c1) (.slice b1 n1.length e1) (.slice f1 s1.length g1) (.slice h1 ks1.length j1) := hbx
       have HBX : Hid (B6 wr B (.int .i64 k1) (.int .i64 o1) (.slice a1 d1.length c1) (.slice b1 n1.length e1) (.slice f1 s1.length g1) (.slice h1 ks1.length j1)) := hbx'
       have HAO : Hid (AOwn wr (w.heap.size + 2) ⟨⟨k1,o1,d1,.slice a1 d1.length c1,.slice b1 n1.length e1,n1⟩,.slice f1 s1.length g1,s1,.slice h1 ks1.length j1,ks1⟩) := hao
       have HNO : Hid (∀ x ∈ (MArm.mk ⟨k1,o1,d1,.slice a1 d1.length c1,.slice b1 n1.length e1,n1⟩ (.slice f1 s1.length g1) s1 (.slice h1 ks1.length j1) ks1).vals,x.ownBlock ≠ some B) := hno
       have HZB : Hid (B6 wr (w.heap.size + 1) (.int .i64 0) (.int .i64 0) (.slice none 0 0) (.slice none 0 0) (.slice none 0 0) (.slice none 0 0)) := hzb
       have HBW : Hid (Below w.heap.size w wr) := hbw
       have HJO : Hid (Stil.joined (MArm.mk ⟨k1,o1,d1,.slice a1 d1.length c1,.slice b1 n1.length e1,n1⟩ (.slice f1 s1.length g1) s1 (.slice h1 ks1.length j1) ks1).arm = T) := hjo
       have HMI : Hid (Stil.midOk 900000 (MArm.mk ⟨k1,o1,d1,.slice a1 d1.length c1,.slice b1 n1.length e1,n1⟩ (.slice f1 s1.length g1) s1 (.slice h1 ks1.length j1) ks1).arm) := hmid
       have HFN : Hid (Stil.armFine (MArm.mk ⟨k1,o1,d1,.slice a1 d1.length c1,.slice b1 n1.length e1,n1⟩ (.slice f1 s1.length g1) s1 (.slice h1 ks1.length j1) ks1).arm) := hfi
       have HGK : Hid (Stil.ksize (MArm.mk ⟨k1,o1,d1,.slice a1 d1.length c1,.slice b1 n1.length e1,n1⟩ (.slice f1 s1.length g1) s1 (.slice h1 ks1.length j1) ks1).arm.kids ≤ gk) := hgk
       have HB2 : Hid (w.heap.size + 2 ≤ B) := hB2
       have hkl : ks1.length ≤ 900000 ∧ s1.length ≤ 900000 := by
        have h0 := hmid.2
        rw [MArm.arm_eq,Stil.armSize_nsz] at h0
        simp only [List.length_map] at h0
        have h1 : (ks1.map MArm.arm).length ≤ Stil.ksize (ks1.map MArm.arm) := Stil.len_ksize _
        rw [List.length_map] at h1
        omega
       obtain ⟨hkl1,hkl2⟩ := hkl
       obtain ⟨hBs,⟨x0,x1,x2,x3,x4,x5⟩,hBf⟩ := hbx'
       obtain ⟨hZs,⟨z0,z1,z2,z3,z4,z5⟩,hZf⟩ := hzb
       have y0 := hZf 0 (by omega)
       have y1 := hZf 1 (by omega)
       have y2 := hZf 2 (by omega)
       have y3 := hZf 3 (by omega)
       have y4 := hZf 4 (by omega)
       have y5 := hZf 5 (by omega)
       have hBne : w.heap.size + 1 ≠ B := by omega
       clear hbx hao hno hbw hjo hmid hgk hB2 hZf hfi
       by_cases hk : ks1.length = 1
       ·obtain ⟨kid,rfl⟩ := List.length_eq_one_iff.1 hk
        obtain ⟨_,_,hkr,hka⟩ := (AOk_iff _ _ _).1 HAO.out.1
        simp only at hkr hka
        obtain ⟨k2,o2,d2,a2,c2,b2,e2,n2,f2,g2,s2,h2,j2,ks2,rfl⟩ := marm_form kid (hka kid (by simp))
        obtain ⟨g,rfl,hgs,q0,q1,q2,q3,q4,q5⟩ := kid_cells hkr
        simp only [List.length_singleton] at *
        have hkm := (AOk_iff _ _ _).1 (hka (MArm.mk ⟨k2,o2,d2,.slice a2 d2.length c2,.slice b2 n2.length e2,n2⟩ (.slice f2 s2.length g2) s2 (.slice h2 ks2.length j2) ks2) (by simp))
        obtain ⟨hf3,hf4⟩ := MOk.from _ hkm.1
        have HE : Hid ((MArm.mk ⟨k1,o1,d1,.slice a1 d1.length c1,.slice b1 n1.length e1,n1⟩ (.slice f1 s1.length g1) s1 (.slice (some ⟨g,0,none⟩) 1 j1) [(MArm.mk ⟨k2,o2,d2,.slice a2 d2.length c2,.slice b2 n2.length e2,n2⟩ (.slice f2 s2.length g2) s2 (.slice h2 ks2.length j2) ks2)]).arm = ⟨(MNet.mk k1 o1 d1 (.slice a1 d1.length c1) (.slice b1 n1.length e1) n1).net,s1.map MElem.elem,[⟨(MNet.mk k2 o2 d2 (.slice a2 d2.length c2) (.slice b2 n2.length e2) n2).net,s2.map MElem.elem,ks2.map MArm.arm⟩]⟩) := by
         show _ = _
         rw [MArm.arm_eq]
         simp only [List.map_cons,List.map_nil]
         rw [MArm.arm_eq (MArm.mk ⟨k2,o2,d2,.slice a2 d2.length c2,.slice b2 n2.length e2,n2⟩ (.slice f2 s2.length g2) s2 (.slice h2 ks2.length j2) ks2)]
        have hmi := HMI.out
        rw [HE.out] at hmi
        have hok := Stil.join_ok hmi (Nat.le_refl _)
        simp only at hok
        obtain ⟨hM2,hS2,hF1,hF2,hL2,hK2⟩ := hok
        simp only [List.length_map] at hL2
        have HN5 : Hid (∀ W,Below wr.heap.size wr W → Calls Tryz.prog 74 #[.agg #[.int .i64 k2,.int .i64 o2,.slice a2 d2.length c2,.slice b2 n2.length e2]] W fun e w' => e = .returned (.bool (Stil.netNone (MNet.mk k2 o2 d2 (.slice a2 d2.length c2) (.slice b2 n2.length e2) n2).net)) ∧ Below W.heap.size W w') := by
         intro W h
         have := s_netNone' (MNet.mk k2 o2 d2 (.slice a2 d2.length c2) (.slice b2 n2.length e2) n2).net _ _ W (hf3.at.below h) (hf4.at.below h) hF2
         have e := MNet.net_eq (MNet.mk k2 o2 d2 (.slice a2 d2.length c2) (.slice b2 n2.length e2) n2)
         have ee1 : (MNet.mk k2 o2 d2 (.slice a2 d2.length c2) (.slice b2 n2.length e2) n2).net.kind = k2 := by rw [e]
         have ee2 : (MNet.mk k2 o2 d2 (.slice a2 d2.length c2) (.slice b2 n2.length e2) n2).net.one.op = o2 := by rw [e]
         rw [ee1,ee2] at this
         exact this
        have hfn := HFN.out
        rw [HE.out] at hfn
        have hFI := Stil.join_fine hfn
        simp only at hFI
        have hPP := AOwn.parts HAO.out
        have HJ0 : Hid (∀ W,Below wr.heap.size wr W → Calls Tryz.prog 94 #[.agg #[.int .i64 k1,.int .i64 o1,.slice a1 d1.length c1,.slice b1 n1.length e1],.agg #[.int .i64 k2,.int .i64 o2,.slice a2 d2.length c2,.slice b2 n2.length e2]] W fun e w' => NetRetV w' (w.heap.size + 2) ((MNet.mk k1 o1 d1 (.slice a1 d1.length c1) (.slice b1 n1.length e1) n1).vals ++ (MNet.mk k2 o2 d2 (.slice a2 d2.length c2) (.slice b2 n2.length e2) n2).vals) W.heap.size (Stil.series (MNet.mk k1 o1 d1 (.slice a1 d1.length c1) (.slice b1 n1.length e1) n1).net (MNet.mk k2 o2 d2 (.slice a2 d2.length c2) (.slice b2 n2.length e2) n2).net) e ∧ Below W.heap.size W w') := fun W h => s_join k1 o1 d1 a1 c1 b1 e1 n1 k2 o2 d2 a2 c2 b2 e2 n2 (w.heap.size + 2) W (hPP.hna.below h) (hPP.hnk.below h) hPP.nets (Nat.le_trans (by have := HB2.out; omega) h.size) hS2 hFI.2.1 hFI.2.2 hF1 hF2
        have HIA : Hid (∀ y ∈ (MNet.mk k1 o1 d1 (.slice a1 d1.length c1) (.slice b1 n1.length e1) n1).vals ++ (MNet.mk k2 o2 d2 (.slice a2 d2.length c2) (.slice b2 n2.length e2) n2).vals ++ ((.slice f1 s1.length g1 :: (eVals s1 ++ eVals s2)) ++ (.slice h2 ks2.length j2 :: aVals ks2)),y ∈ (MArm.mk ⟨k1,o1,d1,.slice a1 d1.length c1,.slice b1 n1.length e1,n1⟩ (.slice f1 s1.length g1) s1 (.slice (some ⟨g,0,none⟩) 1 j1) [(MArm.mk ⟨k2,o2,d2,.slice a2 d2.length c2,.slice b2 n2.length e2,n2⟩ (.slice f2 s2.length g2) s2 (.slice h2 ks2.length j2) ks2)]).vals) := by
         intro y hy
         rw [MArm.vals_eq]
         simp only [aVals_one]
         rw [MArm.vals_eq (MArm.mk ⟨k2,o2,d2,.slice a2 d2.length c2,.slice b2 n2.length e2,n2⟩ (.slice f2 s2.length g2) s2 (.slice h2 ks2.length j2) ks2)]
         simp only [List.mem_append,List.mem_cons] at hy ⊢
         rcases hy with (hy | hy) | (hy | hy | hy) | hy | hy
         ·exact .inl hy
         ·exact .inr (.inr (.inr (.inl hy)))
         ·exact .inr (.inl (.inl hy))
         ·exact .inr (.inl (.inr hy))
         ·exact .inr (.inr (.inr (.inr (.inl (.inr hy)))))
         ·exact .inr (.inr (.inr (.inr (.inr (.inl hy)))))
         ·exact .inr (.inr (.inr (.inr (.inr (.inr hy)))))
        have HIN : Hid (∀ y ∈ (MNet.mk k1 o1 d1 (.slice a1 d1.length c1) (.slice b1 n1.length e1) n1).vals ++ (MNet.mk k2 o2 d2 (.slice a2 d2.length c2) (.slice b2 n2.length e2) n2).vals,y ∈ (MArm.mk ⟨k1,o1,d1,.slice a1 d1.length c1,.slice b1 n1.length e1,n1⟩ (.slice f1 s1.length g1) s1 (.slice (some ⟨g,0,none⟩) 1 j1) [(MArm.mk ⟨k2,o2,d2,.slice a2 d2.length c2,.slice b2 n2.length e2,n2⟩ (.slice f2 s2.length g2) s2 (.slice h2 ks2.length j2) ks2)]).vals) := fun y hy => HIA.out y (List.mem_append_left _ hy)
        have hvm : Value.slice f1 s1.length g1 ∈ (MArm.mk ⟨k1,o1,d1,.slice a1 d1.length c1,.slice b1 n1.length e1,n1⟩ (.slice f1 s1.length g1) s1 (.slice (some ⟨g,0,none⟩) 1 j1) [(MArm.mk ⟨k2,o2,d2,.slice a2 d2.length c2,.slice b2 n2.length e2,n2⟩ (.slice f2 s2.length g2) s2 (.slice h2 ks2.length j2) ks2)]).vals := by rw [MArm.vals_eq]; simp
        have HCB : Hid ((Value.slice f1 s1.length g1).ownBlock ≠ some B) := HNO.out _ hvm
        have HCW : Hid (∀ q,(Value.slice f1 s1.length g1).ownBlock = some q → w.heap.size ≤ q) := fun q hq => by have := (HAO.out.1.lt _ _ hvm q hq).1; omega
        have HCL : Hid (∀ q,(Value.slice f1 s1.length g1).ownBlock = some q → q < wr.heap.size) := fun q hq => (HAO.out.1.lt _ _ hvm q hq).2
        have HCZ : Hid ((Value.slice f1 s1.length g1).ownBlock ≠ some (w.heap.size + 1)) := fun e => by have := (HAO.out.1.lt _ _ hvm _ e).1; omega
        have HKM : Hid (Stil.ksize (ks2.map MArm.arm) < gk) := by
         have h1 := HGK.out
         rw [HE.out] at h1
         exact Nat.lt_of_lt_of_le hK2 h1
        have hjo2 := HJO.out
        rw [HE.out] at hjo2
        obtain ⟨X1,hX1⟩ : ∃ X,X = (MNet.mk k1 o1 d1 (.slice a1 d1.length c1) (.slice b1 n1.length e1) n1).net := ⟨_,rfl⟩
        obtain ⟨X2,hX2⟩ : ∃ X,X = (MNet.mk k2 o2 d2 (.slice a2 d2.length c2) (.slice b2 n2.length e2) n2).net := ⟨_,rfl⟩
        obtain ⟨t2,ht2⟩ : ∃ t,t = Stil.netNone (MNet.mk k2 o2 d2 (.slice a2 d2.length c2) (.slice b2 n2.length e2) n2).net := ⟨_,rfl⟩
        obtain ⟨ln,hln⟩ : ∃ ln,ln = s1.length := ⟨_,rfl⟩
        have HLN : Hid (ln = s1.length) := hln
        have HT2 : Hid (t2 = Stil.netNone (MNet.mk k2 o2 d2 (.slice a2 d2.length c2) (.slice b2 n2.length e2) n2).net) := ht2
        rw [← ht2] at HN5
        have HJ1 : Hid (s1.map MElem.elem = [] ∨ t2 = true → Stil.joined ⟨Stil.series X1 X2,s1.map MElem.elem ++ s2.map MElem.elem,ks2.map MArm.arm⟩ = T) := by
         intro h
         rw [hX1,hX2,← hjo2]
         exact (Stil.joined_step _ _ ⟨(MNet.mk k2 o2 d2 (.slice a2 d2.length c2) (.slice b2 n2.length e2) n2).net,s2.map MElem.elem,ks2.map MArm.arm⟩ (by rw [← ht2]; exact h)).symm
        have HM2 : Hid (Stil.midOk 900000 ⟨Stil.series X1 X2,s1.map MElem.elem ++ s2.map MElem.elem,ks2.map MArm.arm⟩) := by rw [hX1,hX2]; exact hM2
        have HFI2 : Hid (Stil.armFine ⟨Stil.series X1 X2,s1.map MElem.elem ++ s2.map MElem.elem,ks2.map MArm.arm⟩) := by rw [hX1,hX2]; exact hFI.1
        rw [← hX1,← hX2] at HJ0
        rw [← hln] at x4 HBX hkl2 HCB HCW HCZ HCL
        have HAO5 : Hid (∀ W,Below wr.heap.size wr W → AOwn W (w.heap.size + 2) (MArm.mk ⟨k1,o1,d1,.slice a1 d1.length c1,.slice b1 n1.length e1,n1⟩ (.slice f1 s1.length g1) s1 (.slice (some ⟨g,0,none⟩) 1 j1) [(MArm.mk ⟨k2,o2,d2,.slice a2 d2.length c2,.slice b2 n2.length e2,n2⟩ (.slice f2 s2.length g2) s2 (.slice h2 ks2.length j2) ks2)])) := fun W h => HAO.out.below h
        clear hk hkr hka hkm hf3 hf4 hmi hM2 hS2 hF1 hF2 hK2 hjo2 hX1 hX2 ht2 hln hvm HAO hkl1 hfn hFI hPP
        by_cases hc : 0 < ln
        ·have hcb : ((ln : Int) == 0) = false := by rw [beq_eq_false_iff_ne]; omega
         have hcc : ¬ ((ln : Int) = 0) := by omega
         cases t2 with
         | false =>
          clear HJ0 HJ1 hBf
          go_wp2_with (go_at_call 74; refine (HN5.out _ blA).mono ?_; rintro e w4 ⟨rfl,hb4⟩; obtain ⟨hc4,hf4⟩ := bcell hb4; have hBs4 : B < w4.heap.size := Nat.lt_of_lt_of_le hBs hb4.size; have hZs4 : w.heap.size + 1 < w4.heap.size := Nat.lt_of_lt_of_le hZs hb4.size; have cx0 : w4.cell? ⟨B,0,none⟩ = _ := (hc4 _ _ hBs).trans x0; have cx1 : w4.cell? ⟨B,1,none⟩ = _ := (hc4 _ _ hBs).trans x1; have cx2 : w4.cell? ⟨B,2,none⟩ = _ := (hc4 _ _ hBs).trans x2; have cx3 : w4.cell? ⟨B,3,none⟩ = _ := (hc4 _ _ hBs).trans x3; have cx4 : w4.cell? ⟨B,4,none⟩ = _ := (hc4 _ _ hBs).trans x4; have cx5 : w4.cell? ⟨B,5,none⟩ = _ := (hc4 _ _ hBs).trans x5; have v0 : w4.cell? ⟨w.heap.size + 1,0,none⟩ = _ := (hc4 _ _ hZs).trans z0; have v1 : w4.cell? ⟨w.heap.size + 1,1,none⟩ = _ := (hc4 _ _ hZs).trans z1; have v2 : w4.cell? ⟨w.heap.size + 1,2,none⟩ = _ := (hc4 _ _ hZs).trans z2; have v3 : w4.cell? ⟨w.heap.size + 1,3,none⟩ = _ := (hc4 _ _ hZs).trans z3; have v4 : w4.cell? ⟨w.heap.size + 1,4,none⟩ = _ := (hc4 _ _ hZs).trans z4; have v5 : w4.cell? ⟨w.heap.size + 1,5,none⟩ = _ := (hc4 _ _ hZs).trans z5; have vf0 : w4.frozen? ⟨w.heap.size + 1,0,none⟩ = _ := (hf4 _ _ hZs).trans y0; have vf1 : w4.frozen? ⟨w.heap.size + 1,1,none⟩ = _ := (hf4 _ _ hZs).trans y1; have vf2 : w4.frozen? ⟨w.heap.size + 1,2,none⟩ = _ := (hf4 _ _ hZs).trans y2; have vf3 : w4.frozen? ⟨w.heap.size + 1,3,none⟩ = _ := (hf4 _ _ hZs).trans y3; have vf4 : w4.frozen? ⟨w.heap.size + 1,4,none⟩ = _ := (hf4 _ _ hZs).trans y4; have vf5 : w4.frozen? ⟨w.heap.size + 1,5,none⟩ = _ := (hf4 _ _ hZs).trans y5; clear hc4 hf4)
          have HBW5 : Hid (Below w.heap.size w w4) := bl_call HBW.out hb4
          have HAO5' := HAO5.out w4 hb4
          refine bodyPost_ret (v := .agg #[.int .i64 k1,.int .i64 o1,.slice a1 d1.length c1,.slice b1 n1.length e1,.slice f1 ln g1,.slice (some ⟨g,0,none⟩) 1 j1]) (by simp [results,Tryz.results52,go_sem,v0,v1,v2,v3,v4,v5]) rfl ⟨⟨k1,o1,d1,a1,c1,n1,b1,e1,s1,f1,g1,[(MArm.mk ⟨k2,o2,d2,.slice a2 d2.length c2,.slice b2 n2.length e2,n2⟩ (.slice f2 s2.length g2) s2 (.slice h2 ks2.length j2) ks2)],(some ⟨g,0,none⟩),j1,by rw [← HLN.out]; rfl,?_,?_⟩,?_⟩
          ·exact AOwn.le (AOwn.setO6 (base := w.heap.size + 2) HAO5' (fun x hx e => by have := ((HAO5').1.lt _ x hx _ e).1; omega)) (by omega)
          ·rw [← HJO.out]
           refine (Stil.joined_stop _ ?_).symm
           intro kid e h
           have e' := (congrArg Stil.Arm.kids HE.out).symm.trans e
           simp only [List.cons.injEq,and_true] at e'
           rcases h with h | h
           ·have h2 := congrArg List.length ((congrArg Stil.Arm.coils HE.out).symm.trans h)
            simp only [List.length_map,List.length_nil] at h2
            have := HLN.out
            omega
           ·rw [← e'] at h
            simp only at h
            rw [← HT2.out] at h
            cases h
          ·exact bl_set (Nat.le_succ _) (bl_set (Nat.le_succ _) (bl_set (Nat.le_succ _) (bl_set (Nat.le_succ _) (bl_set (Nat.le_succ _) (bl_set (Nat.le_succ _) HBW5.out _) _) _) _) _) _

         | true =>
          have HJ2 : Hid (Stil.joined ⟨Stil.series X1 X2,s1.map MElem.elem ++ s2.map MElem.elem,ks2.map MArm.arm⟩ = T) := HJ1.out (.inr rfl)
          clear HJ1 hBf HE HT2 z0 z1 z2 z3 z4 z5 y0 y1 y2 y3 y4 y5
          go_upto_region 9 with (go_at_call 74; refine (HN5.out _ blA).mono ?_; rintro e w4 ⟨rfl,hb4⟩; obtain ⟨hc4,hf4⟩ := bcell hb4; have hBs4 : B < w4.heap.size := Nat.lt_of_lt_of_le hBs hb4.size; have hZs4 : w.heap.size + 1 < w4.heap.size := Nat.lt_of_lt_of_le hZs hb4.size; have cx0 : w4.cell? ⟨B,0,none⟩ = _ := (hc4 _ _ hBs).trans x0; have cx1 : w4.cell? ⟨B,1,none⟩ = _ := (hc4 _ _ hBs).trans x1; have cx2 : w4.cell? ⟨B,2,none⟩ = _ := (hc4 _ _ hBs).trans x2; have cx3 : w4.cell? ⟨B,3,none⟩ = _ := (hc4 _ _ hBs).trans x3; have cx4 : w4.cell? ⟨B,4,none⟩ = _ := (hc4 _ _ hBs).trans x4; have cx5 : w4.cell? ⟨B,5,none⟩ = _ := (hc4 _ _ hBs).trans x5; have Q0 : w4.cell? ⟨g,0,none⟩ = _ := (hc4 _ _ hgs).trans q0; have Q1 : w4.cell? ⟨g,1,none⟩ = _ := (hc4 _ _ hgs).trans q1; have Q2 : w4.cell? ⟨g,2,none⟩ = _ := (hc4 _ _ hgs).trans q2; have Q3 : w4.cell? ⟨g,3,none⟩ = _ := (hc4 _ _ hgs).trans q3; have Q4 : w4.cell? ⟨g,4,none⟩ = _ := (hc4 _ _ hgs).trans q4; have Q5 : w4.cell? ⟨g,5,none⟩ = _ := (hc4 _ _ hgs).trans q5; have hgs4 : g < w4.heap.size := Nat.lt_of_lt_of_le hgs hb4.size; clear hc4 hf4)
          have HBXV : Hid (B6 w4 B (.int .i64 k1) (.int .i64 o1) (.slice a1 d1.length c1) (.slice b1 n1.length e1) (.slice f1 ln g1) (.slice (some ⟨g,0,none⟩) 1 j1)) := HBX.out.at hb4
          have HZBV : Hid (B6 w4 (w.heap.size + 1) (.int .i64 0) (.int .i64 0) (.slice none 0 0) (.slice none 0 0) (.slice none 0 0) (.slice none 0 0)) := HZB.out.at hb4
          have HBWV : Hid (Below w.heap.size w w4) := bl_call HBW.out hb4
          have HAOV : Hid (AOwn w4 (w.heap.size + 2) (MArm.mk ⟨k1,o1,d1,.slice a1 d1.length c1,.slice b1 n1.length e1,n1⟩ (.slice f1 s1.length g1) s1 (.slice (some ⟨g,0,none⟩) 1 j1) [(MArm.mk ⟨k2,o2,d2,.slice a2 d2.length c2,.slice b2 n2.length e2,n2⟩ (.slice f2 s2.length g2) s2 (.slice h2 ks2.length j2) ks2)])) := HAO5.out w4 hb4
          have HJNV : Hid (∀ W,Below w4.heap.size w4 W → Calls Tryz.prog 94 #[.agg #[.int .i64 k1,.int .i64 o1,.slice a1 d1.length c1,.slice b1 n1.length e1],.agg #[.int .i64 k2,.int .i64 o2,.slice a2 d2.length c2,.slice b2 n2.length e2]] W fun e w' => NetRetV w' (w.heap.size + 2) ((MNet.mk k1 o1 d1 (.slice a1 d1.length c1) (.slice b1 n1.length e1) n1).vals ++ (MNet.mk k2 o2 d2 (.slice a2 d2.length c2) (.slice b2 n2.length e2) n2).vals) W.heap.size (Stil.series X1 X2) e ∧ Below W.heap.size W w') := fun W h => HJ0.out W (bl_call hb4 h)
          have hsz4 := hb4.size
          clear HJ0 x0 x1 x2 x3 x4 x5 q0 q1 q2 q3 q4 q5 hb4 HN5 HAO5
          obtain ⟨V1,hV1⟩ : ∃ V1,V1 = w4.alloc (.cells #[.int .i64 k2,.int .i64 o2,.slice a2 d2.length c2,.slice b2 n2.length e2,.slice f2 s2.length g2,.slice h2 ks2.length j2] 36) := ⟨_,rfl⟩
          have hbV : Below w4.heap.size w4 V1 := by rw [hV1]; exact below_alloc _ _
          have hsV : V1.heap.size = w4.heap.size + 1 := by rw [hV1]; simp
          have HSV : Hid (V1.heap.size = w4.heap.size + 1) := hsV
          have HK1 : Hid (B6 V1 w4.heap.size (.int .i64 k2) (.int .i64 o2) (.slice a2 d2.length c2) (.slice b2 n2.length e2) (.slice f2 s2.length g2) (.slice h2 ks2.length j2)) := by rw [hV1]; exact B6.new _ _ _ _ _ _ _ _
          have HBX1 : Hid (B6 V1 B (.int .i64 k1) (.int .i64 o1) (.slice a1 d1.length c1) (.slice b1 n1.length e1) (.slice f1 ln g1) (.slice (some ⟨g,0,none⟩) 1 j1)) := HBXV.out.at hbV
          have HZB1 : Hid (B6 V1 (w.heap.size + 1) (.int .i64 0) (.int .i64 0) (.slice none 0 0) (.slice none 0 0) (.slice none 0 0) (.slice none 0 0)) := HZBV.out.at hbV
          have HBW1 : Hid (Below w.heap.size w V1) := bl_call HBWV.out hbV
          have HAO1 : Hid (AOwn V1 (w.heap.size + 2) (MArm.mk ⟨k1,o1,d1,.slice a1 d1.length c1,.slice b1 n1.length e1,n1⟩ (.slice f1 s1.length g1) s1 (.slice (some ⟨g,0,none⟩) 1 j1) [(MArm.mk ⟨k2,o2,d2,.slice a2 d2.length c2,.slice b2 n2.length e2,n2⟩ (.slice f2 s2.length g2) s2 (.slice h2 ks2.length j2) ks2)])) := HAOV.out.below hbV
          have HJ1' : Hid (Calls Tryz.prog 94 #[.agg #[.int .i64 k1,.int .i64 o1,.slice a1 d1.length c1,.slice b1 n1.length e1],.agg #[.int .i64 k2,.int .i64 o2,.slice a2 d2.length c2,.slice b2 n2.length e2]] V1 fun e w' => NetRetV w' (w.heap.size + 2) ((MNet.mk k1 o1 d1 (.slice a1 d1.length c1) (.slice b1 n1.length e1) n1).vals ++ (MNet.mk k2 o2 d2 (.slice a2 d2.length c2) (.slice b2 n2.length e2) n2).vals) V1.heap.size (Stil.series X1 X2) e ∧ Below V1.heap.size V1 w') := HJNV.out V1 hbV
          have hBK : B ≠ w4.heap.size := Nat.ne_of_lt HBXV.out.1
          have hl1 : B < V1.heap.size := HBX1.out.1
          have hl2 : w4.heap.size < V1.heap.size := by omega
          clear hsV
          go_upto_region 10 with fail
          rw [← hV1]
          clear hV1 HJNV
          obtain ⟨_,⟨k20,k21,k22,k23,k24,k25⟩,_⟩ := HK1.out
          obtain ⟨_,⟨bx0,bx1,bx2,bx3,bx4,bx5⟩,hbf⟩ := HBX1.out
          go_upto_region 11 with (go_at_call 94; refine HJ1'.out.mono ?_; rintro e w5 ⟨⟨mk,mop,mds,x0,y0,x1,y1,mks,rfl,hmo,hmn,hvs⟩,hb5⟩; have HMO : Hid (MOwn w5 (w.heap.size + 2) (MNet.mk mk mop mds (.slice x0 mds.length y0) (.slice x1 mks.length y1) mks)) := hmo; have HMN : Hid ((MNet.mk mk mop mds (.slice x0 mds.length y0) (.slice x1 mks.length y1) mks).net = Stil.series X1 X2) := hmn; have HVS : Hid (∀ x ∈ (MNet.mk mk mop mds (.slice x0 mds.length y0) (.slice x1 mks.length y1) mks).vals,x ∈ (MNet.mk k1 o1 d1 (.slice a1 d1.length c1) (.slice b1 n1.length e1) n1).vals ++ (MNet.mk k2 o2 d2 (.slice a2 d2.length c2) (.slice b2 n2.length e2) n2).vals ∨ ∀ q,x.ownBlock = some q → V1.heap.size ≤ q) := hvs; have HBX5 : Hid (B6 w5 B (.int .i64 k1) (.int .i64 o1) (.slice a1 d1.length c1) (.slice b1 n1.length e1) (.slice f1 ln g1) (.slice (some ⟨g,0,none⟩) 1 j1)) := HBX1.out.at hb5; have HK5 : Hid (B6 w5 w4.heap.size (.int .i64 k2) (.int .i64 o2) (.slice a2 d2.length c2) (.slice b2 n2.length e2) (.slice f2 s2.length g2) (.slice h2 ks2.length j2)) := HK1.out.at hb5; obtain ⟨hB5,⟨t0,t1,t2,t3,_,_⟩,tf⟩ := HBX5.out; have u0 := tf 0 (by omega); have u1 := tf 1 (by omega); have u2 := tf 2 (by omega); have u3 := tf 3 (by omega); clear hmo hmn hvs tf)
          obtain ⟨W6,hW6⟩ : ∃ W6,W6 = ((((w5.setCell ⟨B,0,none⟩ (.int .i64 mk)).setCell ⟨B,1,none⟩ (.int .i64 mop)).setCell ⟨B,2,none⟩ (.slice x0 mds.length y0)).setCell ⟨B,3,none⟩ (.slice x1 mks.length y1)) := ⟨_,rfl⟩
          rw [← hW6]
          have HBX6 : Hid (B6 W6 B (.int .i64 mk) (.int .i64 mop) (.slice x0 mds.length y0) (.slice x1 mks.length y1) (.slice f1 ln g1) (.slice (some ⟨g,0,none⟩) 1 j1)) := by rw [hW6]; exact HBX5.out.setN
          have HK6 : Hid (B6 W6 w4.heap.size (.int .i64 k2) (.int .i64 o2) (.slice a2 d2.length c2) (.slice b2 n2.length e2) (.slice f2 s2.length g2) (.slice h2 ks2.length j2)) := by rw [hW6]; exact HK5.out.set4O (Ne.symm hBK)
          have HZB6 : Hid (B6 W6 (w.heap.size + 1) (.int .i64 0) (.int .i64 0) (.slice none 0 0) (.slice none 0 0) (.slice none 0 0) (.slice none 0 0)) := by rw [hW6]; exact (HZB1.out.at hb5).set4O hBne
          have hle : w.heap.size ≤ B := by have := HB2.out; omega
          have HBW6 : Hid (Below w.heap.size w W6) := by rw [hW6]; exact bl_set hle (bl_set hle (bl_set hle (bl_set hle (bl_call HBW1.out hb5) _) _) _) _
          have hmb : ∀ x ∈ (MNet.mk mk mop mds (.slice x0 mds.length y0) (.slice x1 mks.length y1) mks).vals,x.ownBlock ≠ some B := by
           intro x hx e
           rcases HVS.out x hx with h | h
           ·exact HNO.out x (HIN.out x h) e
           ·have := h _ e; omega
          have HMO6 : Hid (MOwn W6 (w.heap.size + 2) (MNet.mk mk mop mds (.slice x0 mds.length y0) (.slice x1 mks.length y1) mks)) := by rw [hW6]; exact MOwn.setO4 HMO.out hmb
          have hb6 : Below V1.heap.size ((((V1.setCell ⟨B,0,none⟩ (.int .i64 mk)).setCell ⟨B,1,none⟩ (.int .i64 mop)).setCell ⟨B,2,none⟩ (.slice x0 mds.length y0)).setCell ⟨B,3,none⟩ (.slice x1 mks.length y1)) W6 := by rw [hW6]; exact below_both4 hb5
          have hsU : (((((V1.setCell ⟨B,0,none⟩ (.int .i64 mk)).setCell ⟨B,1,none⟩ (.int .i64 mop)).setCell ⟨B,2,none⟩ (.slice x0 mds.length y0)).setCell ⟨B,3,none⟩ (.slice x1 mks.length y1))).heap.size = V1.heap.size := by simp
          have hP : Parts ((((V1.setCell ⟨B,0,none⟩ (.int .i64 mk)).setCell ⟨B,1,none⟩ (.int .i64 mop)).setCell ⟨B,2,none⟩ (.slice x0 mds.length y0)).setCell ⟨B,3,none⟩ (.slice x1 mks.length y1)) (w.heap.size + 2) (MNet.mk k1 o1 d1 (.slice a1 d1.length c1) (.slice b1 n1.length e1) n1) (MNet.mk k2 o2 d2 (.slice a2 d2.length c2) (.slice b2 n2.length e2) n2) (.slice f1 s1.length g1) s1 (.slice f2 s2.length g2) s2 (.slice h2 ks2.length j2) ks2 := (AOwn.setN HAO1.out HNO.out).parts
          have hb6' : Below (((((V1.setCell ⟨B,0,none⟩ (.int .i64 mk)).setCell ⟨B,1,none⟩ (.int .i64 mop)).setCell ⟨B,2,none⟩ (.slice x0 mds.length y0)).setCell ⟨B,3,none⟩ (.slice x1 mks.length y1))).heap.size ((((V1.setCell ⟨B,0,none⟩ (.int .i64 mk)).setCell ⟨B,1,none⟩ (.int .i64 mop)).setCell ⟨B,2,none⟩ (.slice x0 mds.length y0)).setCell ⟨B,3,none⟩ (.slice x1 mks.length y1)) W6 := by rw [hsU]; exact hb6
          have HP6 : Hid (Parts W6 (w.heap.size + 2) (MNet.mk k1 o1 d1 (.slice a1 d1.length c1) (.slice b1 n1.length e1) n1) (MNet.mk k2 o2 d2 (.slice a2 d2.length c2) (.slice b2 n2.length e2) n2) (.slice f1 s1.length g1) s1 (.slice f2 s2.length g2) s2 (.slice h2 ks2.length j2) ks2) := hP.below hb6'
          have HPJ : Hid (∀ w7 a7 c7,ERow w7 (w.heap.size + 2) (.slice a7 (ln + s2.length) c7) (s1 ++ s2) → W6.grownBy w7 (Value.slice f1 ln g1).ownBlock → ((Value.slice a7 (ln + s2.length) c7).ownBlock = (Value.slice f1 ln g1).ownBlock ∨ (Value.slice a7 (ln + s2.length) c7).ownBlock = some W6.heap.size) → AOwn w7 (w.heap.size + 2) ⟨(MNet.mk mk mop mds (.slice x0 mds.length y0) (.slice x1 mks.length y1) mks),.slice a7 (ln + s2.length) c7,s1 ++ s2,.slice h2 ks2.length j2,ks2⟩ ∧ ∀ x ∈ (MArm.mk (MNet.mk mk mop mds (.slice x0 mds.length y0) (.slice x1 mks.length y1) mks) (.slice a7 (ln + s2.length) c7) (s1 ++ s2) (.slice h2 ks2.length j2) ks2).vals,x.ownBlock ≠ some B) := by
           intro w7 a7 c7 he hg hat
           have hll : (ln : Nat) = s1.length := HLN.out
           rw [hll] at hg hat he ⊢
           have hj := hP.join (lo := V1.heap.size) hb6' HMO6.out HVS.out (by rw [hsU]; exact Nat.le_refl _) (by rw [← hsU]; exact hb6.size) he hg hat
           refine ⟨hj.1,fun x hx e => ?_⟩
           rcases hj.2 x hx _ e with ⟨_,y,hy,e2⟩ | h1
           ·exact HNO.out y (HIA.out y hy) e2
           ·omega
          have HKX : Hid (0 < s2.length → ∃ p,f2 = some p ∧ ∀ j u,(eCells s2)[j]? = some u → W6.cell? (p.add j) = some u) := by
           intro hz
           obtain ⟨gg,cc,hv,_,_,_,hcell⟩ := ownsRow_cells HP6.out.ckr hz
           simp only [Value.slice.injEq] at hv
           exact ⟨⟨gg,0,none⟩,hv.1,fun j u hu => by rw [Addr.add_lit]; simpa using hcell j u hu⟩
          have hbs6 : w.heap.size + 2 ≤ W6.heap.size := by have := HBX6.out.1; have := HB2.out; omega
          have hK6 : w4.heap.size < W6.heap.size := HK6.out.1
          have hB6l : B < W6.heap.size := HBX6.out.1
          obtain ⟨_,⟨_,_,_,_,v4,_⟩,_⟩ := HBX6.out
          obtain ⟨_,⟨_,_,_,_,kk4,_⟩,_⟩ := HK6.out
          clear hW6 hb6 hb6' hP hsU hmb bx0 bx1 bx2 bx3 bx4 bx5 hbf k20 k21 k22 k23 k24 k25 t0 t1 t2 t3 u0 u1 u2 u3 HJ1'
          go_wp2_with (at_builtin; refine wpList_raw_elems rfl _ _ rfl (w.heap.size + 2) f1 g1 ln s1 s2 HLN.out f2 g2 rfl rfl HP6.out.hca HKX.out HP6.out.hck HP6.out.coils hL2 hbs6 ?_; intro a7 c7 w7 hmr7 hgr7 hat7; have HM7 : Hid (AOwn w7 (w.heap.size + 2) ⟨(MNet.mk mk mop mds (.slice x0 mds.length y0) (.slice x1 mks.length y1) mks),.slice a7 (ln + s2.length) c7,s1 ++ s2,.slice h2 ks2.length j2,ks2⟩ ∧ ∀ x ∈ (MArm.mk (MNet.mk mk mop mds (.slice x0 mds.length y0) (.slice x1 mks.length y1) mks) (.slice a7 (ln + s2.length) c7) (s1 ++ s2) (.slice h2 ks2.length j2) ks2).vals,x.ownBlock ≠ some B) := HPJ.out w7 a7 c7 hmr7 hgr7 hat7; have HG7 : Hid (W6.grownBy w7 (Value.slice f1 ln g1).ownBlock) := hgr7; have HBX7 : Hid (B6 w7 B (.int .i64 mk) (.int .i64 mop) (.slice x0 mds.length y0) (.slice x1 mks.length y1) (.slice f1 ln g1) (.slice (some ⟨g,0,none⟩) 1 j1)) := HBX6.out.grown hgr7 HCB.out; have HK7 : Hid (B6 w7 w4.heap.size (.int .i64 k2) (.int .i64 o2) (.slice a2 d2.length c2) (.slice b2 n2.length e2) (.slice f2 s2.length g2) (.slice h2 ks2.length j2)) := HK6.out.grown hgr7 (fun e => by have h0 := HCL.out _ e; omega); obtain ⟨_,⟨_,_,_,_,w74,w75⟩,tf7⟩ := HBX7.out; obtain ⟨_,⟨_,_,_,_,_,k75⟩,_⟩ := HK7.out; have u74 := tf7 4 (by omega); have u75 := tf7 5 (by omega); clear hmr7 hgr7 hat7 tf7)
          go_roundg (Stil.ksize (ks2.map MArm.arm))
          rotate_left
          ·exact HKM.out
          ·have hm7 := HM7.out
           refine ⟨⟨(MNet.mk mk mop mds (.slice x0 mds.length y0) (.slice x1 mks.length y1) mks),.slice a7 (ln + s2.length) c7,s1 ++ s2,.slice h2 ks2.length j2,ks2⟩,⟨HB2.out,B6.set5 (B6.set4 HBX7.out _) _,AOwn.setO (AOwn.setO hm7.1 (a := ⟨B,4,none⟩) hm7.2 _) (a := ⟨B,5,none⟩) hm7.2 _,hm7.2,B6.setO (B6.setO (HZB6.out.grown HG7.out HCZ.out) hBne _) hBne _,?_⟩,?_,?_,?_,?_⟩
           ·exact bl_set hle (bl_set hle (HBW6.out.grown HG7.out HBW6.out.size HCW.out) _) _
           ·rw [MArm.arm_eq]; simp only; rw [HMN.out,List.map_append]; exact HJ2.out
           ·rw [MArm.arm_eq]; simp only; rw [HMN.out,List.map_append]; exact HM2.out
           ·rw [MArm.arm_eq]; simp only; rw [HMN.out,List.map_append]; exact HFI2.out
           ·rw [MArm.arm_eq]; exact Nat.le_refl _

        ·obtain rfl : ln = 0 := by omega
         have HJ2 : Hid (Stil.joined ⟨Stil.series X1 X2,s1.map MElem.elem ++ s2.map MElem.elem,ks2.map MArm.arm⟩ = T) := HJ1.out (.inl (by rw [List.length_eq_zero_iff.1 HLN.out.symm]; rfl))
         clear HJ1 hBf HE HT2 z0 z1 z2 z3 z4 z5 y0 y1 y2 y3 y4 y5 HN5
         go_upto_region 9 with fail
         have HBXV : Hid (B6 wr B (.int .i64 k1) (.int .i64 o1) (.slice a1 d1.length c1) (.slice b1 n1.length e1) (.slice f1 0 g1) (.slice (some ⟨g,0,none⟩) 1 j1)) := HBX.out
         have HZBV : Hid (B6 wr (w.heap.size + 1) (.int .i64 0) (.int .i64 0) (.slice none 0 0) (.slice none 0 0) (.slice none 0 0) (.slice none 0 0)) := HZB.out
         have HBWV : Hid (Below w.heap.size w wr) := HBW.out
         have HAOV : Hid (AOwn wr (w.heap.size + 2) (MArm.mk ⟨k1,o1,d1,.slice a1 d1.length c1,.slice b1 n1.length e1,n1⟩ (.slice f1 s1.length g1) s1 (.slice (some ⟨g,0,none⟩) 1 j1) [(MArm.mk ⟨k2,o2,d2,.slice a2 d2.length c2,.slice b2 n2.length e2,n2⟩ (.slice f2 s2.length g2) s2 (.slice h2 ks2.length j2) ks2)])) := HAO5.out wr (Below.refl _ _)
         have HJNV : Hid (∀ W,Below wr.heap.size wr W → Calls Tryz.prog 94 #[.agg #[.int .i64 k1,.int .i64 o1,.slice a1 d1.length c1,.slice b1 n1.length e1],.agg #[.int .i64 k2,.int .i64 o2,.slice a2 d2.length c2,.slice b2 n2.length e2]] W fun e w' => NetRetV w' (w.heap.size + 2) ((MNet.mk k1 o1 d1 (.slice a1 d1.length c1) (.slice b1 n1.length e1) n1).vals ++ (MNet.mk k2 o2 d2 (.slice a2 d2.length c2) (.slice b2 n2.length e2) n2).vals) W.heap.size (Stil.series X1 X2) e ∧ Below W.heap.size W w') := HJ0.out
         clear HJ0 HAO5
         obtain ⟨V1,hV1⟩ : ∃ V1,V1 = wr.alloc (.cells #[.int .i64 k2,.int .i64 o2,.slice a2 d2.length c2,.slice b2 n2.length e2,.slice f2 s2.length g2,.slice h2 ks2.length j2] 36) := ⟨_,rfl⟩
         have hbV : Below wr.heap.size wr V1 := by rw [hV1]; exact below_alloc _ _
         have hsV : V1.heap.size = wr.heap.size + 1 := by rw [hV1]; simp
         have HSV : Hid (V1.heap.size = wr.heap.size + 1) := hsV
         have HK1 : Hid (B6 V1 wr.heap.size (.int .i64 k2) (.int .i64 o2) (.slice a2 d2.length c2) (.slice b2 n2.length e2) (.slice f2 s2.length g2) (.slice h2 ks2.length j2)) := by rw [hV1]; exact B6.new _ _ _ _ _ _ _ _
         have HBX1 : Hid (B6 V1 B (.int .i64 k1) (.int .i64 o1) (.slice a1 d1.length c1) (.slice b1 n1.length e1) (.slice f1 0 g1) (.slice (some ⟨g,0,none⟩) 1 j1)) := HBXV.out.at hbV
         have HZB1 : Hid (B6 V1 (w.heap.size + 1) (.int .i64 0) (.int .i64 0) (.slice none 0 0) (.slice none 0 0) (.slice none 0 0) (.slice none 0 0)) := HZBV.out.at hbV
         have HBW1 : Hid (Below w.heap.size w V1) := bl_call HBWV.out hbV
         have HAO1 : Hid (AOwn V1 (w.heap.size + 2) (MArm.mk ⟨k1,o1,d1,.slice a1 d1.length c1,.slice b1 n1.length e1,n1⟩ (.slice f1 s1.length g1) s1 (.slice (some ⟨g,0,none⟩) 1 j1) [(MArm.mk ⟨k2,o2,d2,.slice a2 d2.length c2,.slice b2 n2.length e2,n2⟩ (.slice f2 s2.length g2) s2 (.slice h2 ks2.length j2) ks2)])) := HAOV.out.below hbV
         have HJ1' : Hid (Calls Tryz.prog 94 #[.agg #[.int .i64 k1,.int .i64 o1,.slice a1 d1.length c1,.slice b1 n1.length e1],.agg #[.int .i64 k2,.int .i64 o2,.slice a2 d2.length c2,.slice b2 n2.length e2]] V1 fun e w' => NetRetV w' (w.heap.size + 2) ((MNet.mk k1 o1 d1 (.slice a1 d1.length c1) (.slice b1 n1.length e1) n1).vals ++ (MNet.mk k2 o2 d2 (.slice a2 d2.length c2) (.slice b2 n2.length e2) n2).vals) V1.heap.size (Stil.series X1 X2) e ∧ Below V1.heap.size V1 w') := HJNV.out V1 hbV
         have hBK : B ≠ wr.heap.size := Nat.ne_of_lt HBXV.out.1
         have hl1 : B < V1.heap.size := HBX1.out.1
         have hl2 : wr.heap.size < V1.heap.size := by omega
         clear hsV
         go_upto_region 10 with fail
         rw [← hV1]
         clear hV1 HJNV
         obtain ⟨_,⟨k20,k21,k22,k23,k24,k25⟩,_⟩ := HK1.out
         obtain ⟨_,⟨bx0,bx1,bx2,bx3,bx4,bx5⟩,hbf⟩ := HBX1.out
         go_upto_region 11 with (go_at_call 94; refine HJ1'.out.mono ?_; rintro e w5 ⟨⟨mk,mop,mds,x0,y0,x1,y1,mks,rfl,hmo,hmn,hvs⟩,hb5⟩; have HMO : Hid (MOwn w5 (w.heap.size + 2) (MNet.mk mk mop mds (.slice x0 mds.length y0) (.slice x1 mks.length y1) mks)) := hmo; have HMN : Hid ((MNet.mk mk mop mds (.slice x0 mds.length y0) (.slice x1 mks.length y1) mks).net = Stil.series X1 X2) := hmn; have HVS : Hid (∀ x ∈ (MNet.mk mk mop mds (.slice x0 mds.length y0) (.slice x1 mks.length y1) mks).vals,x ∈ (MNet.mk k1 o1 d1 (.slice a1 d1.length c1) (.slice b1 n1.length e1) n1).vals ++ (MNet.mk k2 o2 d2 (.slice a2 d2.length c2) (.slice b2 n2.length e2) n2).vals ∨ ∀ q,x.ownBlock = some q → V1.heap.size ≤ q) := hvs; have HBX5 : Hid (B6 w5 B (.int .i64 k1) (.int .i64 o1) (.slice a1 d1.length c1) (.slice b1 n1.length e1) (.slice f1 0 g1) (.slice (some ⟨g,0,none⟩) 1 j1)) := HBX1.out.at hb5; have HK5 : Hid (B6 w5 wr.heap.size (.int .i64 k2) (.int .i64 o2) (.slice a2 d2.length c2) (.slice b2 n2.length e2) (.slice f2 s2.length g2) (.slice h2 ks2.length j2)) := HK1.out.at hb5; obtain ⟨hB5,⟨t0,t1,t2,t3,_,_⟩,tf⟩ := HBX5.out; have u0 := tf 0 (by omega); have u1 := tf 1 (by omega); have u2 := tf 2 (by omega); have u3 := tf 3 (by omega); clear hmo hmn hvs tf)
         obtain ⟨W6,hW6⟩ : ∃ W6,W6 = ((((w5.setCell ⟨B,0,none⟩ (.int .i64 mk)).setCell ⟨B,1,none⟩ (.int .i64 mop)).setCell ⟨B,2,none⟩ (.slice x0 mds.length y0)).setCell ⟨B,3,none⟩ (.slice x1 mks.length y1)) := ⟨_,rfl⟩
         rw [← hW6]
         have HBX6 : Hid (B6 W6 B (.int .i64 mk) (.int .i64 mop) (.slice x0 mds.length y0) (.slice x1 mks.length y1) (.slice f1 0 g1) (.slice (some ⟨g,0,none⟩) 1 j1)) := by rw [hW6]; exact HBX5.out.setN
         have HK6 : Hid (B6 W6 wr.heap.size (.int .i64 k2) (.int .i64 o2) (.slice a2 d2.length c2) (.slice b2 n2.length e2) (.slice f2 s2.length g2) (.slice h2 ks2.length j2)) := by rw [hW6]; exact HK5.out.set4O (Ne.symm hBK)
         have HZB6 : Hid (B6 W6 (w.heap.size + 1) (.int .i64 0) (.int .i64 0) (.slice none 0 0) (.slice none 0 0) (.slice none 0 0) (.slice none 0 0)) := by rw [hW6]; exact (HZB1.out.at hb5).set4O hBne
         have hle : w.heap.size ≤ B := by have := HB2.out; omega
         have HBW6 : Hid (Below w.heap.size w W6) := by rw [hW6]; exact bl_set hle (bl_set hle (bl_set hle (bl_set hle (bl_call HBW1.out hb5) _) _) _) _
         have hmb : ∀ x ∈ (MNet.mk mk mop mds (.slice x0 mds.length y0) (.slice x1 mks.length y1) mks).vals,x.ownBlock ≠ some B := by
          intro x hx e
          rcases HVS.out x hx with h | h
          ·exact HNO.out x (HIN.out x h) e
          ·have := h _ e; omega
         have HMO6 : Hid (MOwn W6 (w.heap.size + 2) (MNet.mk mk mop mds (.slice x0 mds.length y0) (.slice x1 mks.length y1) mks)) := by rw [hW6]; exact MOwn.setO4 HMO.out hmb
         have hb6 : Below V1.heap.size ((((V1.setCell ⟨B,0,none⟩ (.int .i64 mk)).setCell ⟨B,1,none⟩ (.int .i64 mop)).setCell ⟨B,2,none⟩ (.slice x0 mds.length y0)).setCell ⟨B,3,none⟩ (.slice x1 mks.length y1)) W6 := by rw [hW6]; exact below_both4 hb5
         have hsU : (((((V1.setCell ⟨B,0,none⟩ (.int .i64 mk)).setCell ⟨B,1,none⟩ (.int .i64 mop)).setCell ⟨B,2,none⟩ (.slice x0 mds.length y0)).setCell ⟨B,3,none⟩ (.slice x1 mks.length y1))).heap.size = V1.heap.size := by simp
         have hP : Parts ((((V1.setCell ⟨B,0,none⟩ (.int .i64 mk)).setCell ⟨B,1,none⟩ (.int .i64 mop)).setCell ⟨B,2,none⟩ (.slice x0 mds.length y0)).setCell ⟨B,3,none⟩ (.slice x1 mks.length y1)) (w.heap.size + 2) (MNet.mk k1 o1 d1 (.slice a1 d1.length c1) (.slice b1 n1.length e1) n1) (MNet.mk k2 o2 d2 (.slice a2 d2.length c2) (.slice b2 n2.length e2) n2) (.slice f1 s1.length g1) s1 (.slice f2 s2.length g2) s2 (.slice h2 ks2.length j2) ks2 := (AOwn.setN HAO1.out HNO.out).parts
         have hb6' : Below (((((V1.setCell ⟨B,0,none⟩ (.int .i64 mk)).setCell ⟨B,1,none⟩ (.int .i64 mop)).setCell ⟨B,2,none⟩ (.slice x0 mds.length y0)).setCell ⟨B,3,none⟩ (.slice x1 mks.length y1))).heap.size ((((V1.setCell ⟨B,0,none⟩ (.int .i64 mk)).setCell ⟨B,1,none⟩ (.int .i64 mop)).setCell ⟨B,2,none⟩ (.slice x0 mds.length y0)).setCell ⟨B,3,none⟩ (.slice x1 mks.length y1)) W6 := by rw [hsU]; exact hb6
         have HP6 : Hid (Parts W6 (w.heap.size + 2) (MNet.mk k1 o1 d1 (.slice a1 d1.length c1) (.slice b1 n1.length e1) n1) (MNet.mk k2 o2 d2 (.slice a2 d2.length c2) (.slice b2 n2.length e2) n2) (.slice f1 s1.length g1) s1 (.slice f2 s2.length g2) s2 (.slice h2 ks2.length j2) ks2) := hP.below hb6'
         have HPJ : Hid (∀ w7 a7 c7,ERow w7 (w.heap.size + 2) (.slice a7 (0 + s2.length) c7) (s1 ++ s2) → W6.grownBy w7 (Value.slice f1 0 g1).ownBlock → ((Value.slice a7 (0 + s2.length) c7).ownBlock = (Value.slice f1 0 g1).ownBlock ∨ (Value.slice a7 (0 + s2.length) c7).ownBlock = some W6.heap.size) → AOwn w7 (w.heap.size + 2) ⟨(MNet.mk mk mop mds (.slice x0 mds.length y0) (.slice x1 mks.length y1) mks),.slice a7 (0 + s2.length) c7,s1 ++ s2,.slice h2 ks2.length j2,ks2⟩ ∧ ∀ x ∈ (MArm.mk (MNet.mk mk mop mds (.slice x0 mds.length y0) (.slice x1 mks.length y1) mks) (.slice a7 (0 + s2.length) c7) (s1 ++ s2) (.slice h2 ks2.length j2) ks2).vals,x.ownBlock ≠ some B) := by
          intro w7 a7 c7 he hg hat
          have hll : (0 : Nat) = s1.length := HLN.out
          rw [hll] at hg hat he ⊢
          have hj := hP.join (lo := V1.heap.size) hb6' HMO6.out HVS.out (by rw [hsU]; exact Nat.le_refl _) (by rw [← hsU]; exact hb6.size) he hg hat
          refine ⟨hj.1,fun x hx e => ?_⟩
          rcases hj.2 x hx _ e with ⟨_,y,hy,e2⟩ | h1
          ·exact HNO.out y (HIA.out y hy) e2
          ·omega
         have HKX : Hid (0 < s2.length → ∃ p,f2 = some p ∧ ∀ j u,(eCells s2)[j]? = some u → W6.cell? (p.add j) = some u) := by
          intro hz
          obtain ⟨gg,cc,hv,_,_,_,hcell⟩ := ownsRow_cells HP6.out.ckr hz
          simp only [Value.slice.injEq] at hv
          exact ⟨⟨gg,0,none⟩,hv.1,fun j u hu => by rw [Addr.add_lit]; simpa using hcell j u hu⟩
         have hbs6 : w.heap.size + 2 ≤ W6.heap.size := by have := HBX6.out.1; have := HB2.out; omega
         have hK6 : wr.heap.size < W6.heap.size := HK6.out.1
         have hB6l : B < W6.heap.size := HBX6.out.1
         obtain ⟨_,⟨_,_,_,_,v4,_⟩,_⟩ := HBX6.out
         obtain ⟨_,⟨_,_,_,_,kk4,_⟩,_⟩ := HK6.out
         clear hW6 hb6 hb6' hP hsU hmb bx0 bx1 bx2 bx3 bx4 bx5 hbf k20 k21 k22 k23 k24 k25 t0 t1 t2 t3 u0 u1 u2 u3 HJ1'
         go_wp2_with (at_builtin; refine wpList_raw_elems rfl _ _ rfl (w.heap.size + 2) f1 g1 0 s1 s2 HLN.out f2 g2 rfl rfl HP6.out.hca HKX.out HP6.out.hck HP6.out.coils hL2 hbs6 ?_; intro a7 c7 w7 hmr7 hgr7 hat7; have HM7 : Hid (AOwn w7 (w.heap.size + 2) ⟨(MNet.mk mk mop mds (.slice x0 mds.length y0) (.slice x1 mks.length y1) mks),.slice a7 (0 + s2.length) c7,s1 ++ s2,.slice h2 ks2.length j2,ks2⟩ ∧ ∀ x ∈ (MArm.mk (MNet.mk mk mop mds (.slice x0 mds.length y0) (.slice x1 mks.length y1) mks) (.slice a7 (0 + s2.length) c7) (s1 ++ s2) (.slice h2 ks2.length j2) ks2).vals,x.ownBlock ≠ some B) := HPJ.out w7 a7 c7 hmr7 hgr7 hat7; have HG7 : Hid (W6.grownBy w7 (Value.slice f1 0 g1).ownBlock) := hgr7; have HBX7 : Hid (B6 w7 B (.int .i64 mk) (.int .i64 mop) (.slice x0 mds.length y0) (.slice x1 mks.length y1) (.slice f1 0 g1) (.slice (some ⟨g,0,none⟩) 1 j1)) := HBX6.out.grown hgr7 HCB.out; have HK7 : Hid (B6 w7 wr.heap.size (.int .i64 k2) (.int .i64 o2) (.slice a2 d2.length c2) (.slice b2 n2.length e2) (.slice f2 s2.length g2) (.slice h2 ks2.length j2)) := HK6.out.grown hgr7 (fun e => by have h0 := HCL.out _ e; omega); obtain ⟨_,⟨_,_,_,_,w74,w75⟩,tf7⟩ := HBX7.out; obtain ⟨_,⟨_,_,_,_,_,k75⟩,_⟩ := HK7.out; have u74 := tf7 4 (by omega); have u75 := tf7 5 (by omega); clear hmr7 hgr7 hat7 tf7)
         go_roundg (Stil.ksize (ks2.map MArm.arm))
         rotate_left
         ·exact HKM.out
         ·have hm7 := HM7.out
          simp only [Nat.zero_add] at hm7
          refine ⟨⟨(MNet.mk mk mop mds (.slice x0 mds.length y0) (.slice x1 mks.length y1) mks),.slice a7 s2.length c7,s1 ++ s2,.slice h2 ks2.length j2,ks2⟩,⟨HB2.out,B6.set5 (B6.set4 HBX7.out _) _,AOwn.setO (AOwn.setO hm7.1 (a := ⟨B,4,none⟩) hm7.2 _) (a := ⟨B,5,none⟩) hm7.2 _,hm7.2,B6.setO (B6.setO (HZB6.out.grown HG7.out HCZ.out) hBne _) hBne _,?_⟩,?_,?_,?_,?_⟩
          ·exact bl_set hle (bl_set hle (HBW6.out.grown HG7.out HBW6.out.size HCW.out) _) _
          ·rw [MArm.arm_eq]; simp only; rw [HMN.out,List.map_append]; exact HJ2.out
          ·rw [MArm.arm_eq]; simp only; rw [HMN.out,List.map_append]; exact HM2.out
          ·rw [MArm.arm_eq]; simp only; rw [HMN.out,List.map_append]; exact HFI2.out
          ·rw [MArm.arm_eq]; exact Nat.le_refl _

       ·have hkb : ((ks1.length : Int) == 1) = false := by rw [beq_eq_false_iff_ne]; omega
        have hkc : ¬ ((ks1.length : Int) = 1) := by omega
        have HST : Hid (∀ kid,(ks1.map MArm.arm) = [kid] → False) := fun kid e => hk (by have := congrArg List.length e; simpa using this)
        clear hk hBf
        go_wp2
        refine bodyPost_ret (v := .agg #[.int .i64 k1,.int .i64 o1,.slice a1 d1.length c1,.slice b1 n1.length e1,.slice f1 s1.length g1,.slice h1 ks1.length j1]) (by simp [results,Tryz.results52,go_sem,z0,z1,z2,z3,z4,z5]) rfl ⟨⟨k1,o1,d1,a1,c1,n1,b1,e1,s1,f1,g1,ks1,h1,j1,rfl,?_,?_⟩,?_⟩
        ·exact AOwn.le (AOwn.setO6 (base := w.heap.size + 2) HAO.out (fun x hx e => by have := ((HAO.out).1.lt _ x hx _ e).1; omega)) (by omega)
        ·rw [← HJO.out]
         refine (Stil.joined_stop _ ?_).symm
         intro kid e _
         rw [MArm.arm_eq] at e
         exact HST.out kid e
        ·exact bl_set (Nat.le_succ _) (bl_set (Nat.le_succ _) (bl_set (Nat.le_succ _) (bl_set (Nat.le_succ _) (bl_set (Nat.le_succ _) (bl_set (Nat.le_succ _) HBW.out _) _) _) _) _) _

end Go.Proofs.YtenoanhonjdpjaaGreatDoor
