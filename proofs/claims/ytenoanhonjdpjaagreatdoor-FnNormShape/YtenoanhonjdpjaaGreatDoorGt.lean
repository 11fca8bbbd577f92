/- Z8f,Z8e,Z9a: texts put together. -/
import Derived.Test.YtenoanhonjdpjaaGreatDoorGs
import Derived.Deep.RegionHeld3
/- The program's chapter 4: the parts of an arm with one kid. -/
namespace Go.Proofs.YtenoanhonjdpjaaGreatDoor
open Go.RowKit Go.Sort Go.BigFrame
theorem step_raw_elems {ops : Array Oper} {o : Oper} {a : Act} {w : World} {K : Act -> World -> Prop} {Q : Exit -> Act -> World -> Prop} {E : Prop}
  (hg : o.guard = none) (s x : Operand) (hop : o.op = .call { callee := .builtin .append,args := #[s,x],argTypes := #[34,34] })
  (base : Nat) (ra : Option Addr) (rc : Nat) (ms ks : List MElem) (ad : Option Addr) (c : Nat) (hs : a.eval s = .slice ra ms.length rc) (hx : a.eval x = .slice ad ks.length c)
  (hrow : ERow w base (.slice ra ms.length rc) ms) (hxs : 0 < ks.length -> ∃ p,ad = some p ∧ ∀ j u,(eCells ks)[j]? = some u -> w.cell? (p.add j) = some u)
  (hk : ∀ m ∈ ks,EOk w base m) (hp : (Value.slice ra ms.length rc :: (eVals ms ++ eVals ks)).Pairwise Aside) (hl : ms.length + ks.length <= 1000000) (hbase : base <= w.heap.size)
  (hK : ∀ a' c' w',ERow w' base (.slice a' (ms.length + ks.length) c') (ms ++ ks) -> w.grownBy w' (Value.slice ra ms.length rc).ownBlock -> ((Value.slice a' (ms.length + ks.length) c').ownBlock = (Value.slice ra ms.length rc).ownBlock ∨ (Value.slice a' (ms.length + ks.length) c').ownBlock = some w.heap.size) -> K (a.put o.dst (.slice a' (ms.length + ks.length) c')) w') :
  if Region.wanted o (yielded ops a.tmps) = true then Oper.wp Tryz.prog o a w K Q else E := by
 obtain ⟨i0,hi,hz0,hz1,hz2⟩ := info_parts info_Elem
 by_cases hd : ks.length = 0
 ·have hn : ks = [] := List.length_eq_zero_iff.1 hd
  subst hn
  have hw : Region.wanted o (yielded ops a.tmps) = true := by simp [Region.wanted,hg]
  rw [if_pos hw]
  have hcap : ms.length <= rc := by
   rcases hrow.1.2 with ⟨h0,h1⟩ | ⟨g,c',cur,h0,_,_,hnc,_⟩
   ·rw [h1]; exact Nat.zero_le _
   ·simp only [Value.slice.injEq] at h0
    rw [h0.2.2]; exact hnc
  have hk2 := hK ra rc w (by simpa using hrow) (grownSelf _ _) (.inl (by simp))
  simp only [List.length_nil,Nat.add_zero] at hk2 hx
  unfold Oper.wp execOp
  cases ad
  ·have e : Sem.run Tryz.prog (Builtin.append_ #[34,34] o.type #[.slice ra ms.length rc,.slice none 0 c]) w = .ok (.slice ra ms.length rc) w := by cases ra <;> simp [Builtin.append_,go_sem,hcap]
   simp only [hop,resolve,invoke,builtin,Sem.run_bind,Sem.run_pure,Result.andThen_ok,List.map_toArray,List.map_cons,List.map_nil,hs,hx,e]
   exact hk2
  ·rename_i t1
   have e : Sem.run Tryz.prog (Builtin.append_ #[34,34] o.type #[.slice ra ms.length rc,.slice (some t1) 0 c]) w = .ok (.slice ra ms.length rc) w := by cases ra <;> simp [Builtin.append_,go_sem,hcap]
   simp only [hop,resolve,invoke,builtin,Sem.run_bind,Sem.run_pure,Result.andThen_ok,List.map_toArray,List.map_cons,List.map_nil,hs,hx,e]
   exact hk2
 ·obtain ⟨p,rfl,hcs⟩ := hxs (by omega)
  refine step_append_at hg s x _ hop base 30 i0 _ 2 32 Tryz.underlying34 hi hz0 hz1 hz2 rfl (by decide) _ _ (eCells ms) hs hrow.1 _ _ _ (eCells ks) hx (eCells_len ks) hcs (eCells_one' hk) (by unfold maxLen; omega) (by omega) hbase ?_
  intro v' w' h1 h2 h3
  obtain ⟨a6,c6,hv6⟩ := slice_of_owns h1
  subst hv6
  exact hK a6 c6 w' (hrow.add hk hp h1 h2 h3) h2 h3
/-- The parts of an arm with one kid,no two of which share. -/
structure Parts (w : World) (base : Nat) (na nk : MNet) (cva : Value) (ca : List MElem) (cvk : Value) (ck : List MElem) (kvk : Value) (kk : List MArm) : Prop where
 hna : MOk w base na
 hnk : MOk w base nk
 hca : ERow w base cva ca
 hck : ∀ m ∈ ck,EOk w base m
 ckr : w.ownsRow base 30 2 cvk ck.length (eCells ck)
 hkk : ARow w base kvk kk
 nets : (na.vals ++ nk.vals).Pairwise Aside
 coils : (cva :: (eVals ca ++ eVals ck)).Pairwise Aside
 nc : ∀ x ∈ na.vals ++ nk.vals,∀ y ∈ cva :: (eVals ca ++ eVals ck),Aside x y
 nkk : ∀ x ∈ na.vals ++ nk.vals,∀ y ∈ kvk :: aVals kk,Aside x y
 ckk : ∀ x ∈ cva :: (eVals ca ++ eVals ck),∀ y ∈ kvk :: aVals kk,Aside x y
theorem AOwn.parts {w : World} {base : Nat} {na nk : MNet} {cva kva cvk kvk : Value} {ca ck : List MElem} {kk : List MArm} (h : AOwn w base ⟨na,cva,ca,kva,[⟨nk,cvk,ck,kvk,kk⟩]⟩) : Parts w base na nk cva ca cvk ck kvk kk := by
 obtain ⟨hok,hp⟩ := h
 obtain ⟨h1,⟨h2,h3⟩,_,h5⟩ := (AOk_iff _ _ _).1 hok
 obtain ⟨g1,⟨g2,g3⟩,g4,g5⟩ := (AOk_iff _ _ _).1 (h5 ⟨nk,cvk,ck,kvk,kk⟩ (by simp))
 simp only at h1 h2 h3 g1 g2 g3 g4 g5
 rw [MArm.vals_eq] at hp
 simp only [aVals_one] at hp
 rw [MArm.vals_eq] at hp
 simp only at hp
 obtain ⟨pN,pR,pNR⟩ := List.pairwise_append.1 hp
 obtain ⟨pC,pK,pCK⟩ := List.pairwise_append.1 pR
 obtain ⟨_,pKv⟩ := List.pairwise_cons.1 pK
 obtain ⟨qN,qR,qNR⟩ := List.pairwise_append.1 pKv
 obtain ⟨qC,qK,qCK⟩ := List.pairwise_append.1 qR
 have m1 : ∀ y ∈ nk.vals,y ∈ (cva :: eVals ca) ++ (kva :: (nk.vals ++ ((cvk :: eVals ck) ++ (kvk :: aVals kk)))) := fun y hy => by simp [hy]
 have m2 : ∀ y ∈ eVals ck,y ∈ kva :: (nk.vals ++ ((cvk :: eVals ck) ++ (kvk :: aVals kk))) := fun y hy => by simp [hy]
 have m3 : ∀ y ∈ kvk :: aVals kk,y ∈ kva :: (nk.vals ++ ((cvk :: eVals ck) ++ (kvk :: aVals kk))) := fun y hy => by simp only [List.mem_cons,List.mem_append] at hy ⊢; exact .inr (.inr (.inr hy))
 have hcoils : (cva :: (eVals ca ++ eVals ck)).Pairwise Aside := by
  rw [List.pairwise_cons] at pC ⊢
  refine ⟨fun y hy => ?_,List.pairwise_append.2 ⟨pC.2,(List.pairwise_cons.1 qC).2,fun x hx y hy => pCK x (List.mem_cons_of_mem _ hx) y (m2 y hy)⟩⟩
  rcases List.mem_append.1 hy with hy | hy
  ·exact pC.1 y hy
  ·exact pCK cva (by simp) y (m2 y hy)
 refine ⟨h1,g1,⟨h2,h3,pC⟩,g3,g2,⟨g4,g5,qK⟩,List.pairwise_append.2 ⟨pN,qN,fun x hx y hy => pNR x hx y (m1 y hy)⟩,hcoils,fun x hx y hy => ?_,fun x hx y hy => ?_,fun x hx y hy => ?_⟩
 ·rcases List.mem_append.1 hx with hx | hx
  ·refine pNR x hx y ?_
   simp only [List.mem_cons,List.mem_append] at hy ⊢
   rcases hy with hy | hy | hy
   ·exact .inl (.inl hy)
   ·exact .inl (.inr hy)
   ·exact .inr (.inr (.inr (.inl (.inr hy))))
  ·simp only [List.mem_cons,List.mem_append] at hy
   rcases hy with hy | hy | hy
   ·exact (pCK y (by simp [hy]) x (by simp [hx])).symm
   ·exact (pCK y (by simp [hy]) x (by simp [hx])).symm
   ·exact qNR x hx y (by simp [hy])
 ·rcases List.mem_append.1 hx with hx | hx
  ·exact pNR x hx y (List.mem_append_right _ (m3 y hy))
  ·exact qNR x hx y (List.mem_append_right _ hy)
 ·simp only [List.mem_cons,List.mem_append] at hx
  rcases hx with hx | hx | hx
  ·exact pCK x (by simp [hx]) y (m3 y hy)
  ·exact pCK x (by simp [hx]) y (m3 y hy)
  ·exact qCK x (List.mem_cons_of_mem _ hx) y hy
theorem Parts.below {w w' : World} {base : Nat} {na nk : MNet} {cva cvk kvk : Value} {ca ck : List MElem} {kk : List MArm} (h : Parts w base na nk cva ca cvk ck kvk kk) (hb : Below w.heap.size w w') : Parts w' base na nk cva ca cvk ck kvk kk :=
 ⟨h.hna.below hb,h.hnk.below hb,h.hca.below hb,fun m hm => ownsRow_below (h.hck m hm) hb,ownsRow_below h.ckr hb,h.hkk.below hb,h.nets,h.coils,h.nc,h.nkk,h.ckk⟩
theorem Parts.join {w w1 w6 : World} {base lo : Nat} {na nk mN : MNet} {cva cvk kvk cv' : Value} {ca ck : List MElem} {kk : List MArm} (hP : Parts w base na nk cva ca cvk ck kvk kk) (hb : Below w.heap.size w w1) (hn : MOwn w1 base mN) (hv : ∀ x ∈ mN.vals,x ∈ na.vals ++ nk.vals ∨ ∀ q,x.ownBlock = some q -> lo <= q) (hlo : w.heap.size <= lo) (hl1 : lo <= w1.heap.size)
  (he : ERow w6 base cv' (ca ++ ck)) (hg : w1.grownBy w6 cva.ownBlock) (hat : cv'.ownBlock = cva.ownBlock ∨ cv'.ownBlock = some w1.heap.size) : AOwn w6 base ⟨mN,cv',ca ++ ck,kvk,kk⟩ ∧ ∀ x ∈ (MArm.mk mN cv' (ca ++ ck) kvk kk).vals,∀ q,x.ownBlock = some q -> (q < w.heap.size ∧ ∃ y ∈ na.vals ++ nk.vals ++ ((cva :: (eVals ca ++ eVals ck)) ++ (kvk :: aVals kk)),y.ownBlock = some q) ∨ lo <= q := by
 have lN : ∀ x ∈ na.vals ++ nk.vals,∀ q,x.ownBlock = some q -> q < w.heap.size := by
  intro x hx q hq
  rcases List.mem_append.1 hx with hx | hx
  ·exact (hP.hna.lt _ x hx q hq).2
  ·exact (hP.hnk.lt _ x hx q hq).2
 have lC : ∀ y ∈ cva :: (eVals ca ++ eVals ck),∀ q,y.ownBlock = some q -> q < w.heap.size := by
  intro y hy q hq
  simp only [List.mem_cons,List.mem_append] at hy
  rcases hy with rfl | hy | hy
  ·exact (hP.hca.1.lt q hq).2
  ·exact (hP.hca.lt y (List.mem_cons_of_mem _ hy) q hq).2
  ·obtain ⟨m,hm,rfl⟩ := mem_eVals.1 hy
   exact ((hP.hck m hm).lt q hq).2
 have lK : ∀ y ∈ kvk :: aVals kk,∀ q,y.ownBlock = some q -> q < w.heap.size := fun y hy q hq => (hP.hkk.lt y hy q hq).2
 have hold : ∀ x ∈ mN.vals,∀ y,(∀ q,y.ownBlock = some q -> q < w.heap.size) -> (∀ z ∈ na.vals ++ nk.vals,Aside z y) -> Aside x y := by
  intro x hx y hy hz
  rcases hv x hx with h | h
  ·exact hz x h
  ·exact (aside_new (n := w.heap.size) hy (fun q hq => Nat.le_trans hlo (h q hq))).symm
 have hcv : ∀ y,(∀ q,y.ownBlock = some q -> q < w1.heap.size) -> Aside cva y -> Aside cv' y := by
  intro y hy ha
  rcases hat with e | e
  ·rcases ha with h0 | h0
   ·exact .inl (by rw [e]; exact h0)
   ·exact .inr (by rw [e]; exact h0)
  ·refine .inr (fun e2 => ?_)
   rw [e] at e2
   have := hy _ e2.symm
   omega
 have hsz := hb.size
 have hm : ∀ x ∈ mN.vals,Aside x cva := fun x hx => hold x hx cva (lC cva (by simp)) (fun z hz => hP.nc z hz cva (by simp))
 have hk1 := hP.hkk.below hb
 have hk6 : ARow w6 base kvk kk := ⟨hk1.1.kept hg (hP.ckk cva (by simp) kvk (by simp)).symm,fun m hm2 => (hk1.2.1 m hm2).kept hg (fun u hu => (hP.ckk cva (by simp) u (List.mem_cons_of_mem _ (mem_aVals.2 ⟨m,hm2,hu⟩))).symm),hk1.2.2⟩
 have hvals : (MArm.mk mN cv' (ca ++ ck) kvk kk).vals = mN.vals ++ ((cv' :: (eVals ca ++ eVals ck)) ++ (kvk :: aVals kk)) := by rw [MArm.vals_eq,eVals_append]
 refine ⟨⟨(AOk_iff _ _ _).2 ⟨hn.1.kept hg hm,⟨he.1,he.2.1⟩,hk6.1,hk6.2.1⟩,?_⟩,?_⟩
 ·rw [hvals]
  have he2 := he.2.2
  rw [eVals_append] at he2
  refine List.pairwise_append.2 ⟨hn.2,List.pairwise_append.2 ⟨he2,hP.hkk.2.2,fun x hx y hy => ?_⟩,fun x hx y hy => ?_⟩
  ·rcases List.mem_cons.1 hx with rfl | hx
   ·exact hcv y (fun q hq => by have := lK y hy q hq; omega) (hP.ckk cva (by simp) y hy)
   ·exact hP.ckk x (List.mem_cons_of_mem _ hx) y hy
  ·rcases List.mem_append.1 hy with hy | hy
   ·rcases List.mem_cons.1 hy with rfl | hy
    ·exact (hcv x (fun q hq => (hn.1.lt _ x hx q hq).2) (hm x hx).symm).symm
    ·exact hold x hx y (lC y (List.mem_cons_of_mem _ hy)) (fun z hz => hP.nc z hz y (List.mem_cons_of_mem _ hy))
   ·exact hold x hx y (lK y hy) (fun z hz => hP.nkk z hz y hy)
 ·intro x hx q hq
  rw [hvals] at hx
  rcases List.mem_append.1 hx with hx | hx
  ·rcases hv x hx with h | h
   ·exact .inl ⟨lN x h q hq,x,List.mem_append_left _ h,hq⟩
   ·exact .inr (h q hq)
  rcases List.mem_append.1 hx with hx | hx
  ·rcases List.mem_cons.1 hx with rfl | hx
   ·rcases hat with e | e
    ·exact .inl ⟨lC cva (by simp) q (by rw [← e]; exact hq),cva,List.mem_append_right _ (List.mem_append_left _ (by simp)),by rw [← e]; exact hq⟩
    ·rw [e] at hq; cases hq; exact .inr hl1
   ·exact .inl ⟨lC x (List.mem_cons_of_mem _ hx) q hq,x,List.mem_append_right _ (List.mem_append_left _ (List.mem_cons_of_mem _ hx)),hq⟩
  ·exact .inl ⟨lK x hx q hq,x,List.mem_append_right _ (List.mem_append_right _ hx),hq⟩
theorem AOwn.setO {w : World} {base : Nat} {m : MArm} (h : AOwn w base m) {a : Addr} (ha : ∀ x ∈ m.vals,x.ownBlock ≠ some a.block) (u : Value) : AOwn (w.setCell a u) base m := ⟨AOk.map m h.1 (fun _ _ _ _ _ hx ho => ownsRow_setCell_other ho (ha _ hx) u),h.2⟩
theorem AOwn.setO6 {w : World} {base b o1 o2 o3 o4 o5 o6 : Nat} {m : MArm} {u1 u2 u3 u4 u5 u6 : Value} (h : AOwn w base m) (hb : ∀ x ∈ m.vals,x.ownBlock ≠ some b) : AOwn ((((((w.setCell ⟨b,o1,none⟩ u1).setCell ⟨b,o2,none⟩ u2).setCell ⟨b,o3,none⟩ u3).setCell ⟨b,o4,none⟩ u4).setCell ⟨b,o5,none⟩ u5).setCell ⟨b,o6,none⟩ u6) base m :=
 AOwn.setO (AOwn.setO (AOwn.setO (AOwn.setO (AOwn.setO (AOwn.setO h (a := ⟨b,o1,none⟩) hb u1) (a := ⟨b,o2,none⟩) hb u2) (a := ⟨b,o3,none⟩) hb u3) (a := ⟨b,o4,none⟩) hb u4) (a := ⟨b,o5,none⟩) hb u5) (a := ⟨b,o6,none⟩) hb u6
/-- An answered arm; its rows are those told,or new. -/
def ArmRetV (w : World) (base : Nat) (vs : List Value) (lo : Nat) (a : Stil.Arm) (e : Ending) : Prop := ∃ (k op : Int) (ds : List Stil.Dev) (a1 : Option Addr) (c1 : Nat) (ns : List MNet) (a2 : Option Addr) (c2 : Nat) (cs : List MElem) (a3 : Option Addr) (c3 : Nat) (ks : List MArm) (a4 : Option Addr) (c4 : Nat),e = .returned (.agg #[.int .i64 k,.int .i64 op,.slice a1 ds.length c1,.slice a2 ns.length c2,.slice a3 cs.length c3,.slice a4 ks.length c4]) ∧ AOwn w base ⟨⟨k,op,ds,.slice a1 ds.length c1,.slice a2 ns.length c2,ns⟩,.slice a3 cs.length c3,cs,.slice a4 ks.length c4,ks⟩ ∧ (MArm.mk ⟨k,op,ds,.slice a1 ds.length c1,.slice a2 ns.length c2,ns⟩ (.slice a3 cs.length c3) cs (.slice a4 ks.length c4) ks).arm = a ∧ ∀ x ∈ (MArm.mk ⟨k,op,ds,.slice a1 ds.length c1,.slice a2 ns.length c2,ns⟩ (.slice a3 cs.length c3) cs (.slice a4 ks.length c4) ks).vals,∀ q,x.ownBlock = some q -> (∃ y ∈ vs,y.ownBlock = some q) ∨ lo <= q
theorem gbelow {a b c : World} {r : Option Nat} (h : Below a.heap.size a b) (k : b.grownBy c r) : a.grownBy c r :=
 ⟨k.os.trans h.os,k.tape.trans h.tape,k.output.trans h.output,Nat.le_trans h.size k.size,fun j hj hn => (k.block j (Nat.lt_of_lt_of_le hj h.size) hn).trans (h.block j hj)⟩
theorem gsetO {w a : World} {r : Option Nat} {b o : Nat} (h : w.grownBy a r) (hp : w.heap.size <= b) (v : Value) : w.grownBy (a.setCell ⟨b,o,none⟩ v) r :=
 ⟨h.os,h.tape,h.output,by simpa using h.size,fun k hk hn => by
  rw [← h.block k hk hn]
  simp only [World.setCell,Array.getElem?_modify]
  rw [if_neg (by omega)]⟩
theorem cellDrew {W : World} {a : Addr} : W.drew.cell? a = W.cell? a := rfl
theorem set6O {w : World} {b c o o1 o2 o3 o4 o5 o6 : Nat} {v u1 u2 u3 u4 u5 u6 : Value} (h : b ≠ c) (hq : w.cell? ⟨b,o,none⟩ = some v) : ((((((w.setCell ⟨c,o1,none⟩ u1).setCell ⟨c,o2,none⟩ u2).setCell ⟨c,o3,none⟩ u3).setCell ⟨c,o4,none⟩ u4).setCell ⟨c,o5,none⟩ u5).setCell ⟨c,o6,none⟩ u6).cell? ⟨b,o,none⟩ = some v :=
 (cellSetOther h).trans ((cellSetOther h).trans ((cellSetOther h).trans ((cellSetOther h).trans ((cellSetOther h).trans ((cellSetOther h).trans hq)))))
set_option maxHeartbeats 8000000 in
set_option maxRecDepth 100000 in
theorem i_normJoin (k1 o1 : Int) (d1 : List Stil.Dev) (a1 : Option Addr) (c1 : Nat) (b1_ : Option Addr) (e1 : Nat) (n1 : List MNet) (f1 : Option Addr) (g1 : Nat) (s1 : List MElem) (h1 : Option Addr) (j1 : Nat) (k2 o2 : Int) (d2 : List Stil.Dev) (a2 : Option Addr) (c2 : Nat) (b2_ : Option Addr) (e2 : Nat) (n2 : List MNet) (f2 : Option Addr) (g2 : Nat) (s2 : List MElem) (h2 : Option Addr) (j2 : Nat) (ks : List MArm) (base : Nat) (w : World)
  (ho : AOwn w base (MArm.mk (MNet.mk k1 o1 d1 (.slice a1 d1.length c1) (.slice b1_ n1.length e1) n1) (.slice f1 s1.length g1) s1 (.slice h1 1 j1) [(MArm.mk (MNet.mk k2 o2 d2 (.slice a2 d2.length c2) (.slice b2_ n2.length e2) n2) (.slice f2 s2.length g2) s2 (.slice h2 ks.length j2) ks)])) (hbase : base <= w.heap.size) (hs : Stil.sizes [(MNet.mk k1 o1 d1 (.slice a1 d1.length c1) (.slice b1_ n1.length e1) n1).net,(MNet.mk k2 o2 d2 (.slice a2 d2.length c2) (.slice b2_ n2.length e2) n2).net] <= 999999) (hf1 : Stil.netFits (MNet.mk k1 o1 d1 (.slice a1 d1.length c1) (.slice b1_ n1.length e1) n1).net) (hf2 : Stil.netFits (MNet.mk k2 o2 d2 (.slice a2 d2.length c2) (.slice b2_ n2.length e2) n2).net) (hsl : s1.length + s2.length <= 1000000) :
  Calls Tryz.prog 91 #[.agg #[.int .i64 k1,.int .i64 o1,.slice a1 d1.length c1,.slice b1_ n1.length e1,.slice f1 s1.length g1,.slice h1 1 j1],.agg #[.int .i64 k2,.int .i64 o2,.slice a2 d2.length c2,.slice b2_ n2.length e2,.slice f2 s2.length g2,.slice h2 ks.length j2]] w fun e w' => ArmRetV w' base (MArm.mk (MNet.mk k1 o1 d1 (.slice a1 d1.length c1) (.slice b1_ n1.length e1) n1) (.slice f1 s1.length g1) s1 (.slice h1 1 j1) [(MArm.mk (MNet.mk k2 o2 d2 (.slice a2 d2.length c2) (.slice b2_ n2.length e2) n2) (.slice f2 s2.length g2) s2 (.slice h2 ks.length j2) ks)]).vals w.heap.size ⟨Stil.series (MNet.mk k1 o1 d1 (.slice a1 d1.length c1) (.slice b1_ n1.length e1) n1).net (MNet.mk k2 o2 d2 (.slice a2 d2.length c2) (.slice b2_ n2.length e2) n2).net,(s1 ++ s2).map MElem.elem,ks.map MArm.arm⟩ e ∧ w.grownBy w' (Value.slice f1 s1.length g1).ownBlock := by
 have hP := ho.parts
 have HIN : Hid (∀ y ∈ (MNet.mk k1 o1 d1 (.slice a1 d1.length c1) (.slice b1_ n1.length e1) n1).vals ++ (MNet.mk k2 o2 d2 (.slice a2 d2.length c2) (.slice b2_ n2.length e2) n2).vals ++ ((.slice f1 s1.length g1 :: (eVals s1 ++ eVals s2)) ++ (.slice h2 ks.length j2 :: aVals ks)),y ∈ (MArm.mk (MNet.mk k1 o1 d1 (.slice a1 d1.length c1) (.slice b1_ n1.length e1) n1) (.slice f1 s1.length g1) s1 (.slice h1 1 j1) [(MArm.mk (MNet.mk k2 o2 d2 (.slice a2 d2.length c2) (.slice b2_ n2.length e2) n2) (.slice f2 s2.length g2) s2 (.slice h2 ks.length j2) ks)]).vals) := by
  intro y hy
  rw [MArm.vals_eq]
  simp only [aVals_one]
  rw [MArm.vals_eq (MArm.mk (MNet.mk k2 o2 d2 (.slice a2 d2.length c2) (.slice b2_ n2.length e2) n2) (.slice f2 s2.length g2) s2 (.slice h2 ks.length j2) ks)]
  simp only [List.mem_append,List.mem_cons] at hy ⊢
  rcases hy with (hy | hy) | (hy | hy | hy) | hy | hy
  ·exact .inl hy
  ·exact .inr (.inr (.inr (.inl hy)))
  ·exact .inr (.inl (.inl hy))
  ·exact .inr (.inl (.inr hy))
  ·exact .inr (.inr (.inr (.inr (.inl (.inr hy)))))
  ·exact .inr (.inr (.inr (.inr (.inr (.inl hy)))))
  ·exact .inr (.inr (.inr (.inr (.inr (.inr hy)))))
 obtain ⟨OV,hOV⟩ : ∃ OV,OV = (MArm.mk (MNet.mk k1 o1 d1 (.slice a1 d1.length c1) (.slice b1_ n1.length e1) n1) (.slice f1 s1.length g1) s1 (.slice h1 1 j1) [(MArm.mk (MNet.mk k2 o2 d2 (.slice a2 d2.length c2) (.slice b2_ n2.length e2) n2) (.slice f2 s2.length g2) s2 (.slice h2 ks.length j2) ks)]).vals := ⟨_,rfl⟩
 rw [← hOV] at HIN ⊢
 clear hOV
 have HP : Hid (Parts w base (MNet.mk k1 o1 d1 (.slice a1 d1.length c1) (.slice b1_ n1.length e1) n1) (MNet.mk k2 o2 d2 (.slice a2 d2.length c2) (.slice b2_ n2.length e2) n2) (.slice f1 s1.length g1) s1 (.slice f2 s2.length g2) s2 (.slice h2 ks.length j2) ks) := hP
 have HSER : Hid (∀ W,Below w.heap.size w W -> Calls Tryz.prog 122 #[.agg #[.int .i64 k1,.int .i64 o1,.slice a1 d1.length c1,.slice b1_ n1.length e1],.agg #[.int .i64 k2,.int .i64 o2,.slice a2 d2.length c2,.slice b2_ n2.length e2]] W fun e w' => NetRetV w' base ((MNet.mk k1 o1 d1 (.slice a1 d1.length c1) (.slice b1_ n1.length e1) n1).vals ++ (MNet.mk k2 o2 d2 (.slice a2 d2.length c2) (.slice b2_ n2.length e2) n2).vals) W.heap.size (Stil.series (MNet.mk k1 o1 d1 (.slice a1 d1.length c1) (.slice b1_ n1.length e1) n1).net (MNet.mk k2 o2 d2 (.slice a2 d2.length c2) (.slice b2_ n2.length e2) n2).net) e ∧ Below W.heap.size W w') := fun W h => i_normSeries k1 o1 d1 a1 c1 b1_ e1 n1 k2 o2 d2 a2 c2 b2_ e2 n2 base W (hP.hna.below h) (hP.hnk.below h) hP.nets (Nat.le_trans hbase h.size) hs hf1 hf2
 obtain ⟨S,hS⟩ : ∃ S,S = Stil.series (MNet.mk k1 o1 d1 (.slice a1 d1.length c1) (.slice b1_ n1.length e1) n1).net (MNet.mk k2 o2 d2 (.slice a2 d2.length c2) (.slice b2_ n2.length e2) n2).net := ⟨_,rfl⟩
 rw [← hS] at HSER ⊢
 clear ho hP hs hf1 hf2 hS
 go_enter Tryz.func91,Tryz.ntmps91
 go_upto_region 1 with fail
 obtain ⟨W,hW⟩ : ∃ W,W = ((w.alloc (.cells #[.int .i64 k1,.int .i64 o1,.slice a1 d1.length c1,.slice b1_ n1.length e1,.slice f1 s1.length g1,.slice h1 1 j1] 36)).alloc (.cells #[.int .i64 k2,.int .i64 o2,.slice a2 d2.length c2,.slice b2_ n2.length e2,.slice f2 s2.length g2,.slice h2 ks.length j2] 36)).alloc (.cells #[.int .i64 0,.int .i64 0,.slice none 0 0,.slice none 0 0,.slice none 0 0,.slice none 0 0] 36) := ⟨_,rfl⟩
 rw [← hW]
 have p0 : W.cell? ⟨w.heap.size,0,none⟩ = some (.int .i64 k1) := by rw [hW]; simp [go_sem]
 have p1 : W.cell? ⟨w.heap.size,1,none⟩ = some (.int .i64 o1) := by rw [hW]; simp [go_sem]
 have p2 : W.cell? ⟨w.heap.size,2,none⟩ = some (.slice a1 d1.length c1) := by rw [hW]; simp [go_sem]
 have p3 : W.cell? ⟨w.heap.size,3,none⟩ = some (.slice b1_ n1.length e1) := by rw [hW]; simp [go_sem]
 have p4 : W.cell? ⟨w.heap.size,4,none⟩ = some (.slice f1 s1.length g1) := by rw [hW]; simp [go_sem]
 have p5 : W.cell? ⟨w.heap.size,5,none⟩ = some (.slice h1 1 j1) := by rw [hW]; simp [go_sem]
 have q0 : W.cell? ⟨w.heap.size + 1,0,none⟩ = some (.int .i64 k2) := by rw [hW]; simp [go_sem]
 have q1 : W.cell? ⟨w.heap.size + 1,1,none⟩ = some (.int .i64 o2) := by rw [hW]; simp [go_sem]
 have q2 : W.cell? ⟨w.heap.size + 1,2,none⟩ = some (.slice a2 d2.length c2) := by rw [hW]; simp [go_sem]
 have q3 : W.cell? ⟨w.heap.size + 1,3,none⟩ = some (.slice b2_ n2.length e2) := by rw [hW]; simp [go_sem]
 have q4 : W.cell? ⟨w.heap.size + 1,4,none⟩ = some (.slice f2 s2.length g2) := by rw [hW]; simp [go_sem]
 have q5 : W.cell? ⟨w.heap.size + 1,5,none⟩ = some (.slice h2 ks.length j2) := by rw [hW]; simp [go_sem]
 have r0 : W.cell? ⟨w.heap.size + 1 + 1,0,none⟩ = some (.int .i64 0) := by rw [hW]; simp [go_sem]
 have r1 : W.cell? ⟨w.heap.size + 1 + 1,1,none⟩ = some (.int .i64 0) := by rw [hW]; simp [go_sem]
 have r2 : W.cell? ⟨w.heap.size + 1 + 1,2,none⟩ = some (.slice none 0 0) := by rw [hW]; simp [go_sem]
 have r3 : W.cell? ⟨w.heap.size + 1 + 1,3,none⟩ = some (.slice none 0 0) := by rw [hW]; simp [go_sem]
 have r4 : W.cell? ⟨w.heap.size + 1 + 1,4,none⟩ = some (.slice none 0 0) := by rw [hW]; simp [go_sem]
 have r5 : W.cell? ⟨w.heap.size + 1 + 1,5,none⟩ = some (.slice none 0 0) := by rw [hW]; simp [go_sem]
 have v0 : W.frozen? ⟨w.heap.size + 1 + 1,0,none⟩ = false := by rw [hW]; simp [go_sem]
 have v1 : W.frozen? ⟨w.heap.size + 1 + 1,1,none⟩ = false := by rw [hW]; simp [go_sem]
 have v2 : W.frozen? ⟨w.heap.size + 1 + 1,2,none⟩ = false := by rw [hW]; simp [go_sem]
 have v3 : W.frozen? ⟨w.heap.size + 1 + 1,3,none⟩ = false := by rw [hW]; simp [go_sem]
 have v4 : W.frozen? ⟨w.heap.size + 1 + 1,4,none⟩ = false := by rw [hW]; simp [go_sem]
 have v5 : W.frozen? ⟨w.heap.size + 1 + 1,5,none⟩ = false := by rw [hW]; simp [go_sem]
 have HRV : Hid ((W.cell? ⟨w.heap.size + 1 + 1,0,none⟩ = some (.int .i64 0) ∧ W.cell? ⟨w.heap.size + 1 + 1,1,none⟩ = some (.int .i64 0) ∧ W.cell? ⟨w.heap.size + 1 + 1,2,none⟩ = some (.slice none 0 0) ∧ W.cell? ⟨w.heap.size + 1 + 1,3,none⟩ = some (.slice none 0 0) ∧ W.cell? ⟨w.heap.size + 1 + 1,4,none⟩ = some (.slice none 0 0) ∧ W.cell? ⟨w.heap.size + 1 + 1,5,none⟩ = some (.slice none 0 0)) ∧ ∀ o,o < 6 -> W.frozen? ⟨w.heap.size + 1 + 1,o,none⟩ = false) := ⟨⟨r0,r1,r2,r3,r4,r5⟩,fun o ho => by match o,ho with | 0,_ => exact v0 | 1,_ => exact v1 | 2,_ => exact v2 | 3,_ => exact v3 | 4,_ => exact v4 | 5,_ => exact v5⟩
 have hsW : W.heap.size = w.heap.size + 3 := by rw [hW]; simp
 have hBW : Below w.heap.size w W := by rw [hW]; exact bl_alloc (bl_alloc (below_alloc _ _) _) _
 have HSW : Hid (W.heap.size = w.heap.size + 3) := hsW
 have hl0 : w.heap.size < W.heap.size := by omega
 have hl1 : w.heap.size + 1 < W.heap.size := by omega
 have hl2 : w.heap.size + 1 + 1 < W.heap.size := by omega
 have HCB : Hid (∀ q,(Value.slice f1 s1.length g1).ownBlock = some q -> base <= q ∧ q < w.heap.size) := fun q hq => HP.out.hca.1.lt q hq
 clear hW hsW r0 r1 r2 r3 r4 r5 v0 v1 v2 v3 v4 v5
 have HKX : Hid (∀ V,Below w.heap.size w V -> 0 < s2.length -> ∃ p,f2 = some p ∧ ∀ j u,(eCells s2)[j]? = some u -> V.cell? (p.add j) = some u) := by
  intro V hV hz
  obtain ⟨g,c,hv,_,_,_,hcell⟩ := ownsRow_cells (ownsRow_below HP.out.ckr hV) hz
  simp only [Value.slice.injEq] at hv
  exact ⟨⟨g,0,none⟩,hv.1,fun j u hu => by rw [Addr.add_lit]; simpa using hcell j u hu⟩
 go_region_held3 (fun W' => (W'.cell? ⟨w.heap.size,0,none⟩ = some (.int .i64 k1) ∧ W'.cell? ⟨w.heap.size,1,none⟩ = some (.int .i64 o1) ∧ W'.cell? ⟨w.heap.size,2,none⟩ = some (.slice a1 d1.length c1) ∧ W'.cell? ⟨w.heap.size,3,none⟩ = some (.slice b1_ n1.length e1) ∧ W'.cell? ⟨w.heap.size,4,none⟩ = some (.slice f1 s1.length g1) ∧ W'.cell? ⟨w.heap.size + 1,0,none⟩ = some (.int .i64 k2) ∧ W'.cell? ⟨w.heap.size + 1,1,none⟩ = some (.int .i64 o2) ∧ W'.cell? ⟨w.heap.size + 1,2,none⟩ = some (.slice a2 d2.length c2) ∧ W'.cell? ⟨w.heap.size + 1,3,none⟩ = some (.slice b2_ n2.length e2) ∧ W'.cell? ⟨w.heap.size + 1,4,none⟩ = some (.slice f2 s2.length g2) ∧ W'.cell? ⟨w.heap.size + 1,5,none⟩ = some (.slice h2 ks.length j2))) (first | with_reducible assumption | with_reducible exact ⟨cellDrew.trans p0,cellDrew.trans p1,cellDrew.trans p2,cellDrew.trans p3,cellDrew.trans p4,cellDrew.trans q0,cellDrew.trans q1,cellDrew.trans q2,cellDrew.trans q3,cellDrew.trans q4,cellDrew.trans q5⟩ | with_reducible exact ⟨set6O (by omega) hS6.1,set6O (by omega) hS6.2.1,set6O (by omega) hS6.2.2.1,set6O (by omega) hS6.2.2.2.1,set6O (by omega) hS6.2.2.2.2.1,set6O (by omega) hS6.2.2.2.2.2.1,set6O (by omega) hS6.2.2.2.2.2.2.1,set6O (by omega) hS6.2.2.2.2.2.2.2.1,set6O (by omega) hS6.2.2.2.2.2.2.2.2.1,set6O (by omega) hS6.2.2.2.2.2.2.2.2.2.1,set6O (by omega) hS6.2.2.2.2.2.2.2.2.2.2⟩ | skip) (first | (go_at_call 122; refine (HSER.out _ (by exact hBW.drew)).mono ?_; rintro e w1 ⟨⟨mk,mop,mds,x0,y0,x1,y1,mks,rfl,hmo,hmn,hvs⟩,hb1⟩; have hb5 : Below W.heap.size W w1 := ((Below.refl W.heap.size W).drew).trans hb1; have hB1 : Below w.heap.size w w1 := hBW.trans (hb5.mono hBW.size); have hz0 : w.heap.size < w1.heap.size := Nat.lt_of_lt_of_le hl0 hb5.size; have hz1 : w.heap.size + 1 < w1.heap.size := Nat.lt_of_lt_of_le hl1 hb5.size; have hz2 : w.heap.size + 1 + 1 < w1.heap.size := Nat.lt_of_lt_of_le hl2 hb5.size; have HMO : Hid (MOwn w1 base ⟨mk,mop,mds,.slice x0 mds.length y0,.slice x1 mks.length y1,mks⟩) := hmo; have HMN : Hid ((MNet.mk mk mop mds (.slice x0 mds.length y0) (.slice x1 mks.length y1) mks).net = S) := hmn; have HVS : Hid (∀ x ∈ (MNet.mk mk mop mds (.slice x0 mds.length y0) (.slice x1 mks.length y1) mks).vals,x ∈ (MNet.mk k1 o1 d1 (.slice a1 d1.length c1) (.slice b1_ n1.length e1) n1).vals ++ (MNet.mk k2 o2 d2 (.slice a2 d2.length c2) (.slice b2_ n2.length e2) n2).vals ∨ ∀ q,x.ownBlock = some q -> W.heap.size <= q) := hvs; have hS1 : (w1.cell? ⟨w.heap.size,0,none⟩ = some (.int .i64 k1) ∧ w1.cell? ⟨w.heap.size,1,none⟩ = some (.int .i64 o1) ∧ w1.cell? ⟨w.heap.size,2,none⟩ = some (.slice a1 d1.length c1) ∧ w1.cell? ⟨w.heap.size,3,none⟩ = some (.slice b1_ n1.length e1) ∧ w1.cell? ⟨w.heap.size,4,none⟩ = some (.slice f1 s1.length g1) ∧ w1.cell? ⟨w.heap.size + 1,0,none⟩ = some (.int .i64 k2) ∧ w1.cell? ⟨w.heap.size + 1,1,none⟩ = some (.int .i64 o2) ∧ w1.cell? ⟨w.heap.size + 1,2,none⟩ = some (.slice a2 d2.length c2) ∧ w1.cell? ⟨w.heap.size + 1,3,none⟩ = some (.slice b2_ n2.length e2) ∧ w1.cell? ⟨w.heap.size + 1,4,none⟩ = some (.slice f2 s2.length g2) ∧ w1.cell? ⟨w.heap.size + 1,5,none⟩ = some (.slice h2 ks.length j2)) := ⟨(hb5.cell (p := ⟨w.heap.size,0,none⟩) hl0).trans p0,(hb5.cell (p := ⟨w.heap.size,1,none⟩) hl0).trans p1,(hb5.cell (p := ⟨w.heap.size,2,none⟩) hl0).trans p2,(hb5.cell (p := ⟨w.heap.size,3,none⟩) hl0).trans p3,(hb5.cell (p := ⟨w.heap.size,4,none⟩) hl0).trans p4,(hb5.cell (p := ⟨w.heap.size + 1,0,none⟩) hl1).trans q0,(hb5.cell (p := ⟨w.heap.size + 1,1,none⟩) hl1).trans q1,(hb5.cell (p := ⟨w.heap.size + 1,2,none⟩) hl1).trans q2,(hb5.cell (p := ⟨w.heap.size + 1,3,none⟩) hl1).trans q3,(hb5.cell (p := ⟨w.heap.size + 1,4,none⟩) hl1).trans q4,(hb5.cell (p := ⟨w.heap.size + 1,5,none⟩) hl1).trans q5⟩; clear hmo hmn hvs hb1) | (refine step_raw_elems rfl _ _ rfl base f1 g1 s1 s2 f2 g2 rfl rfl ((HP.out.below hB1).hca) (HKX.out _ hB1) ((HP.out.below hB1).hck) HP.out.coils hsl (Nat.le_trans hbase hB1.size) ?_; intro a6 c6 w6 hmr6 hgr6 hat6; have HM6 : Hid (ERow w6 base (.slice a6 (s1.length + s2.length) c6) (s1 ++ s2)) := hmr6; have HG6 : Hid (w1.grownBy w6 (Value.slice f1 s1.length g1).ownBlock) := hgr6; have HT6 : Hid ((Value.slice a6 (s1.length + s2.length) c6).ownBlock = (Value.slice f1 s1.length g1).ownBlock ∨ (Value.slice a6 (s1.length + s2.length) c6).ownBlock = some w1.heap.size) := hat6; have hn1 : (Value.slice f1 s1.length g1).ownBlock ≠ some (w.heap.size + 1) := (fun e => by have := (HCB.out _ e).2; omega); have hn2 : (Value.slice f1 s1.length g1).ownBlock ≠ some (w.heap.size + 1 + 1) := (fun e => by have := (HCB.out _ e).2; omega); have hz6 : w.heap.size + 1 + 1 < w6.heap.size := Nat.lt_of_lt_of_le hz2 hgr6.size; have hn0 : (Value.slice f1 s1.length g1).ownBlock ≠ some (w.heap.size) := (fun e => by have := (HCB.out _ e).2; omega); have hS6 : (w6.cell? ⟨w.heap.size,0,none⟩ = some (.int .i64 k1) ∧ w6.cell? ⟨w.heap.size,1,none⟩ = some (.int .i64 o1) ∧ w6.cell? ⟨w.heap.size,2,none⟩ = some (.slice a1 d1.length c1) ∧ w6.cell? ⟨w.heap.size,3,none⟩ = some (.slice b1_ n1.length e1) ∧ w6.cell? ⟨w.heap.size,4,none⟩ = some (.slice f1 s1.length g1) ∧ w6.cell? ⟨w.heap.size + 1,0,none⟩ = some (.int .i64 k2) ∧ w6.cell? ⟨w.heap.size + 1,1,none⟩ = some (.int .i64 o2) ∧ w6.cell? ⟨w.heap.size + 1,2,none⟩ = some (.slice a2 d2.length c2) ∧ w6.cell? ⟨w.heap.size + 1,3,none⟩ = some (.slice b2_ n2.length e2) ∧ w6.cell? ⟨w.heap.size + 1,4,none⟩ = some (.slice f2 s2.length g2) ∧ w6.cell? ⟨w.heap.size + 1,5,none⟩ = some (.slice h2 ks.length j2)) := ⟨(grownO_cell hgr6 hz0 hn0).trans hS1.1,(grownO_cell hgr6 hz0 hn0).trans hS1.2.1,(grownO_cell hgr6 hz0 hn0).trans hS1.2.2.1,(grownO_cell hgr6 hz0 hn0).trans hS1.2.2.2.1,(grownO_cell hgr6 hz0 hn0).trans hS1.2.2.2.2.1,(grownO_cell hgr6 hz1 hn1).trans hS1.2.2.2.2.2.1,(grownO_cell hgr6 hz1 hn1).trans hS1.2.2.2.2.2.2.1,(grownO_cell hgr6 hz1 hn1).trans hS1.2.2.2.2.2.2.2.1,(grownO_cell hgr6 hz1 hn1).trans hS1.2.2.2.2.2.2.2.2.1,(grownO_cell hgr6 hz1 hn1).trans hS1.2.2.2.2.2.2.2.2.2.1,(grownO_cell hgr6 hz1 hn1).trans hS1.2.2.2.2.2.2.2.2.2.2⟩; obtain ⟨⟨r0,r1,r2,r3,r4,r5⟩,hfz⟩ := HRV.out; have t0 : w6.cell? ⟨w.heap.size + 1 + 1,0,none⟩ = some (.int .i64 0) := (grownO_cell hgr6 hz2 hn2).trans ((hb5.cell (p := ⟨w.heap.size + 1 + 1,0,none⟩) hl2).trans r0); have t1 : w6.cell? ⟨w.heap.size + 1 + 1,1,none⟩ = some (.int .i64 0) := (grownO_cell hgr6 hz2 hn2).trans ((hb5.cell (p := ⟨w.heap.size + 1 + 1,1,none⟩) hl2).trans r1); have t2 : w6.cell? ⟨w.heap.size + 1 + 1,2,none⟩ = some (.slice none 0 0) := (grownO_cell hgr6 hz2 hn2).trans ((hb5.cell (p := ⟨w.heap.size + 1 + 1,2,none⟩) hl2).trans r2); have t3 : w6.cell? ⟨w.heap.size + 1 + 1,3,none⟩ = some (.slice none 0 0) := (grownO_cell hgr6 hz2 hn2).trans ((hb5.cell (p := ⟨w.heap.size + 1 + 1,3,none⟩) hl2).trans r3); have t4 : w6.cell? ⟨w.heap.size + 1 + 1,4,none⟩ = some (.slice none 0 0) := (grownO_cell hgr6 hz2 hn2).trans ((hb5.cell (p := ⟨w.heap.size + 1 + 1,4,none⟩) hl2).trans r4); have t5 : w6.cell? ⟨w.heap.size + 1 + 1,5,none⟩ = some (.slice none 0 0) := (grownO_cell hgr6 hz2 hn2).trans ((hb5.cell (p := ⟨w.heap.size + 1 + 1,5,none⟩) hl2).trans r5); have m0 : w6.frozen? ⟨w.heap.size + 1 + 1,0,none⟩ = false := (grownO_frozen hgr6 hz2 hn2).trans ((hb5.frozen (p := ⟨w.heap.size + 1 + 1,0,none⟩) hl2).trans (hfz 0 (by omega))); have m1 : w6.frozen? ⟨w.heap.size + 1 + 1,1,none⟩ = false := (grownO_frozen hgr6 hz2 hn2).trans ((hb5.frozen (p := ⟨w.heap.size + 1 + 1,1,none⟩) hl2).trans (hfz 1 (by omega))); have m2 : w6.frozen? ⟨w.heap.size + 1 + 1,2,none⟩ = false := (grownO_frozen hgr6 hz2 hn2).trans ((hb5.frozen (p := ⟨w.heap.size + 1 + 1,2,none⟩) hl2).trans (hfz 2 (by omega))); have m3 : w6.frozen? ⟨w.heap.size + 1 + 1,3,none⟩ = false := (grownO_frozen hgr6 hz2 hn2).trans ((hb5.frozen (p := ⟨w.heap.size + 1 + 1,3,none⟩) hl2).trans (hfz 3 (by omega))); have m4 : w6.frozen? ⟨w.heap.size + 1 + 1,4,none⟩ = false := (grownO_frozen hgr6 hz2 hn2).trans ((hb5.frozen (p := ⟨w.heap.size + 1 + 1,4,none⟩) hl2).trans (hfz 4 (by omega))); have m5 : w6.frozen? ⟨w.heap.size + 1 + 1,5,none⟩ = false := (grownO_frozen hgr6 hz2 hn2).trans ((hb5.frozen (p := ⟨w.heap.size + 1 + 1,5,none⟩) hl2).trans (hfz 5 (by omega))); clear hmr6 hat6 hn0 hn1 hn2 hS1 r0 r1 r2 r3 r4 r5 hfz))
 all_goals
  try go_wp2
  have hj := HP.out.join (lo := W.heap.size) hB1 HMO.out HVS.out hBW.size hb5.size HM6.out HG6.out HT6.out
  refine bodyPost_ret (v := .agg #[.int .i64 mk,.int .i64 mop,.slice x0 mds.length y0,.slice x1 mks.length y1,.slice a6 (s1.length + s2.length) c6,.slice h2 ks.length j2]) (by simp [results,Tryz.results91,go_sem,t0,t1,t2,t3,t4,t5]) rfl ⟨⟨mk,mop,mds,x0,y0,mks,x1,y1,s1 ++ s2,a6,c6,ks,h2,j2,by rw [List.length_append],?_,?_,?_⟩,?_⟩
  ·rw [List.length_append]
   exact AOwn.setO6 hj.1 (fun x hx e => by rcases hj.2 x hx _ e with ⟨h1,_⟩ | h1 <;> (have h2 := HSW.out; omega))
  ·rw [MArm.arm_eq]
   simp only
   rw [HMN.out]
  ·rw [List.length_append]
   intro x hx q hq
   rcases hj.2 x hx q hq with ⟨_,y,hy,e⟩ | h1
   ·exact .inl ⟨y,HIN.out y hy,e⟩
   ·exact .inr (by have h2 := HSW.out; omega)
  ·have hB6 : w.grownBy w6 (Value.slice f1 s1.length g1).ownBlock := gbelow hB1 HG6.out
   clear hB1 hb5 hBW
   repeat (refine gsetO ?_ (by omega) _)
   exact hB6
def B6 (w : World) (b : Nat) (v0 v1 v2 v3 v4 v5 : Value) : Prop := b < w.heap.size ∧ (w.cell? ⟨b,0,none⟩ = some v0 ∧ w.cell? ⟨b,1,none⟩ = some v1 ∧ w.cell? ⟨b,2,none⟩ = some v2 ∧ w.cell? ⟨b,3,none⟩ = some v3 ∧ w.cell? ⟨b,4,none⟩ = some v4 ∧ w.cell? ⟨b,5,none⟩ = some v5) ∧ ∀ o,o < 6 -> w.frozen? ⟨b,o,none⟩ = false
theorem B6.below {w w' : World} {n b : Nat} {v0 v1 v2 v3 v4 v5 : Value} (h : B6 w b v0 v1 v2 v3 v4 v5) (hb : Below n w w') (hn : b < n) : B6 w' b v0 v1 v2 v3 v4 v5 := by
 obtain ⟨h0,⟨c0,c1,c2,c3,c4,c5⟩,f⟩ := h
 refine ⟨Nat.lt_of_lt_of_le h0 hb.size,⟨(hb.cell (p := ⟨b,0,none⟩) hn).trans c0,(hb.cell (p := ⟨b,1,none⟩) hn).trans c1,(hb.cell (p := ⟨b,2,none⟩) hn).trans c2,(hb.cell (p := ⟨b,3,none⟩) hn).trans c3,(hb.cell (p := ⟨b,4,none⟩) hn).trans c4,(hb.cell (p := ⟨b,5,none⟩) hn).trans c5⟩,fun o ho => (hb.frozen (p := ⟨b,o,none⟩) hn).trans (f o ho)⟩
theorem B6.at {w w' : World} {b : Nat} {v0 v1 v2 v3 v4 v5 : Value} (h : B6 w b v0 v1 v2 v3 v4 v5) (hb : Below w.heap.size w w') : B6 w' b v0 v1 v2 v3 v4 v5 := h.below hb h.1
theorem B6.grown {w w' : World} {b : Nat} {r : Option Nat} {v0 v1 v2 v3 v4 v5 : Value} (h : B6 w b v0 v1 v2 v3 v4 v5) (hg : w.grownBy w' r) (hne : r ≠ some b) : B6 w' b v0 v1 v2 v3 v4 v5 := by
 obtain ⟨h0,⟨c0,c1,c2,c3,c4,c5⟩,f⟩ := h
 exact ⟨Nat.lt_of_lt_of_le h0 hg.size,⟨(grownO_cell hg h0 hne).trans c0,(grownO_cell hg h0 hne).trans c1,(grownO_cell hg h0 hne).trans c2,(grownO_cell hg h0 hne).trans c3,(grownO_cell hg h0 hne).trans c4,(grownO_cell hg h0 hne).trans c5⟩,fun o ho => (grownO_frozen hg h0 hne).trans (f o ho)⟩
theorem B6.drew {w : World} {b : Nat} {v0 v1 v2 v3 v4 v5 : Value} (h : B6 w b v0 v1 v2 v3 v4 v5) : B6 w.drew b v0 v1 v2 v3 v4 v5 := h
theorem B6.setO {w : World} {b c o : Nat} {v0 v1 v2 v3 v4 v5 : Value} (h : B6 w b v0 v1 v2 v3 v4 v5) (hc : b ≠ c) (u : Value) : B6 (w.setCell ⟨c,o,none⟩ u) b v0 v1 v2 v3 v4 v5 := by
 obtain ⟨h0,⟨c0,c1,c2,c3,c4,c5⟩,f⟩ := h
 exact ⟨Nat.lt_of_lt_of_le h0 (sizeSet _ _ _),⟨(cellSetOther hc).trans c0,(cellSetOther hc).trans c1,(cellSetOther hc).trans c2,(cellSetOther hc).trans c3,(cellSetOther hc).trans c4,(cellSetOther hc).trans c5⟩,fun o ho => frozenS.trans (f o ho)⟩
theorem B6.set6O {w : World} {b c : Nat} {v0 v1 v2 v3 v4 v5 u0 u1 u2 u3 u4 u5 : Value} (h : B6 w b v0 v1 v2 v3 v4 v5) (hc : b ≠ c) : B6 ((((((w.setCell ⟨c,0,none⟩ u0).setCell ⟨c,1,none⟩ u1).setCell ⟨c,2,none⟩ u2).setCell ⟨c,3,none⟩ u3).setCell ⟨c,4,none⟩ u4).setCell ⟨c,5,none⟩ u5) b v0 v1 v2 v3 v4 v5 :=
 (((((h.setO hc u0).setO hc u1).setO hc u2).setO hc u3).setO hc u4).setO hc u5
theorem B6.set4O {w : World} {b c : Nat} {v0 v1 v2 v3 v4 v5 u0 u1 u2 u3 : Value} (h : B6 w b v0 v1 v2 v3 v4 v5) (hc : b ≠ c) : B6 ((((w.setCell ⟨c,0,none⟩ u0).setCell ⟨c,1,none⟩ u1).setCell ⟨c,2,none⟩ u2).setCell ⟨c,3,none⟩ u3) b v0 v1 v2 v3 v4 v5 :=
 (((h.setO hc u0).setO hc u1).setO hc u2).setO hc u3
theorem B6.set0 {w : World} {b : Nat} {v0 v1 v2 v3 v4 v5 : Value} (h : B6 w b v0 v1 v2 v3 v4 v5) (u : Value) : B6 (w.setCell ⟨b,0,none⟩ u) b u v1 v2 v3 v4 v5 := by
 obtain ⟨h0,⟨c0,c1,c2,c3,c4,c5⟩,f⟩ := h
 exact ⟨Nat.lt_of_lt_of_le h0 (sizeSet _ _ _),⟨cellSetAt c0,(cellSetOff (by omega)).trans c1,(cellSetOff (by omega)).trans c2,(cellSetOff (by omega)).trans c3,(cellSetOff (by omega)).trans c4,(cellSetOff (by omega)).trans c5⟩,fun o ho => frozenS.trans (f o ho)⟩
theorem B6.set1 {w : World} {b : Nat} {v0 v1 v2 v3 v4 v5 : Value} (h : B6 w b v0 v1 v2 v3 v4 v5) (u : Value) : B6 (w.setCell ⟨b,1,none⟩ u) b v0 u v2 v3 v4 v5 := by
 obtain ⟨h0,⟨c0,c1,c2,c3,c4,c5⟩,f⟩ := h
 exact ⟨Nat.lt_of_lt_of_le h0 (sizeSet _ _ _),⟨(cellSetOff (by omega)).trans c0,cellSetAt c1,(cellSetOff (by omega)).trans c2,(cellSetOff (by omega)).trans c3,(cellSetOff (by omega)).trans c4,(cellSetOff (by omega)).trans c5⟩,fun o ho => frozenS.trans (f o ho)⟩
theorem B6.set2 {w : World} {b : Nat} {v0 v1 v2 v3 v4 v5 : Value} (h : B6 w b v0 v1 v2 v3 v4 v5) (u : Value) : B6 (w.setCell ⟨b,2,none⟩ u) b v0 v1 u v3 v4 v5 := by
 obtain ⟨h0,⟨c0,c1,c2,c3,c4,c5⟩,f⟩ := h
 exact ⟨Nat.lt_of_lt_of_le h0 (sizeSet _ _ _),⟨(cellSetOff (by omega)).trans c0,(cellSetOff (by omega)).trans c1,cellSetAt c2,(cellSetOff (by omega)).trans c3,(cellSetOff (by omega)).trans c4,(cellSetOff (by omega)).trans c5⟩,fun o ho => frozenS.trans (f o ho)⟩
theorem B6.set3 {w : World} {b : Nat} {v0 v1 v2 v3 v4 v5 : Value} (h : B6 w b v0 v1 v2 v3 v4 v5) (u : Value) : B6 (w.setCell ⟨b,3,none⟩ u) b v0 v1 v2 u v4 v5 := by
 obtain ⟨h0,⟨c0,c1,c2,c3,c4,c5⟩,f⟩ := h
 exact ⟨Nat.lt_of_lt_of_le h0 (sizeSet _ _ _),⟨(cellSetOff (by omega)).trans c0,(cellSetOff (by omega)).trans c1,(cellSetOff (by omega)).trans c2,cellSetAt c3,(cellSetOff (by omega)).trans c4,(cellSetOff (by omega)).trans c5⟩,fun o ho => frozenS.trans (f o ho)⟩
theorem B6.set4 {w : World} {b : Nat} {v0 v1 v2 v3 v4 v5 : Value} (h : B6 w b v0 v1 v2 v3 v4 v5) (u : Value) : B6 (w.setCell ⟨b,4,none⟩ u) b v0 v1 v2 v3 u v5 := by
 obtain ⟨h0,⟨c0,c1,c2,c3,c4,c5⟩,f⟩ := h
 exact ⟨Nat.lt_of_lt_of_le h0 (sizeSet _ _ _),⟨(cellSetOff (by omega)).trans c0,(cellSetOff (by omega)).trans c1,(cellSetOff (by omega)).trans c2,(cellSetOff (by omega)).trans c3,cellSetAt c4,(cellSetOff (by omega)).trans c5⟩,fun o ho => frozenS.trans (f o ho)⟩
theorem B6.set5 {w : World} {b : Nat} {v0 v1 v2 v3 v4 v5 : Value} (h : B6 w b v0 v1 v2 v3 v4 v5) (u : Value) : B6 (w.setCell ⟨b,5,none⟩ u) b v0 v1 v2 v3 v4 u := by
 obtain ⟨h0,⟨c0,c1,c2,c3,c4,c5⟩,f⟩ := h
 exact ⟨Nat.lt_of_lt_of_le h0 (sizeSet _ _ _),⟨(cellSetOff (by omega)).trans c0,(cellSetOff (by omega)).trans c1,(cellSetOff (by omega)).trans c2,(cellSetOff (by omega)).trans c3,(cellSetOff (by omega)).trans c4,cellSetAt c5⟩,fun o ho => frozenS.trans (f o ho)⟩
theorem B6.set6 {w : World} {b : Nat} {v0 v1 v2 v3 v4 v5 u0 u1 u2 u3 u4 u5 : Value} (h : B6 w b v0 v1 v2 v3 v4 v5) : B6 ((((((w.setCell ⟨b,0,none⟩ u0).setCell ⟨b,1,none⟩ u1).setCell ⟨b,2,none⟩ u2).setCell ⟨b,3,none⟩ u3).setCell ⟨b,4,none⟩ u4).setCell ⟨b,5,none⟩ u5) b u0 u1 u2 u3 u4 u5 :=
 (((((h.set0 u0).set1 u1).set2 u2).set3 u3).set4 u4).set5 u5
theorem B6.setN {w : World} {b : Nat} {v0 v1 v2 v3 v4 v5 u0 u1 u2 u3 : Value} (h : B6 w b v0 v1 v2 v3 v4 v5) : B6 ((((w.setCell ⟨b,0,none⟩ u0).setCell ⟨b,1,none⟩ u1).setCell ⟨b,2,none⟩ u2).setCell ⟨b,3,none⟩ u3) b u0 u1 u2 u3 v4 v5 :=
 (((h.set0 u0).set1 u1).set2 u2).set3 u3
theorem B6.new (w : World) (v0 v1 v2 v3 v4 v5 : Value) (t : TypeId) : B6 (w.alloc (.cells #[v0,v1,v2,v3,v4,v5] t)) w.heap.size v0 v1 v2 v3 v4 v5 := by
 refine ⟨by simp,⟨?_,?_,?_,?_,?_,?_⟩,fun o _ => ?_⟩ <;> simp [go_sem]
/-- The arm m in the variable b. -/
def BoxA (w : World) (b : Nat) (m : MArm) : Prop := B6 w b (.int .i64 m.net.kind) (.int .i64 m.net.op) m.net.av m.net.kv m.cv m.kv
end Go.Proofs.YtenoanhonjdpjaaGreatDoor
