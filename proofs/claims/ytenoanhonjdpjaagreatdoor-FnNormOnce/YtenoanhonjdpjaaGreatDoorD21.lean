/- Contracts of the specification's draws: a ladder is spoilt. -/
import Derived.Test.YtenoanhonjdpjaaGreatDoorHb
import Derived.Test.YtenoanhonjdpjaaGreatDoorHc
namespace Go.Proofs.YtenoanhonjdpjaaGreatDoor
open Go.RowKit Go.Sort Go.BigFrame
/-- What spoiling a ladder leaves: arms in the memory that was told and in new. -/
def LadOutQ (Q : Nat → Prop) (e : Ending) (w w' : World) (g P N k : Nat) : Prop := ∃ (l : List Stil.Arm) (v : Value),e = .returned v ∧ ArmsIn (Fr Q w.heap.size w.heap.size) w' v l ∧ (∀ a ∈ l,ATame a ∧ Stil.armSz a ≤ N) ∧ l.length ≤ k ∧ RdAt w' g P ∧ w.grownBy w' (some g)
theorem fro_arm {Q : Nat → Prop} {n m : Nat} {v v' : Value} {w w' : World} {cs : List Value} {a : Stil.Arm} (h : ArmC (FrO Q n m v) w cs a) (hg : w.grownBy w' v.ownBlock) (ha : v'.ownBlock = v.ownBlock ∨ v'.ownBlock = some w.heap.size) : ArmC (FrO Q n m v') w' cs a := by
 have h1 : ArmC (fun b => FrO Q n m v b ∧ FrO Q n m v' b) w cs a := h.mono fun b hb hp => ⟨hp,hp.1,fun e => by
  rcases ha with h | h
  ·exact hp.2 (h ▸ e)
  ·rw [h] at e
   simp only [Option.some.injEq] at e
   omega⟩
 exact (h1.keep (keep_mono (FrO.keep hg) fun b _ hp => hp.1)).mono fun b _ hp => hp.2
theorem own_not {v v' : Value} {B n : Nat} (h : v.ownBlock ≠ some B) (ha : v'.ownBlock = v.ownBlock ∨ v'.ownBlock = some n) (hn : B < n) : v'.ownBlock ≠ some B := by
 rcases ha with e | e
 ·rw [e]; exact h
 ·rw [e]
  intro e
  simp only [Option.some.injEq] at e
  omega
theorem own_keepO {w w' : World} {base : Nat} {e : TypeId} {size : Nat} {v : Value} {n : Nat} {xs : List Value} {r : Option Nat} (h : w.ownsRow base e size v n xs) (hg : w.grownBy w' r) (hr : ∀ k,v.ownBlock = some k → r ≠ some k) : w'.ownsRow base e size v n xs := by
 refine ⟨h.1,?_⟩
 rcases h.2 with h0 | ⟨k,cap,cur,hv,hk,hh,hrest⟩
 ·exact Or.inl h0
 ·have hb : v.ownBlock = some k := by rw [hv]; rfl
  exact Or.inr ⟨k,cap,cur,hv,hk,by rw [hg.block k (h.lt k hb).2 (fun e => hr k hb e.symm)]; exact hh,hrest⟩
/-- Blocks that were told,but for the list's own. -/
def Ofv (R : Nat → Prop) (v : Value) (b : Nat) : Prop := R b ∧ v.ownBlock ≠ some b
theorem ofv_elem {R : Nat → Prop} {v v' : Value} {w w' : World} {cs : List Value} {a : Stil.Elem} (h : ElemC (Ofv R v) w cs a) (hg : w.grownBy w' v.ownBlock) (ha : v'.ownBlock = v.ownBlock ∨ v'.ownBlock = some w.heap.size) : ElemC (Ofv R v') w' cs a := by
 have h1 : ElemC (fun b => Ofv R v b ∧ Ofv R v' b) w cs a := h.mono fun b hb hp => ⟨hp,hp.1,fun e => by
  rcases ha with h | h
  ·exact hp.2 (h ▸ e)
  ·rw [h] at e
   simp only [Option.some.injEq] at e
   omega⟩
 exact (h1.keep (keep_mono (KeepsIn.of_grown (P := Ofv R v) hg fun _ hb => hb.2) fun b _ hp => hp.1)).mono fun b _ hp => hp.2
theorem elBox_grownO {w w' : World} {b : Nat} {op : Int} {v : Value} {r : Option Nat} (h : ElBox w b op v) (hg : w.grownBy w' r) (hr : r ≠ some b) : ElBox w' b op v := by
 obtain ⟨h0,h1⟩ := h
 have e : w'.heap[b]? = w.heap[b]? := hg.block b h0 (fun x => hr x.symm)
 have hc : ∀ o,w'.cell? ⟨b,o,none⟩ = w.cell? ⟨b,o,none⟩ := fun o => by unfold World.cell?; rw [e]
 have hf : ∀ o,w'.frozen? ⟨b,o,none⟩ = w.frozen? ⟨b,o,none⟩ := fun o => by unfold World.frozen?; rw [e]
 refine ⟨Nat.lt_of_lt_of_le h0 hg.size,?_⟩
 rw [hc,hc,hf,hf]
 exact h1
/-- A row of arms,the coils of one written anew. -/
theorem arm_coils {R : Nat → Prop} {w : World} {base bb cap k n : Nat} {xs : List Value} {ns : List Stil.Arm} {E : List Stil.Elem} {cv : Value} (h : w.ownsRow base 36 6 (.slice (some ⟨bb,0,none⟩) n cap) n xs) (hr : RowOf 6 (ArmC R w) xs ns) (hk : k < ns.length) (hn : ¬ R bb) (hcv : ElemsIn R w cv E) :
  ∃ ys,(w.setCell ⟨bb,k * 6 + 4,none⟩ cv).ownsRow base 36 6 (.slice (some ⟨bb,0,none⟩) n cap) n ys ∧ RowOf 6 (ArmC R (w.setCell ⟨bb,k * 6 + 4,none⟩ cv)) ys (ns.set k ⟨ns[k].net,E,ns[k].kids⟩) := by
 refine ⟨_,(h.stored (k * 6 + 4) _).1,?_⟩
 have hkp : KeepsIn R w (w.setCell ⟨bb,k * 6 + 4,none⟩ cv) := KeepsIn.set hn _
 obtain ⟨av,nv,cv0,kv,he,h1,h2,h3,h4⟩ := hr.2 k hk
 have hx := row_at hr hk he
 have hl : xs.length = ns.length * 6 := hr.1
 refine RowOf.set (hr.imp fun _ _ _ h => h.keep hkp) hk (by simp) ⟨av,nv,cv,kv,?_,h1.keep hkp,h2.keep hkp,hcv.keep hkp,h4.keep hkp⟩ ?_
 ·apply List.ext_getElem?
  intro j
  rw [List.getElem?_take]
  by_cases hj : j < 6
  ·rw [if_pos hj,List.getElem?_drop]
   have : j = 0 ∨ j = 1 ∨ j = 2 ∨ j = 3 ∨ j = 4 ∨ j = 5 := by omega
   rcases this with rfl | rfl | rfl | rfl | rfl | rfl
   ·rw [List.getElem?_set_ne (by omega)]; exact hx 0 _ rfl
   ·rw [List.getElem?_set_ne (by omega)]; exact hx 1 _ rfl
   ·rw [List.getElem?_set_ne (by omega)]; exact hx 2 _ rfl
   ·rw [List.getElem?_set_ne (by omega)]; exact hx 3 _ rfl
   ·rw [List.getElem?_set_self (by omega)]; rfl
   ·rw [List.getElem?_set_ne (by omega)]; exact hx 5 _ rfl
  ·rw [if_neg hj,List.getElem?_eq_none (by simp; omega)]
 ·intro j hj
  rw [List.getElem?_set_ne (by omega)]
theorem coils_sz (X : Stil.Arm) (E : List Stil.Elem) : X.coils.length ≤ Stil.armSz X ∧ Stil.elemsSz X.coils ≤ Stil.armSz X ∧ Stil.armSz ⟨X.net,E,X.kids⟩ + Stil.elemsSz X.coils = Stil.armSz X + Stil.elemsSz E := by
 obtain ⟨n,cs,ks⟩ := X
 have h1 := Stil.armSz_eq n cs ks
 have h2 := Stil.armSz_eq n E ks
 have h3 : Stil.elemsSz cs = cs.length + (cs.map Stil.elemSz).sum := rfl
 show cs.length ≤ Stil.armSz ⟨n,cs,ks⟩ ∧ Stil.elemsSz cs ≤ Stil.armSz ⟨n,cs,ks⟩ ∧ Stil.armSz ⟨n,E,ks⟩ + Stil.elemsSz cs = Stil.armSz ⟨n,cs,ks⟩ + Stil.elemsSz E
 omega
set_option maxHeartbeats 4000000 in
set_option maxRecDepth 100000 in
theorem s_l3Spoil (Q : Nat → Prop) (g P N K : Nat) (w : World) (v : Value) (l : List Stil.Arm) (hQ : ∀ b,Q b → g < b) (hv : ArmsIn Q w v l) (ht : ∀ a ∈ l,ATame a ∧ Stil.armSz a ≤ N) (hl : l.length ≤ K) (hK : K ≤ 1000) (hN : N ≤ 20000) (hr : RdAt w g P) (hP : P ≤ 2000000) :
  Calls Tryz.prog 32 #[.pointer (some ⟨g,0,none⟩),v] w fun e w' => LadOutQ Q e w w' g (P + 300000) (N + 2000) (K + 100) := by
 have hg := rd_lt hr
 obtain ⟨ia,hia,hia0,hia1,hia2⟩ := info_parts info_arm
 have HV : Hid (ArmsIn Q w v l) := hv
 have HT : Hid (∀ a ∈ l,ATame a ∧ Stil.armSz a ≤ N) := ht
 have HQ : Hid (∀ b,Q b → g < b) := hQ
 obtain ⟨a1,c1,rfl,-⟩ := hv
 clear ht hQ
 go_enter Tryz.func32,Tryz.ntmps32
 go_upto_region 2 with (at_builtin; refine wpList_copy_arms rfl _ _ rfl Q w l (.slice a1 l.length c1) rfl rfl rfl HV.out (by omega) ?_; intro bb cc w3 xs hown hrow hbb1 hbb2 hgr3; have HOW : Hid (w3.ownsRow w.heap.size 36 6 (.slice (some ⟨bb,0,none⟩) l.length cc) l.length xs) := hown; have HRW : Hid (RowOf 6 (ArmC (fun b => Q b ∧ b < w.heap.size) w3) xs l) := hrow; have HG3 : Hid ((w.alloc (.cells #[] 36)).grownBy w3 (some w.heap.size)) := hgr3; clear hown hrow hgr3)
 have s3 := HG3.out.size
 rw [World.size_alloc] at s3
 have HR3 : Hid (RowOf 6 (ArmC (fun b => Fr Q w.heap.size w.heap.size b ∧ b ≠ bb) w3) xs l) := HRW.out.imp fun _ _ _ h => h.mono fun b _ hb => ⟨Or.inl hb,by have := hb.2; omega⟩
 have hrd3 : RdAt w3 g P := rd_grown (rd_alloc hr _) HG3.out (by intro j hj; simp only [Option.some.injEq] at hj; omega)
 have hgq3 : w.grownBy w3 (some g) := gr_own (gr_alloc (grown_refl _ _) _) HG3.out (by intro j hj; simp only [Option.some.injEq] at hj; omega)
 clear HRW HG3 HV hr
 by_cases hl0 : l.length = 0
 ·have hz : ((l.length : Int) == 0) = true := by rw [beq_iff_eq]; omega
  go_wp2_with (at_builtin; refine wpList_append_own_at _ rfl _ _ 23 rfl w.heap.size 36 ia (.agg #[.int .i64 0,.int .i64 0,.slice none 0 0,.slice none 0 0,.slice none 0 0,.slice none 0 0]) 6 112 Tryz.underlying23 hia hia0 hia1 hia2 rfl (by decide) _ _ _ rfl (HOW.out.alloc _) _ _ _ [.int .i64 0,.int .i64 0,.slice none 0 0,.slice none 0 0,.slice none 0 0,.slice none 0 0] rfl rfl (by exact cells_new _ _ _ _ (by simp)) (by intro u hu; simp only [List.mem_cons,List.not_mem_nil,or_false] at hu; rcases hu with rfl | rfl | rfl | rfl | rfl | rfl <;> rfl) (by unfold maxLen; omega) (by omega) (by simp only [World.size_alloc]; omega) ?_; intro v' w6 hown6 hgr6 hnil6 hat6)
  have HG6 : (w3.alloc (.cells #[.int .i64 0,.int .i64 0,.slice none 0 0,.slice none 0 0,.slice none 0 0,.slice none 0 0] 36)).grownBy w6 (some bb) := hgr6
  have hR6 := arms_longer (R' := (Fr Q w.heap.size w.heap.size)) (v := .slice (some ⟨bb,0,none⟩) l.length cc) (n := ⟨⟨0,⟨0,[]⟩,[]⟩,[],[]⟩) (HR3.out.imp fun _ _ _ h => h.keep (KeepsIn.of_below (below_alloc w3 (.cells #[.int .i64 0,.int .i64 0,.slice none 0 0,.slice none 0 0,.slice none 0 0,.slice none 0 0] 36)))) ⟨_,_,_,_,rfl,devs_nil _ _,nets_nil _ _,elems_nil _ _,arms_nil _ _⟩ rfl HG6 (fun b hb e => hb.2 (by simpa [Value.ownBlock] using e.symm)) (fun b hb => hb.1)
  have e6 : l.length + 1 = (l ++ [(⟨⟨0,⟨0,[]⟩,[]⟩,[],[]⟩ : Stil.Arm)]).length := by simp
  go_ret
  refine ⟨l ++ [⟨⟨0,⟨0,[]⟩,[]⟩,[],[]⟩],_,rfl,armsIn_of_row (by rw [e6] at hown6; exact hown6) hR6 (fun b hb => Or.inr (hown6.lt _ hb).1),?_,by rw [← e6]; omega,rd_mono (rd_grown (rd_alloc hrd3 _) HG6 (by intro j hj; simp only [Option.some.injEq] at hj; omega)) (by omega),gr_own (gr_alloc hgq3 _) HG6 (by intro j hj; simp only [Option.some.injEq] at hj; omega)⟩
  intro a ha
  rcases List.mem_append.1 ha with h | h
  ·exact ⟨(HT.out a h).1,by have := (HT.out a h).2; omega⟩
  ·rw [List.mem_singleton.1 h]
   refine ⟨(ATame_eq _ _ _).2 ⟨tame_none,fun _ h => (by cases h),fun _ h => (by cases h)⟩,?_⟩
   rw [Stil.armSz_eq,Stil.netSz_eq]
   simp [Stil.elemsSz]
 have hlz : ((l.length : Int) == 0) = false := by rw [beq_eq_false_iff_ne]; omega
 go_upto_region 5 with (go_at_call_of 31 (Value.int IntKind.i64 10); refine (s_pick g _ _ _ raA (by omega) (by omega) (by omega)).mono ?_; rintro e w4 ⟨x,rfl,hx0,hx1,hrd4,hgr4⟩)
 have hkc4 : KeepsIn (fun b => Fr Q w.heap.size w.heap.size b ∧ b ≠ bb) w3 w4 := keep_mono (fr_call HQ.out (by omega) hgr4) (fun b _ h => h.1)
 have HOW4 : Hid (w4.ownsRow w.heap.size 36 6 (.slice (some ⟨bb,0,none⟩) l.length cc) l.length xs) := own_grown HOW.out hgr4 (by omega)
 have HR4 : Hid (RowOf 6 (ArmC (fun b => Fr Q w.heap.size w.heap.size b ∧ b ≠ bb) w4) xs l) := HR3.out.imp fun _ _ _ h => h.keep hkc4
 have hgq4 : w.grownBy w4 (some g) := gr_call hgq3 hgr4
 have s4 := hgr4.size
 clear HOW HR3 hrd3 hgq3 hgr4 hkc4
 by_cases hx2 : x = 0
 ·subst hx2
  go_wp2_with (first | (go_at_call 67; refine (s_l2Contact g _ _ raA (by omega)).mono ?_; rintro e w5 ⟨eop,ev,eds,rfl,ehop,ehv,ehs,ehl,hrd,hgr5⟩; obtain ⟨ea,ec,rfl,_,_⟩ := id ehv) | (go_at_call 64; refine (s_l2Coil g _ _ raA (by omega)).mono ?_; rintro e w6 ⟨fop,fv,fds,rfl,fhop,fhv,fhs,fhl,hrd,hgr6⟩; obtain ⟨fa,fc,rfl,_,_⟩ := id fhv))
  have s5 := hgr5.size
  have s6 := hgr6.size
  have kc : ∀ {u v : World},u.grownBy v (some g) → KeepsIn (fun b => Fr Q w.heap.size w.heap.size b ∧ b ≠ bb) u v := fun h => keep_mono (fr_call HQ.out (by omega) h) (fun b _ h => h.1)
  have ka : ∀ (u : World) (o : Obj),KeepsIn (fun b => Fr Q w.heap.size w.heap.size b ∧ b ≠ bb) u (u.alloc o) := fun u o => KeepsIn.of_below (below_alloc _ _)
  have hfo : ∀ b,(fun b => Fr Q w.heap.size w.heap.size b ∧ b ≠ bb) b → (FrO Q w.heap.size w.heap.size (.slice (some ⟨bb,0,none⟩) l.length cc)) b := fun b hb => ⟨hb.1,fun e => hb.2 (by simpa [Value.ownBlock] using e.symm)⟩
  have hed : DevsIn (fun b => Fr Q w.heap.size w.heap.size b ∧ b ≠ bb) w6 (.slice ea eds.length ec) eds := ((devs_of_el ehv).mono (fun b _ hb => ⟨Or.inr (by omega),by omega⟩)).keep (kc hgr6)
  have hfd : DevsIn (fun b => Fr Q w.heap.size w.heap.size b ∧ b ≠ bb) w6 (.slice fa fds.length fc) fds := (devs_of_el fhv).mono (fun b _ hb => ⟨Or.inr (by omega),by omega⟩)
  have hel : ElemsIn (fun b => Fr Q w.heap.size w.heap.size b ∧ b ≠ bb) ((w6.alloc (.cells #[.int .i64 fop,.slice fa fds.length fc] 30)).alloc (.cells #[.int .i64 1,.int .i64 eop,.slice ea eds.length ec,.slice none 0 0,.slice (some ⟨w6.heap.size,0,none⟩) 1 1,.slice none 0 0] 36)) (.slice (some ⟨w6.heap.size,0,none⟩) 1 1) [⟨fop,fds⟩] := (elems_lit (b := w6.heap.size) (ns := [⟨fop,fds⟩]) rfl (RowOf.one (cs := [.int .i64 fop,.slice fa fds.length fc]) rfl ⟨_,rfl,hfd⟩) ⟨Or.inr (by omega),by omega⟩ (by simp)).keep (ka _ _)
  have hac : ArmC (FrO Q w.heap.size w.heap.size (.slice (some ⟨bb,0,none⟩) l.length cc)) ((w6.alloc (.cells #[.int .i64 fop,.slice fa fds.length fc] 30)).alloc (.cells #[.int .i64 1,.int .i64 eop,.slice ea eds.length ec,.slice none 0 0,.slice (some ⟨w6.heap.size,0,none⟩) 1 1,.slice none 0 0] 36)) [.int .i64 1,.int .i64 eop,.slice ea eds.length ec,.slice none 0 0,.slice (some ⟨w6.heap.size,0,none⟩) 1 1,.slice none 0 0] ⟨⟨1,⟨eop,eds⟩,[]⟩,[⟨fop,fds⟩],[]⟩ := ArmC.mono (Q := (fun b => Fr Q w.heap.size w.heap.size b ∧ b ≠ bb)) ⟨_,_,_,_,rfl,(hed.keep (ka _ _)).keep (ka _ _),nets_nil _ _,hel,arms_nil _ _⟩ (fun b _ => hfo b)
  have hta : ATame ⟨⟨1,⟨eop,eds⟩,[]⟩,[⟨fop,fds⟩],[]⟩ ∧ Stil.armSz ⟨⟨1,⟨eop,eds⟩,[]⟩,[⟨fop,fds⟩],[]⟩ ≤ 20 := by
   refine ⟨(ATame_eq _ _ _).2 ⟨tame_contact (by decide) ehop ehs (by omega),fun c hc => ?_,fun _ h => (by cases h)⟩,?_⟩
   ·rw [List.mem_singleton.1 hc]; exact ⟨fhop,fhs,by show fds.length ≤ 100000; omega⟩
   ·rw [Stil.armSz_eq,Stil.netSz_eq]
    simp [Stil.elemsSz,Stil.elemSz]
    omega
  have HTA : Hid (ATame ⟨⟨1,⟨eop,eds⟩,[]⟩,[⟨fop,fds⟩],[]⟩ ∧ Stil.armSz ⟨⟨1,⟨eop,eds⟩,[]⟩,[⟨fop,fds⟩],[]⟩ ≤ 20) := hta
  obtain ⟨B,hB⟩ : ∃ B,B = w6.heap.size + 1 := ⟨_,rfl⟩
  have hst : ∃ (L : List Stil.Arm) (zs : List Value),((w6.alloc (.cells #[.int .i64 fop,.slice fa fds.length fc] 30)).alloc (.cells #[.int .i64 1,.int .i64 eop,.slice ea eds.length ec,.slice none 0 0,.slice (some ⟨w6.heap.size,0,none⟩) 1 1,.slice none 0 0] 36)).ownsRow w.heap.size 36 6 (.slice (some ⟨bb,0,none⟩) l.length cc) L.length zs ∧ RowOf 6 (ArmC (FrO Q w.heap.size w.heap.size (.slice (some ⟨bb,0,none⟩) l.length cc)) ((w6.alloc (.cells #[.int .i64 fop,.slice fa fds.length fc] 30)).alloc (.cells #[.int .i64 1,.int .i64 eop,.slice ea eds.length ec,.slice none 0 0,.slice (some ⟨w6.heap.size,0,none⟩) 1 1,.slice none 0 0] 36))) zs L ∧ ArmC (FrO Q w.heap.size w.heap.size (.slice (some ⟨bb,0,none⟩) l.length cc)) ((w6.alloc (.cells #[.int .i64 fop,.slice fa fds.length fc] 30)).alloc (.cells #[.int .i64 1,.int .i64 eop,.slice ea eds.length ec,.slice none 0 0,.slice (some ⟨w6.heap.size,0,none⟩) 1 1,.slice none 0 0] 36)) [.int .i64 1,.int .i64 eop,.slice ea eds.length ec,.slice none 0 0,.slice (some ⟨w6.heap.size,0,none⟩) 1 1,.slice none 0 0] ⟨⟨1,⟨eop,eds⟩,[]⟩,[⟨fop,fds⟩],[]⟩ ∧ ABox ((w6.alloc (.cells #[.int .i64 fop,.slice fa fds.length fc] 30)).alloc (.cells #[.int .i64 1,.int .i64 eop,.slice ea eds.length ec,.slice none 0 0,.slice (some ⟨w6.heap.size,0,none⟩) 1 1,.slice none 0 0] 36)) B 1 eop (.slice ea eds.length ec) (.slice none 0 0) (.slice (some ⟨w6.heap.size,0,none⟩) 1 1) (.slice none 0 0) ∧ (Value.slice (some ⟨bb,0,none⟩) l.length cc).ownBlock ≠ some B ∧ (∀ a ∈ L,ATame a ∧ Stil.armSz a ≤ N + 2000) ∧ L.length ≤ K + 41 ∧ RdAt ((w6.alloc (.cells #[.int .i64 fop,.slice fa fds.length fc] 30)).alloc (.cells #[.int .i64 1,.int .i64 eop,.slice ea eds.length ec,.slice none 0 0,.slice (some ⟨w6.heap.size,0,none⟩) 1 1,.slice none 0 0] 36)) g (P + 200 + L.length) ∧ w.grownBy ((w6.alloc (.cells #[.int .i64 fop,.slice fa fds.length fc] 30)).alloc (.cells #[.int .i64 1,.int .i64 eop,.slice ea eds.length ec,.slice none 0 0,.slice (some ⟨w6.heap.size,0,none⟩) 1 1,.slice none 0 0] 36)) (some g) := by
   refine ⟨l,xs,((own_grown (own_grown HOW4.out hgr5 (by omega)) hgr6 (by omega)).alloc _).alloc _,HR4.out.imp fun _ _ _ h => ((((h.keep (kc hgr5)).keep (kc hgr6)).keep (ka _ _)).keep (ka _ _)).mono (fun b _ => hfo b),hac,?_,?_,fun a ha => ⟨(HT.out a ha).1,by have := (HT.out a ha).2; omega⟩,by omega,?_,?_⟩
   ·rw [hB]
    exact abA
   ·intro e
    have : bb = B := by simpa [Value.ownBlock] using e
    omega
   ·exact rd_mono (rd_alloc (rd_alloc hrd _) _) (by omega)
   ·exact gr_alloc (gr_alloc (gr_call (gr_call hgq4 hgr5) hgr6) _) _
  rw [← hB]
  have hBw : w.heap.size ≤ B := by omega
  clear hta hac hel hfd hed hfo ka kc ehv fhv ehs fhs HOW4 HR4 hgr5 hgr6 hgq4 hrd4 hB
  go_loopw [5] (fun o wq => ∃ (L : List Stil.Arm) (zs : List Value),wq.ownsRow w.heap.size 36 6 o L.length zs ∧ RowOf 6 (ArmC (FrO Q w.heap.size w.heap.size o) wq) zs L ∧ ArmC (FrO Q w.heap.size w.heap.size o) wq [.int .i64 1,.int .i64 eop,.slice ea eds.length ec,.slice none 0 0,.slice (some ⟨w6.heap.size,0,none⟩) 1 1,.slice none 0 0] ⟨⟨1,⟨eop,eds⟩,[]⟩,[⟨fop,fds⟩],[]⟩ ∧ ABox wq B 1 eop (.slice ea eds.length ec) (.slice none 0 0) (.slice (some ⟨w6.heap.size,0,none⟩) 1 1) (.slice none 0 0) ∧ o.ownBlock ≠ some B ∧ (∀ a ∈ L,ATame a ∧ Stil.armSz a ≤ N + 2000) ∧ L.length ≤ K + 41 ∧ RdAt wq g (P + 200 + L.length) ∧ w.grownBy wq (some g)) (fun o _ => 41 - lenV o)
  case atStart => exact hst
  case round =>
   clear hst
   obtain ⟨L,zs,hown,hrow,harm,hbx,hnb,htl,hll,hrdL,hgqL⟩ := hrel
   obtain ⟨o1,c2,ho,-⟩ := own_open hown
   subst ho
   have HOW : Hid (wr.ownsRow w.heap.size 36 6 (.slice o1 L.length c2) L.length zs) := hown
   have HRW : Hid (RowOf 6 (ArmC (FrO Q w.heap.size w.heap.size (.slice o1 L.length c2)) wr) zs L) := hrow
   have HARM : Hid (ArmC (FrO Q w.heap.size w.heap.size (.slice o1 L.length c2)) wr [.int .i64 1,.int .i64 eop,.slice ea eds.length ec,.slice none 0 0,.slice (some ⟨w6.heap.size,0,none⟩) 1 1,.slice none 0 0] ⟨⟨1,⟨eop,eds⟩,[]⟩,[⟨fop,fds⟩],[]⟩) := harm
   have HBX : Hid (ABox wr B 1 eop (.slice ea eds.length ec) (.slice none 0 0) (.slice (some ⟨w6.heap.size,0,none⟩) 1 1) (.slice none 0 0)) := hbx
   have HNB : Hid ((Value.slice o1 L.length c2).ownBlock ≠ some B) := hnb
   have HTL : Hid (∀ a ∈ L,ATame a ∧ Stil.armSz a ≤ N + 2000) := htl
   have hBl := hbx.1
   have HFG : Hid (∀ b,(FrO Q w.heap.size w.heap.size (.slice o1 L.length c2)) b → some g ≠ some b) := fun b hb e => by
    simp only [Option.some.injEq] at e
    rcases hb.1 with h | h
    ·have := HQ.out b h.1; omega
    ·omega
   clear hown hrow harm hbx hnb htl
   go_wp2_with (first | (go_at_call_of 31 (Value.int IntKind.i64 2); refine (s_pick g _ _ _ hrdL (by omega) (by omega) (by omega)).mono ?_; rintro e w7 ⟨y,rfl,hy0,hy1,hrd7,hgr7⟩; have HBX7 : Hid (ABox w7 B 1 eop (.slice ea eds.length ec) (.slice none 0 0) (.slice (some ⟨w6.heap.size,0,none⟩) 1 1) (.slice none 0 0)) := HBX.out.grownO hgr7 (by intro e; simp only [Option.some.injEq] at e; omega); obtain ⟨hz1,q0,q1,q2,q3,q4,q5,p0,p1,p2,p3,p4,p5⟩ := HBX7.out) | (at_builtin; refine wpList_append_own_at _ rfl _ _ 23 rfl w.heap.size 36 ia (.agg #[.int .i64 0,.int .i64 0,.slice none 0 0,.slice none 0 0,.slice none 0 0,.slice none 0 0]) 6 112 Tryz.underlying23 hia hia0 hia1 hia2 rfl (by decide) _ _ _ rfl ((own_grown HOW.out hgr7 (by omega)).alloc _) _ _ _ [.int .i64 1,.int .i64 eop,.slice ea eds.length ec,.slice none 0 0,.slice (some ⟨w6.heap.size,0,none⟩) 1 1,.slice none 0 0] rfl rfl (by exact cells_new _ _ _ _ (by simp)) (by intro u hu; simp only [List.mem_cons,List.not_mem_nil,or_false] at hu; rcases hu with rfl | rfl | rfl | rfl | rfl | rfl <;> rfl) (by unfold maxLen; omega) (by omega) (by simp only [World.size_alloc]; have := hgr7.size; omega) ?_; intro v' w8 hown8 hgr8 hnil8 hat8; clear q0 q1 q2 q3 q4 q5 p0 p1 p2 p3 p4 p5))
   ·have kg : KeepsIn (FrO Q w.heap.size w.heap.size (.slice o1 L.length c2)) wr w7 := KeepsIn.of_grown hgr7 (fun b hb e => HFG.out b hb e)
    have kk : KeepsIn (FrO Q w.heap.size w.heap.size (.slice o1 L.length c2)) wr (w7.alloc (.cells #[.int .i64 1,.int .i64 eop,.slice ea eds.length ec,.slice none 0 0,.slice (some ⟨w6.heap.size,0,none⟩) 1 1,.slice none 0 0] 36)) := kg.trans (KeepsIn.of_below (below_alloc _ _))
    have s7 := hgr7.size
    have e6 : L.length + 1 = (L ++ [(⟨⟨1,⟨eop,eds⟩,[]⟩,[⟨fop,fds⟩],[]⟩ : Stil.Arm)]).length := by simp
    have ha8 := fro_arm (HARM.out.keep kk) hgr8 hat8
    have hr8 : RowOf 6 (ArmC (FrO Q w.heap.size w.heap.size v') w8) (zs ++ [.int .i64 1,.int .i64 eop,.slice ea eds.length ec,.slice none 0 0,.slice (some ⟨w6.heap.size,0,none⟩) 1 1,.slice none 0 0]) (L ++ [⟨⟨1,⟨eop,eds⟩,[]⟩,[⟨fop,fds⟩],[]⟩]) := ((HRW.out.imp fun _ _ _ h => h.keep kk).append (RowOf.one rfl (HARM.out.keep kk))).imp fun _ _ _ h => fro_arm h hgr8 hat8
    refine ⟨⟨L ++ [⟨⟨1,⟨eop,eds⟩,[]⟩,[⟨fop,fds⟩],[]⟩],_,by rw [e6] at hown8; exact hown8,hr8,ha8,(HBX7.out.alloc _).grownO hgr8 (fun e => HNB.out e),own_not HNB.out hat8 (by rw [World.size_alloc]; omega),?_,by rw [← e6]; omega,?_,?_⟩,?_⟩
    ·intro a ha
     rcases List.mem_append.1 ha with h | h
     ·exact HTL.out a h
     ·rw [List.mem_singleton.1 h]; exact ⟨HTA.out.1,by have := HTA.out.2; omega⟩
    ·exact rd_mono (rd_grown (rd_alloc hrd7 _) hgr8 (fun k hk => by have := (HOW.out.lt _ hk).1; omega)) (by rw [← e6]; omega)
    ·exact gr_own (gr_alloc (gr_call hgqL hgr7) _) hgr8 (fun k hk => (HOW.out.lt _ hk).1)
    ·obtain ⟨o3,c3,ho3,-⟩ := own_open hown8
     rw [ho3]
     show 41 - (L.length + 1) < 41 - L.length
     omega
   ·have kg : KeepsIn (FrO Q w.heap.size w.heap.size (.slice o1 L.length c2)) wr w7 := KeepsIn.of_grown hgr7 (fun b hb e => HFG.out b hb e)
    go_ret
    exact ⟨L,_,rfl,armsIn_of_row (own_grown HOW.out hgr7 (by omega)) (HRW.out.imp fun _ _ _ h => (h.keep kg).mono fun b _ hb => hb.1) (fun b hb => Or.inr (HOW.out.lt _ hb).1),HTL.out,by omega,rd_mono hrd7 (by omega),gr_call hgqL hgr7⟩
 by_cases hx3 : x = 1
 ·subst hx3
  clear hx0 hx1 hx2
  go_upto_region 12 with (go_at_call_of 31 (l.length : Nat); refine (s_pick g _ _ _ hrd4 (by omega) (by omega) (by omega)).mono ?_; rintro e w5 ⟨y,rfl,hy0,hy1,hrd5,hgr5⟩; obtain ⟨j,rfl⟩ := Int.eq_ofNat_of_zero_le hy0; have hj : j < l.length := (by omega); clear hy0 hy1)
  have hkR : KeepsIn (fun b => Fr Q w.heap.size w.heap.size b ∧ b ≠ bb) w4 w5 := keep_mono (fr_call HQ.out (by omega) hgr5) (fun b _ h => h.1)
  have HOW5 : Hid (w5.ownsRow w.heap.size 36 6 (.slice (some ⟨bb,0,none⟩) l.length cc) l.length xs) := own_grown HOW4.out hgr5 (by omega)
  have HR5 : Hid (RowOf 6 (ArmC (fun b => Fr Q w.heap.size w.heap.size b ∧ b ≠ bb) w5) xs l) := HR4.out.imp fun _ _ _ h => h.keep hkR
  have hgq5 : w.grownBy w5 (some g) := gr_call hgq4 hgr5
  have s5 := hgr5.size
  have hts : Stil.treeSize l ≤ 50000000 := by
   have h1 := arms_size HT.out
   have h2 : l.length * (2 + 2 * N) ≤ 1000 * (2 + 2 * N) := Nat.mul_le_mul_right _ (by omega)
   omega
  have HTZ : Hid (Calls Tryz.prog 27 #[(.slice (some ⟨bb,0,none⟩) l.length cc)] w5 fun e w' => e = .returned (.int .i64 (Stil.treeSize l)) ∧ Below w5.heap.size w5 w') := s_treeSize l _ w5 (armsIn_of_row (P := fun _ => True) HOW5.out (HR5.out.imp fun _ _ _ h => h.mono fun _ _ _ => trivial) (fun _ _ => trivial)).at (by omega) (arms_fit HT.out (by omega))
  obtain ⟨S,hS⟩ : ∃ S,S = Stil.treeSize l := ⟨_,rfl⟩
  rw [← hS] at HTZ hts
  clear HOW4 HR4 hrd4 hgq4 hgr5 hkR hS
  go_upto_region 13 with (first | (go_at_call 27; refine HTZ.out.mono ?_; rintro e w6 ⟨rfl,hb6⟩) | (go_at_call_of 31 (Value.int IntKind.i64 2); refine (s_pick g _ _ _ (rd_grown hrd5 (grown_below hb6 none) (fun k hk => by cases hk)) (by omega) (by omega) (by omega)).mono ?_; rintro e w7 ⟨y,rfl,hy0,hy1,hrd7,hgr7⟩))
  have s6 := hb6.size
  have s7 := hgr7.size
  have HOW7 : Hid (w7.ownsRow w.heap.size 36 6 (.slice (some ⟨bb,0,none⟩) l.length cc) l.length xs) := own_grown (own_keepO HOW5.out (grown_below hb6 none) (fun _ _ h => by cases h)) hgr7 (by omega)
  have hk7 : KeepsIn (fun b => Fr Q w.heap.size w.heap.size b ∧ b ≠ bb) w5 w7 := (KeepsIn.of_below hb6).trans (keep_mono (fr_call HQ.out (by omega) hgr7) (fun b _ h => h.1))
  have HR7 : Hid (RowOf 6 (ArmC (fun b => (Fr Q w.heap.size w.heap.size b ∧ b ≠ bb) ∧ b < w7.heap.size) w7) xs l) := HR5.out.imp fun _ _ _ h => (h.keep hk7).mono fun b hb h => ⟨h,hb⟩
  have hgq7 : w.grownBy w7 (some g) := gr_call (gr_call hgq5 (grown_below hb6 _)) hgr7
  have hs7 : bb < w7.heap.size := by omega
  clear HOW5 HR5 hgq5 hk7 HTZ hgr7 hb6 hrd5
  obtain ⟨av,nv,cv,kv,r0,r1,r2,r3,r4,r5,hfz,hav,hnv,hcv,hkv⟩ := arm_cells HOW7.out HR7.out hj
  clear hfz hav hnv hkv r0 r1 r2 r3 r5
  have HKS : Hid (ATame l[j] ∧ Stil.armSz l[j] ≤ N) := HT.out _ (List.getElem_mem hj)
  obtain ⟨X,hX⟩ : ∃ X,X = l[j] := ⟨_,rfl⟩
  rw [← hX] at HKS hcv
  have HX : Hid (X = l[j]) := hX
  have HCV : Hid (ElemsIn (fun b => (Fr Q w.heap.size w.heap.size b ∧ b ≠ bb) ∧ b < w7.heap.size) w7 cv X.coils) := hcv
  obtain ⟨u3,t3,rfl,-⟩ := hcv
  have hcl : X.coils.length ≤ 20000 := by have := (coils_sz X []).1; have := HKS.out.2; omega
  clear hX
  go_upto_region 14 with (at_builtin; refine wpList_copy_elems rfl _ _ rfl (fun b => (Fr Q w.heap.size w.heap.size b ∧ b ≠ bb) ∧ b < w7.heap.size) w7 X.coils (.slice u3 X.coils.length t3) rfl rfl rfl HCV.out (by omega) ?_; intro b2 cc2 w8 xs2 hown8 hrow8 hb21 hb22 hgr8; have HO8 : Hid (w8.ownsRow w7.heap.size 30 2 (.slice (some ⟨b2,0,none⟩) X.coils.length cc2) X.coils.length xs2) := hown8; have HR8 : Hid (RowOf 2 (ElemC (fun b => (fun b => (Fr Q w.heap.size w.heap.size b ∧ b ≠ bb) ∧ b < w7.heap.size) b ∧ b < w7.heap.size) w8) xs2 X.coils) := hrow8; have HG8 : Hid ((w7.alloc (.cells #[] 30)).grownBy w8 (some w7.heap.size)) := hgr8; clear hown8 hrow8 hgr8)
  clear r4
  have s8 := HG8.out.size
  rw [World.size_alloc] at s8
  have hrd8 : RdAt w8 g (P + 3) := rd_mono (rd_grown (rd_alloc hrd7 _) HG8.out (by intro j hj; simp only [Option.some.injEq] at hj; omega)) (by omega)
  go_wp2_with (go_at_call 64; refine (s_l2Coil g _ _ raA (by omega)).mono ?_; rintro e w9 ⟨eop,ev,eds,rfl,ehop,ehv,ehs,ehl,hrd,hgr9⟩; obtain ⟨ea,ec,rfl,_,_⟩ := id ehv)
  have s9 := hgr9.size
  obtain ⟨B,hB⟩ : ∃ B,B = w9.heap.size := ⟨_,rfl⟩
  have HEC : Hid (ETame ⟨eop,eds⟩ ∧ eds.length ≤ 3) := ⟨⟨ehop,ehs,by show eds.length ≤ 100000; omega⟩,ehl⟩
  have kg8 : KeepsIn (fun b => (Fr Q w.heap.size w.heap.size b ∧ b ≠ bb) ∧ b < w7.heap.size) w7 w8 := (KeepsIn.of_below (below_alloc _ _)).trans (KeepsIn.of_grown HG8.out (fun b hb e => by simp only [Option.some.injEq] at e; have := hb.2; omega))
  have kg9 : KeepsIn (fun b => (Fr Q w.heap.size w.heap.size b ∧ b ≠ bb) ∧ b < w7.heap.size) w8 (w9.alloc (.cells #[.int .i64 eop,.slice ea eds.length ec] 30)) := (keep_mono (fr_call HQ.out (by omega) hgr9) (fun b _ h => h.1.1)).trans (KeepsIn.of_below (below_alloc _ _))
  have hst : ∃ (E : List Stil.Elem) (zs : List Value) (m : Nat),(Value.int .i64 0) = .int .i64 m ∧ m ≤ 401 ∧ (w9.alloc (.cells #[.int .i64 eop,.slice ea eds.length ec] 30)).ownsRow w7.heap.size 30 2 (Value.slice (some ⟨b2,0,none⟩) X.coils.length cc2) E.length zs ∧ RowOf 2 (ElemC (Ofv (fun b => Fr Q w.heap.size w.heap.size b ∧ b ≠ bb) (Value.slice (some ⟨b2,0,none⟩) X.coils.length cc2)) (w9.alloc (.cells #[.int .i64 eop,.slice ea eds.length ec] 30))) zs E ∧ ElemC (Ofv (fun b => Fr Q w.heap.size w.heap.size b ∧ b ≠ bb) (Value.slice (some ⟨b2,0,none⟩) X.coils.length cc2)) (w9.alloc (.cells #[.int .i64 eop,.slice ea eds.length ec] 30)) [.int .i64 eop,.slice ea eds.length ec] ⟨eop,eds⟩ ∧ ElBox (w9.alloc (.cells #[.int .i64 eop,.slice ea eds.length ec] 30)) B eop (.slice ea eds.length ec) ∧ (Value.slice (some ⟨b2,0,none⟩) X.coils.length cc2).ownBlock ≠ some B ∧ (∀ x ∈ E,ETame x) ∧ Stil.elemsSz E ≤ Stil.elemsSz X.coils + 4 * m ∧ (w9.alloc (.cells #[.int .i64 eop,.slice ea eds.length ec] 30)).ownsRow w.heap.size 36 6 (.slice (some ⟨bb,0,none⟩) l.length cc) l.length xs ∧ RowOf 6 (ArmC (fun b => (Fr Q w.heap.size w.heap.size b ∧ b ≠ bb) ∧ b < w7.heap.size) (w9.alloc (.cells #[.int .i64 eop,.slice ea eds.length ec] 30))) xs l ∧ RdAt (w9.alloc (.cells #[.int .i64 eop,.slice ea eds.length ec] 30)) g (P + 200) ∧ w.grownBy (w9.alloc (.cells #[.int .i64 eop,.slice ea eds.length ec] 30)) (some g) ∧ w7.heap.size ≤ (w9.alloc (.cells #[.int .i64 eop,.slice ea eds.length ec] 30)).heap.size := by
   refine ⟨X.coils,xs2,0,rfl,by omega,(own_grown HO8.out hgr9 (by omega)).alloc _,HR8.out.imp fun _ _ _ h => ((h.mono fun b _ hb => hb.1).keep kg9).mono fun b _ hb => ⟨hb.1,fun e => ?_⟩,⟨_,rfl,((devs_of_el ehv).mono (P := Ofv (fun b => Fr Q w.heap.size w.heap.size b ∧ b ≠ bb) (Value.slice (some ⟨b2,0,none⟩) X.coils.length cc2)) fun b _ hb => ⟨⟨Or.inr (by omega),by omega⟩,fun e => ?_⟩).keep (KeepsIn.of_below (below_alloc _ _))⟩,?_,?_,HKS.out.1.parts.2.1,by omega,?_,HR7.out.imp fun _ _ _ h => (h.keep kg8).keep kg9,rd_mono (rd_alloc hrd _) (by omega),?_,by rw [World.size_alloc]; omega⟩
   ·have : b2 = b := by simpa [Value.ownBlock] using e
    have := hb.2
    omega
   ·have : b2 = b := by simpa [Value.ownBlock] using e
    omega
   ·rw [hB]
    exact ebA
   ·intro e
    have : b2 = B := by simpa [Value.ownBlock] using e
    omega
   ·refine (own_grown (own_keepO (HOW7.out.alloc _) HG8.out (fun k hk => ?_)) hgr9 (by omega)).alloc _
    have : bb = k := by simpa [Value.ownBlock] using hk
    simp only [ne_eq,Option.some.injEq]
    omega
   ·exact gr_alloc (gr_call (gr_own (gr_alloc hgq7 _) HG8.out (by intro j hj; simp only [Option.some.injEq] at hj; omega)) hgr9) _
  rw [← hB]
  obtain ⟨ie,hie,hie0,hie1,hie2⟩ := info_parts info_elem
  clear kg8 kg9 HO8 HR8 HG8 HOW7 HR7 HCV hgr9 ehv ehs hrd8 hgq7 hrd7 hB
  go_loopw [9,11] (fun c i wq => ∃ (E : List Stil.Elem) (zs : List Value) (m : Nat),i = .int .i64 m ∧ m ≤ 401 ∧ wq.ownsRow w7.heap.size 30 2 c E.length zs ∧ RowOf 2 (ElemC (Ofv (fun b => Fr Q w.heap.size w.heap.size b ∧ b ≠ bb) c) wq) zs E ∧ ElemC (Ofv (fun b => Fr Q w.heap.size w.heap.size b ∧ b ≠ bb) c) wq [.int .i64 eop,.slice ea eds.length ec] ⟨eop,eds⟩ ∧ ElBox wq B eop (.slice ea eds.length ec) ∧ c.ownBlock ≠ some B ∧ (∀ x ∈ E,ETame x) ∧ Stil.elemsSz E ≤ Stil.elemsSz X.coils + 4 * m ∧ wq.ownsRow w.heap.size 36 6 (.slice (some ⟨bb,0,none⟩) l.length cc) l.length xs ∧ RowOf 6 (ArmC (fun b => (Fr Q w.heap.size w.heap.size b ∧ b ≠ bb) ∧ b < w7.heap.size) wq) xs l ∧ RdAt wq g (P + 200) ∧ w.grownBy wq (some g) ∧ w7.heap.size ≤ wq.heap.size) (fun _ i _ => 401 - (intOf i).toNat)
  case atStart => exact hst
  case round =>
   clear hst
   obtain ⟨E,zs,m,rfl,hm,hown,hrow,hel,hbx,hnb,hte,hes,hoo,hro,hrdL,hgqL,hsL⟩ := hrel
   obtain ⟨o1,c2,ho,-⟩ := own_open hown
   subst ho
   have HOW : Hid (wr.ownsRow w7.heap.size 30 2 (Value.slice o1 E.length c2) E.length zs) := hown
   have HRW : Hid (RowOf 2 (ElemC (Ofv (fun b => Fr Q w.heap.size w.heap.size b ∧ b ≠ bb) (Value.slice o1 E.length c2)) wr) zs E) := hrow
   have HEL : Hid (ElemC (Ofv (fun b => Fr Q w.heap.size w.heap.size b ∧ b ≠ bb) (Value.slice o1 E.length c2)) wr [.int .i64 eop,.slice ea eds.length ec] ⟨eop,eds⟩) := hel
   have HBX : Hid (ElBox wr B eop (.slice ea eds.length ec)) := hbx
   have HNB : Hid ((Value.slice o1 E.length c2).ownBlock ≠ some B) := hnb
   have HTE : Hid (∀ x ∈ E,ETame x) := hte
   have HOO : Hid (wr.ownsRow w.heap.size 36 6 (.slice (some ⟨bb,0,none⟩) l.length cc) l.length xs) := hoo
   have HRO : Hid (RowOf 6 (ArmC (fun b => (Fr Q w.heap.size w.heap.size b ∧ b ≠ bb) ∧ b < w7.heap.size) wr) xs l) := hro
   have hee : Stil.elemsSz E = E.length + (E.map Stil.elemSz).sum := rfl
   have hxc := (coils_sz X []).2.1
   have hks := HKS.out.2
   have hEl : E.length ≤ 30000 := by omega
   have hbl := hbx.1
   have hnbb : ∀ k,(Value.slice o1 E.length c2).ownBlock = some k → bb ≠ k := fun k hk => by have := (HOW.out.lt k hk).1; omega
   clear hown hrow hel hbx hnb hte hoo hro hee
   by_cases hlt : (m : Int) < 400 - S + y
   ·obtain ⟨hz1,q0,q1,p0,p1⟩ := HBX.out
    go_wp2_with (at_builtin; refine wpList_append_own_at _ rfl _ _ 34 rfl w7.heap.size 30 ie (.agg #[.int .i64 0,.slice none 0 0]) 2 32 Tryz.underlying34 hie hie0 hie1 hie2 rfl (by decide) _ _ _ rfl (HOW.out.alloc _) _ _ _ [.int .i64 eop,.slice ea eds.length ec] rfl rfl (by exact cells_new _ _ _ _ (by simp)) (by intro u hu; simp only [List.mem_cons,List.not_mem_nil,or_false] at hu; rcases hu with rfl | rfl <;> rfl) (by unfold maxLen; omega) (by omega) (by simp only [World.size_alloc]; omega) ?_; intro v' w8' hown8 hgr8 hnil8 hat8)
    have ka : KeepsIn (Ofv (fun b => Fr Q w.heap.size w.heap.size b ∧ b ≠ bb) (Value.slice o1 E.length c2)) wr (wr.alloc (.cells #[.int .i64 eop,.slice ea eds.length ec] 30)) := KeepsIn.of_below (below_alloc _ _)
    have e6 : E.length + 1 = (E ++ [(⟨eop,eds⟩ : Stil.Elem)]).length := by simp
    have s8' := hgr8.size
    rw [World.size_alloc] at s8'
    refine ⟨⟨E ++ [⟨eop,eds⟩],_,m + 1,by go_num,by omega,by rw [e6] at hown8; exact hown8,((HRW.out.imp fun _ _ _ h => h.keep ka).append (RowOf.one rfl (HEL.out.keep ka))).imp fun _ _ _ h => ofv_elem h hgr8 hat8,ofv_elem (HEL.out.keep ka) hgr8 hat8,elBox_grownO (elBox_grownO HBX.out (grown_below (below_alloc wr _) none) (by simp)) hgr8 (fun e => HNB.out e),own_not HNB.out hat8 (by rw [World.size_alloc]; omega),?_,?_,own_keepO (HOO.out.alloc _) hgr8 (fun k hk e => ?_),HRO.out.imp fun _ _ _ h => (h.keep (KeepsIn.of_below (below_alloc _ _))).keep (KeepsIn.of_grown hgr8 (fun b hb e => ?_)),rd_grown (rd_alloc hrdL _) hgr8 (fun k hk => by have := (HOW.out.lt _ hk).1; omega),gr_own (gr_alloc hgqL _) hgr8 (fun k hk => by have := (HOW.out.lt _ hk).1; omega),by omega⟩,by simp [intOf]; omega⟩
    ·intro x hx
     rcases List.mem_append.1 hx with h | h
     ·exact HTE.out x h
     ·rw [List.mem_singleton.1 h]; exact HEC.out.1
    ·have h3 := HEC.out.2
     simp only [Stil.elemsSz,List.length_append,List.map_append,List.sum_append,List.length_cons,List.length_nil,List.map_cons,List.map_nil,List.sum_cons,List.sum_nil,Stil.elemSz] at hes ⊢
     omega
    ·have : bb = k := by simpa [Value.ownBlock] using hk
     exact hnbb k e this
    ·have h1 := (HOW.out.lt b e).1
     have h2 := hb.2
     omega
   ·obtain ⟨av,nv,cv,kv,r0,r1,r2,r3,r4,r5,hfz,-,-,-,-⟩ := arm_cells HOO.out HRO.out hj
    have f4 := hfz (j * 6 + 4)
    clear r0 r1 r2 r3 r5 hfz
    have hEE : ElemsIn (fun b => Fr Q w.heap.size w.heap.size b ∧ b ≠ bb) wr (Value.slice o1 E.length c2) E := elemsIn_of_row HOW.out (HRW.out.imp fun _ _ _ h => h.mono fun b _ hb => hb.1) (fun b hb => by have h1 := (HOW.out.lt b hb).1; exact ⟨Or.inr (by omega),by omega⟩)
    obtain ⟨ys,hownW,hrowW⟩ := arm_coils HOO.out (HRO.out.imp fun _ _ _ h => h.mono fun b _ hb => hb.1) hj (fun h => h.2 rfl) hEE
    have HAW : Hid (ArmsIn (Fr Q w.heap.size w.heap.size) (wr.setCell ⟨bb,j * 6 + 4,none⟩ (Value.slice o1 E.length c2)) (.slice (some ⟨bb,0,none⟩) l.length cc) (l.set j ⟨l[j].net,E,l[j].kids⟩)) := by
     have e : l.length = (l.set j (⟨l[j].net,E,l[j].kids⟩ : Stil.Arm)).length := by simp
     rw [e] at hownW
     have h := armsIn_of_row (P := (Fr Q w.heap.size w.heap.size)) hownW (hrowW.imp fun _ _ _ h => h.mono fun b _ hb => hb.1) (fun b hb => by
      have : bb = b := by simpa [Value.ownBlock] using hb
      exact Or.inr (by omega))
     rw [← e] at h
     exact h
    clear hownW hrowW hEE
    go_wp2
    go_ret
    refine ⟨_,_,rfl,HAW.out,?_,by rw [List.length_set]; omega,rd_mono (rd_set hrdL (by omega) _) (by omega),gr_set hbb1 hgqL _⟩
    intro a ha
    rcases List.mem_or_eq_of_mem_set ha with h | rfl
    ·exact ⟨(HT.out a h).1,by have := (HT.out a h).2; omega⟩
    ·rw [← HX.out]
     refine ⟨(ATame_eq _ _ _).2 ⟨HKS.out.1.parts.1,HTE.out,HKS.out.1.parts.2.2⟩,?_⟩
     have := (coils_sz X E).2.2
     omega
 clear hx0 hx1
 have hxa : (x == 0) = false := by rw [beq_eq_false_iff_ne]; exact hx2
 have hxb : (x == 1) = false := by rw [beq_eq_false_iff_ne]; exact hx3
 go_upto_region 22 with (go_at_call_of 31 (l.length : Nat); refine (s_pick g _ _ _ hrd4 (by omega) (by omega) (by omega)).mono ?_; rintro e w5 ⟨y,rfl,hy0,hy1,hrd5,hgr5⟩; obtain ⟨j,rfl⟩ := Int.eq_ofNat_of_zero_le hy0; have hj : j < l.length := (by omega); clear hy0 hy1)
 have hkR : KeepsIn (fun b => Fr Q w.heap.size w.heap.size b ∧ b ≠ bb) w4 w5 := keep_mono (fr_call HQ.out (by omega) hgr5) (fun b _ h => h.1)
 have HOW5 : Hid (w5.ownsRow w.heap.size 36 6 (.slice (some ⟨bb,0,none⟩) l.length cc) l.length xs) := own_grown HOW4.out hgr5 (by omega)
 have HR5 : Hid (RowOf 6 (ArmC (fun b => Fr Q w.heap.size w.heap.size b ∧ b ≠ bb) w5) xs l) := HR4.out.imp fun _ _ _ h => h.keep hkR
 have hgq5 : w.grownBy w5 (some g) := gr_call hgq4 hgr5
 have s5 := hgr5.size
 have hs5 : bb < w5.heap.size := by omega
 clear HOW4 HR4 hrd4 hgq4 hgr5 hkR
 obtain ⟨av,nv,cv,kv,r0,r1,r2,r3,r4,r5,hfz,hav,hnv,hcv,hkv⟩ := arm_cells HOW5.out HR5.out hj
 clear hfz
 have HKS : Hid (ATame l[j] ∧ Stil.armSz l[j] ≤ N) := HT.out _ (List.getElem_mem hj)
 have HI : Hid (Calls Tryz.prog 68 #[.pointer (some ⟨g,0,none⟩),.agg #[.int .i64 l[j].net.kind,.int .i64 l[j].net.one.op,av,nv,cv,kv]] w5 fun e w' => ArmOutQ (fun b => Fr Q w.heap.size w.heap.size b ∧ b ≠ bb) e w5 w' g (P + 1 + 1 + 10 * Stil.armSz l[j] + 100) (Stil.armSz l[j] + 40)) :=
  s_l3SpoilArm _ _ g (P + 1 + 1) w5 av nv cv kv (fun b hb => by rcases hb.1 with h | h; exact HQ.out b h.1; omega) hav hnv hcv hkv HKS.out.1 (by have := HKS.out.2; omega) hrd5 (by have := HKS.out.2; omega)
 obtain ⟨X,hX⟩ : ∃ X,X = l[j] := ⟨_,rfl⟩
 rw [← hX] at HI HKS r0 r1
 obtain ⟨u1,t1,rfl,-⟩ := hav
 obtain ⟨u2,t2,rfl,-⟩ := hnv
 obtain ⟨u3,t3,rfl,-⟩ := hcv
 obtain ⟨u4,t4,rfl,-⟩ := hkv
 clear hX hrd5
 go_upto_region 23 with (go_at_call 68; refine HI.out.mono ?_; rintro e w7 ⟨M,av5,nv5,cv5,kv5,rfl,hav5,hnv5,hcv5,hkv5,ht5,hz5,hrd7,hgr7⟩; have HA5 : Hid (DevsIn (Fr (fun b => Fr Q w.heap.size w.heap.size b ∧ b ≠ bb) w5.heap.size w5.heap.size) w7 av5 M.net.one.args) := hav5; have HN5 : Hid (NetsIn (Fr (fun b => Fr Q w.heap.size w.heap.size b ∧ b ≠ bb) w5.heap.size w5.heap.size) w7 nv5 M.net.kids) := hnv5; have HE5 : Hid (ElemsIn (Fr (fun b => Fr Q w.heap.size w.heap.size b ∧ b ≠ bb) w5.heap.size w5.heap.size) w7 cv5 M.coils) := hcv5; have HV5 : Hid (ArmsIn (Fr (fun b => Fr Q w.heap.size w.heap.size b ∧ b ≠ bb) w5.heap.size w5.heap.size) w7 kv5 M.kids) := hkv5; have HT5 : Hid (ATame M) := ht5; have hown7 := own_grown HOW5.out hgr7 (by omega); obtain ⟨d0,d1,d2,d3,d4,d5,f0,f1,f2,f3,f4,f5⟩ := (⟨hown7.frozenAt (j * 6),hown7.frozenAt (j * 6 + 1),hown7.frozenAt (j * 6 + 2),hown7.frozenAt (j * 6 + 3),hown7.frozenAt (j * 6 + 4),hown7.frozenAt (j * 6 + 5),(grown_cell hgr7 hs5 (by omega)).trans r0,(grown_cell hgr7 hs5 (by omega)).trans r1,(grown_cell hgr7 hs5 (by omega)).trans r2,(grown_cell hgr7 hs5 (by omega)).trans r3,(grown_cell hgr7 hs5 (by omega)).trans r4,(grown_cell hgr7 hs5 (by omega)).trans r5⟩ : w7.frozen? ⟨bb,j * 6,none⟩ = false ∧ w7.frozen? ⟨bb,j * 6 + 1,none⟩ = false ∧ w7.frozen? ⟨bb,j * 6 + 2,none⟩ = false ∧ w7.frozen? ⟨bb,j * 6 + 3,none⟩ = false ∧ w7.frozen? ⟨bb,j * 6 + 4,none⟩ = false ∧ w7.frozen? ⟨bb,j * 6 + 5,none⟩ = false ∧ w7.cell? ⟨bb,j * 6,none⟩ = _ ∧ w7.cell? ⟨bb,j * 6 + 1,none⟩ = _ ∧ w7.cell? ⟨bb,j * 6 + 2,none⟩ = _ ∧ w7.cell? ⟨bb,j * 6 + 3,none⟩ = _ ∧ w7.cell? ⟨bb,j * 6 + 4,none⟩ = _ ∧ w7.cell? ⟨bb,j * 6 + 5,none⟩ = _); obtain ⟨y1,z1,rfl,-⟩ := hav5; obtain ⟨y2,z2,rfl,-⟩ := hnv5; obtain ⟨y3,z3,rfl,-⟩ := hcv5; obtain ⟨y4,z4,rfl,-⟩ := hkv5; clear hown7 ht5 r0 r1 r2 r3 r4 r5)
 obtain ⟨W,hW⟩ : ∃ W,W = (((((w7.setCell ⟨bb,j * 6,none⟩ (.int .i64 M.net.kind)).setCell ⟨bb,j * 6 + 1,none⟩ (.int .i64 M.net.one.op)).setCell ⟨bb,j * 6 + 2,none⟩ (.slice y1 M.net.one.args.length z1)).setCell ⟨bb,j * 6 + 3,none⟩ (.slice y2 M.net.kids.length z2)).setCell ⟨bb,j * 6 + 4,none⟩ (.slice y3 M.coils.length z3)).setCell ⟨bb,j * 6 + 5,none⟩ (.slice y4 M.kids.length z4) := ⟨_,rfl⟩
 rw [← hW]
 have s7 := hgr7.size
 have hmo : ∀ b,b < w7.heap.size → Fr (fun b => Fr Q w.heap.size w.heap.size b ∧ b ≠ bb) w5.heap.size w5.heap.size b → Fr Q w.heap.size w.heap.size b ∧ b ≠ bb := fun b _ h => by
  rcases h with h | h
  ·exact h.1
  ·exact ⟨Or.inr (by omega),by omega⟩
 have hk7 : KeepsIn (fun b => Fr Q w.heap.size w.heap.size b ∧ b ≠ bb) w5 w7 := keep_mono (fr_call HQ.out (by omega) hgr7) (fun b _ h => h.1)
 have hst := arm_put (own_grown HOW5.out hgr7 (by omega)) (HR5.out.imp fun _ _ _ h => h.keep hk7) hj (fun h => h.2 rfl) (HA5.out.mono hmo) (HN5.out.mono hmo) (HE5.out.mono hmo) (HV5.out.mono hmo)
 have hWS : W = set6 w7 bb (j * 6) (.int .i64 M.net.kind) (.int .i64 M.net.one.op) (.slice y1 M.net.one.args.length z1) (.slice y2 M.net.kids.length z2) (.slice y3 M.coils.length z3) (.slice y4 M.kids.length z4) := hW
 rw [← hWS] at hst
 obtain ⟨ys,hownW,hrowW⟩ := hst
 have hrW : RdAt W g (P + 300000) := by
  have := HKS.out.2
  rw [hW]
  exact rd_mono (rd_set (rd_set (rd_set (rd_set (rd_set (rd_set (hrd7) (by omega) _) (by omega) _) (by omega) _) (by omega) _) (by omega) _) (by omega) _) (by omega)
 have hgW : w.grownBy W (some g) := by
  rw [hW]
  exact gr_set hbb1 (gr_set hbb1 (gr_set hbb1 (gr_set hbb1 (gr_set hbb1 (gr_set hbb1 (gr_call hgq5 hgr7) _) _) _) _) _) _
 have hAW : ArmsIn (Fr Q w.heap.size w.heap.size) W (.slice (some ⟨bb,0,none⟩) l.length cc) (l.set j M) := by
  have e : l.length = (l.set j M).length := by simp
  rw [e] at hownW ⊢
  exact armsIn_of_row hownW (hrowW.imp fun _ _ _ h => h.mono fun b _ hb => hb.1) (fun b hb => by
   have : bb = b := by simpa [Value.ownBlock] using hb
   exact Or.inr (by omega))
 clear hW hWS
 go_wp2
 go_ret
 refine ⟨l.set j M,_,rfl,hAW,?_,by rw [List.length_set]; omega,hrW,hgW⟩
 intro a ha
 rcases List.mem_or_eq_of_mem_set ha with h | rfl
 ·exact ⟨(HT.out a h).1,by have := (HT.out a h).2; omega⟩
 ·exact ⟨HT5.out,by have := HKS.out.2; omega⟩
end Go.Proofs.YtenoanhonjdpjaaGreatDoor
