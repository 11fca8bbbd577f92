/- D16,D20: texts put together. -/
import Derived.Test.YtenoanhonjdpjaaGreatDoorHa
import Derived.Test.YtenoanhonjdpjaaGreatDoorGU
set_option maxHeartbeats 4000000
set_option maxRecDepth 100000
/- Contracts of the specification's draws: arms in forks. -/
namespace Go.Proofs.YtenoanhonjdpjaaGreatDoor
open Go.RowKit Go.Sort Go.BigFrame
theorem elems_lit {P : Nat → Prop} {W : World} {cs : Array Value} {ns : List Stil.Elem} {b : Nat} (hb : b = W.heap.size) (h : RowOf 2 (ElemC P W) cs.toList ns) (hp : P b) (hl : ns.length ≤ 1000) : ElemsIn P (W.alloc (.cells cs 30)) (.slice (some ⟨b,0,none⟩) ns.length ns.length) ns := by
  subst hb
  have ho := World.ownsRow_lit (base := W.heap.size) (e := 30) (size := 2) W cs ns.length (by omega) (by unfold maxLen; omega) (by have := h.1; simpa using this)
  refine elemsIn_of_row ho (h.imp fun cs a _ hc => hc.keep (KeepsIn.of_below (below_alloc _ _))) (fun b hb => ?_)
  have : W.heap.size = b := by simpa [Value.ownBlock] using hb
  exact this ▸ hp
theorem arms_lit {P : Nat → Prop} {W : World} {cs : Array Value} {ns : List Stil.Arm} {b : Nat} (hb : b = W.heap.size) (h : RowOf 6 (ArmC P W) cs.toList ns) (hp : P b) (hl : ns.length ≤ 1000) : ArmsIn P (W.alloc (.cells cs 36)) (.slice (some ⟨b,0,none⟩) ns.length ns.length) ns := by
  subst hb
  have ho := World.ownsRow_lit (base := W.heap.size) (e := 36) (size := 6) W cs ns.length (by omega) (by unfold maxLen; omega) (by have := h.1; simpa using this)
  refine armsIn_of_row ho (h.imp fun cs a _ hc => hc.keep (KeepsIn.of_below (below_alloc _ _))) (fun b hb => ?_)
  have : W.heap.size = b := by simpa [Value.ownBlock] using hb
  exact this ▸ hp
/-- An arm in a box,the rest of it in blocks beyond the call's own. -/
def ArmSt (w0 wq : World) (B g q N : Nat) : Prop := ∃ (A : Stil.Arm) (av nv cv kv : Value),ABox wq w0.heap.size 0 0 (.slice none 0 0) (.slice none 0 0) (.slice none 0 0) (.slice none 0 0) ∧ ABox wq B A.net.kind A.net.one.op av nv cv kv ∧
  DevsIn (fun b => w0.heap.size < b ∧ b ≠ B) wq av A.net.one.args ∧ NetsIn (fun b => w0.heap.size < b ∧ b ≠ B) wq nv A.net.kids ∧ ElemsIn (fun b => w0.heap.size < b ∧ b ≠ B) wq cv A.coils ∧ ArmsIn (fun b => w0.heap.size < b ∧ b ≠ B) wq kv A.kids ∧ ATame A ∧ Stil.armSz A ≤ N ∧ RdAt wq g q ∧ w0.grownBy wq (some g)
/-- A fork about an arm: two kids in a new row,told of the world in which they lie. -/
theorem fork_kids {Q : Nat → Prop} {W : World} {A : Stil.Arm} {xs : List Value} {op3 op4 : Int} {ds3 ds4 : List Stil.Dev} {v3 v4 : Value} {b : Nat} (hb : b = W.heap.size) (hA : ArmC Q W xs A) (hx : xs.length = 6) (h3 : DevsIn Q W v3 ds3) (h4 : DevsIn Q W v4 ds4) (hq1 : Q b) (hq2 : Q (b + 1)) :
    ArmsIn Q ((W.alloc (.cells #[.int .i64 op4,v4] 30)).alloc (.cells (xs ++ [.int .i64 1,.int .i64 op3,v3,.slice none 0 0,.slice (some ⟨b,0,none⟩) 1 1,.slice none 0 0]).toArray 36)) (.slice (some ⟨b + 1,0,none⟩) 2 2) [A,⟨⟨1,⟨op3,ds3⟩,[]⟩,[⟨op4,ds4⟩],[]⟩] := by
  have k1 : KeepsIn Q W (W.alloc (.cells #[.int .i64 op4,v4] 30)) := KeepsIn.of_below (below_alloc _ _)
  have he : ElemsIn Q (W.alloc (.cells #[.int .i64 op4,v4] 30)) (.slice (some ⟨b,0,none⟩) 1 1) [⟨op4,ds4⟩] := elems_lit (ns := [⟨op4,ds4⟩]) hb (RowOf.one (cs := [.int .i64 op4,v4]) rfl ⟨_,rfl,h4⟩) hq1 (by simp)
  have hr : RowOf 6 (ArmC Q (W.alloc (.cells #[.int .i64 op4,v4] 30))) (xs ++ [.int .i64 1,.int .i64 op3,v3,.slice none 0 0,.slice (some ⟨b,0,none⟩) 1 1,.slice none 0 0]) [A,⟨⟨1,⟨op3,ds3⟩,[]⟩,[⟨op4,ds4⟩],[]⟩] := (RowOf.one hx (hA.keep k1)).append (RowOf.one rfl ⟨_,_,_,_,rfl,h3.keep k1,nets_nil _ _,he,arms_nil _ _⟩)
  exact arms_lit (ns := [A,⟨⟨1,⟨op3,ds3⟩,[]⟩,[⟨op4,ds4⟩],[]⟩]) (by rw [World.size_alloc,hb]) (by simpa using hr) hq2 (by simp)
theorem fork_tame {A : Stil.Arm} {op3 op4 : Int} {ds3 ds4 : List Stil.Dev} (hA : ATame A) (ho3 : -1000000 ≤ op3 ∧ op3 ≤ 1000000) (ho4 : -1000000 ≤ op4 ∧ op4 ≤ 1000000) (hs3 : ∀ d ∈ ds3,Small d) (hs4 : ∀ d ∈ ds4,Small d) (hl3 : ds3.length ≤ 3) (hl4 : ds4.length ≤ 3) : ATame ⟨⟨0,⟨0,[]⟩,[]⟩,[],[A,⟨⟨1,⟨op3,ds3⟩,[]⟩,[⟨op4,ds4⟩],[]⟩]⟩ := by
  refine (ATame_eq _ _ _).2 ⟨tame_none,fun _ h => (by cases h),fun x hx => ?_⟩
  simp only [List.mem_cons,List.not_mem_nil,or_false] at hx
  rcases hx with rfl | rfl
  · exact hA
  · refine (ATame_eq _ _ _).2 ⟨tame_contact (by decide) ho3 hs3 (by omega),fun c hc => ?_,fun _ h => (by cases h)⟩
    simp at hc; subst hc; exact ⟨ho4,hs4,by show ds4.length ≤ 100000; omega⟩
theorem fork_sz {A : Stil.Arm} {op3 op4 : Int} {ds3 ds4 : List Stil.Dev} {N : Nat} (hA : Stil.armSz A ≤ N) (hl3 : ds3.length ≤ 3) (hl4 : ds4.length ≤ 3) : Stil.armSz ⟨⟨0,⟨0,[]⟩,[]⟩,[],[A,⟨⟨1,⟨op3,ds3⟩,[]⟩,[⟨op4,ds4⟩],[]⟩]⟩ ≤ N + 12 := by
  rw [Stil.armSz_eq,Stil.netSz_eq]
  simp [Stil.elemsSz,Stil.elemSz,Stil.armSz_eq ⟨1,⟨op3,ds3⟩,[]⟩,Stil.netSz_eq 1]
  omega
theorem ABox.six {w : World} {b : Nat} {k op : Int} {av nv cv kv : Value} (h : ABox w b k op av nv cv kv) (k' op' : Int) (av' nv' cv' kv' : Value) : ABox ((((((w.setCell ⟨b,0,none⟩ (.int .i64 k')).setCell ⟨b,1,none⟩ (.int .i64 op')).setCell ⟨b,2,none⟩ av').setCell ⟨b,3,none⟩ nv').setCell ⟨b,4,none⟩ cv').setCell ⟨b,5,none⟩ kv') b k' op' av' nv' cv' kv' := by
  obtain ⟨hz0,q0,q1,q2,q3,q4,q5,p0,p1,p2,p3,p4,p5⟩ := h
  exact abA
theorem keep_six {R : Nat → Prop} {w : World} {b : Nat} {v0 v1 v2 v3 v4 v5 : Value} (hn : ¬ R b) : KeepsIn R w ((((((w.setCell ⟨b,0,none⟩ v0).setCell ⟨b,1,none⟩ v1).setCell ⟨b,2,none⟩ v2).setCell ⟨b,3,none⟩ v3).setCell ⟨b,4,none⟩ v4).setCell ⟨b,5,none⟩ v5) := (((((KeepsIn.set hn _).trans (KeepsIn.set hn _)).trans (KeepsIn.set hn _)).trans (KeepsIn.set hn _)).trans (KeepsIn.set hn _)).trans (KeepsIn.set hn _)
theorem arm_net_sz (M : Stil.Arm) (n : Stil.Net) : Stil.armSz ⟨n,M.coils,M.kids⟩ ≤ Stil.armSz M + Stil.netSz n := by
  obtain ⟨m,cs,ks⟩ := M
  have h1 := Stil.armSz_eq n cs ks
  have h2 := Stil.armSz_eq m cs ks
  show Stil.armSz ⟨n,cs,ks⟩ ≤ Stil.armSz ⟨m,cs,ks⟩ + _
  omega
theorem ATame.both {a : Stil.Arm} (h : ATame a) : (∀ c ∈ a.coils,ETame c) ∧ ∀ x ∈ a.kids,ATame x := by
  obtain ⟨n,cs,ks⟩ := a
  exact ((ATame_eq _ _ _).1 h).2
theorem s_l3Forks (n g P : Nat) (w : World) (hn : n ≤ 20) (hr : RdAt w g P) (hP : P ≤ 100000000) :
    Calls Tryz.prog 65 #[.pointer (some ⟨g,0,none⟩),.int .i64 n] w fun e w' => ArmOut e w w' g (P + 5000) 2000 := by
  have hg := rd_lt hr
  go_enter Tryz.func65,Tryz.ntmps65
  go_wp2_with (first | (go_at_call 67; refine (s_l2Contact g _ _ raA (by omega)).mono ?_; rintro e wa ⟨op,v,ds,rfl,hop,hv,hs,hl,hrd,hga⟩; have hv1 := hv; obtain ⟨aa,cc,rfl,_,_⟩ := hv1; have hza : w.heap.size < wa.heap.size := Nat.lt_of_lt_of_le ltA hga.size; obtain ⟨q0,p0,q1,p1,q2,p2,q3,p3,q4,p4,q5,p5⟩ : wa.cell? ⟨w.heap.size,0,none⟩ = some (.int .i64 0) ∧ wa.frozen? ⟨w.heap.size,0,none⟩ = false ∧ wa.cell? ⟨w.heap.size,1,none⟩ = some (.int .i64 0) ∧ wa.frozen? ⟨w.heap.size,1,none⟩ = false ∧ wa.cell? ⟨w.heap.size,2,none⟩ = some (.slice none 0 0) ∧ wa.frozen? ⟨w.heap.size,2,none⟩ = false ∧ wa.cell? ⟨w.heap.size,3,none⟩ = some (.slice none 0 0) ∧ wa.frozen? ⟨w.heap.size,3,none⟩ = false ∧ wa.cell? ⟨w.heap.size,4,none⟩ = some (.slice none 0 0) ∧ wa.frozen? ⟨w.heap.size,4,none⟩ = false ∧ wa.cell? ⟨w.heap.size,5,none⟩ = some (.slice none 0 0) ∧ wa.frozen? ⟨w.heap.size,5,none⟩ = false := ⟨gcA hga,gfA hga,gcA hga,gfA hga,gcA hga,gfA hga,gcA hga,gfA hga,gcA hga,gfA hga,gcA hga,gfA hga⟩) | (go_at_call 64; refine (s_l2Coil g _ _ raA (by omega)).mono ?_; rintro e wb ⟨op2,v2,ds2,rfl,hop2,hv2,hs2,hl2,hrd,hgb⟩; have hv3 := hv2; obtain ⟨a2,c2,rfl,_,_⟩ := hv3; have hzb : w.heap.size < wb.heap.size := Nat.lt_of_lt_of_le ltA hgb.size; obtain ⟨q0,p0,q1,p1,q2,p2,q3,p3,q4,p4,q5,p5⟩ : wb.cell? ⟨w.heap.size,0,none⟩ = some (.int .i64 0) ∧ wb.frozen? ⟨w.heap.size,0,none⟩ = false ∧ wb.cell? ⟨w.heap.size,1,none⟩ = some (.int .i64 0) ∧ wb.frozen? ⟨w.heap.size,1,none⟩ = false ∧ wb.cell? ⟨w.heap.size,2,none⟩ = some (.slice none 0 0) ∧ wb.frozen? ⟨w.heap.size,2,none⟩ = false ∧ wb.cell? ⟨w.heap.size,3,none⟩ = some (.slice none 0 0) ∧ wb.frozen? ⟨w.heap.size,3,none⟩ = false ∧ wb.cell? ⟨w.heap.size,4,none⟩ = some (.slice none 0 0) ∧ wb.frozen? ⟨w.heap.size,4,none⟩ = false ∧ wb.cell? ⟨w.heap.size,5,none⟩ = some (.slice none 0 0) ∧ wb.frozen? ⟨w.heap.size,5,none⟩ = false := ⟨gcA hgb,gfA hgb,gcA hgb,gfA hgb,gcA hgb,gfA hgb,gcA hgb,gfA hgb,gcA hgb,gfA hgb,gcA hgb,gfA hgb⟩))
  have hvd : DevsIn (fun b => w.heap.size < b) wb (.slice aa ds.length cc) ds := ((devs_of_el hv).mono (lt_mono (by simp))).keep (KeepsIn.of_grown hgb (fun b hb e => by simp only [Option.some.injEq] at e; omega))
  have hve : DevsIn (fun b => w.heap.size < b) wb (.slice a2 ds2.length c2) ds2 := (devs_of_el hv2).mono (lt_mono (by omega))
  have hB : ∀ b,b < wb.heap.size → w.heap.size < b → w.heap.size < b ∧ b ≠ wb.heap.size + 1 := fun b hb h => ⟨h,by omega⟩
  have hst : ArmSt w ((wb.alloc (.cells #[.int .i64 op2,.slice a2 ds2.length c2] 30)).alloc (.cells #[.int .i64 1,.int .i64 op,.slice aa ds.length cc,.slice none 0 0,.slice (some ⟨wb.heap.size,0,none⟩) 1 1,.slice none 0 0] 36)) (wb.heap.size + 1) g (P + 60) 20 := by
    refine ⟨⟨⟨1,⟨op,ds⟩,[]⟩,[⟨op2,ds2⟩],[]⟩,_,_,_,_,abA,(show ABox _ (wb.heap.size + 1) 1 op (.slice aa ds.length cc) (.slice none 0 0) (.slice (some ⟨wb.heap.size,0,none⟩) 1 1) (.slice none 0 0) from abA),(hvd.mono hB).keep kpA,nets_nil _ _,ElemsIn.keep (elems_lit (b := wb.heap.size) (ns := [⟨op2,ds2⟩]) rfl (RowOf.one (cs := [.int .i64 op2,.slice a2 ds2.length c2]) rfl ⟨_,rfl,hve.mono hB⟩) ⟨by omega,by omega⟩ (by simp)) (KeepsIn.of_below (below_alloc _ _)),arms_nil _ _,?_,?_,rlA,glA⟩
    · refine (ATame_eq _ _ _).2 ⟨tame_contact (by decide) hop hs (by omega),fun c hc => ?_,fun _ h => (by cases h)⟩
      simp at hc; subst hc; exact ⟨hop2,hs2,by show ds2.length ≤ 100000; omega⟩
    · rw [Stil.armSz_eq,Stil.netSz_eq]
      simp [Stil.elemsSz,Stil.elemSz]
      omega
  obtain ⟨B,hBd⟩ : ∃ B,B = wb.heap.size + 1 := ⟨_,rfl⟩
  have hBw : w.heap.size < B := by omega
  rw [← hBd] at hst
  rw [← hBd]
  clear hB hBd
  go_loopw [6] (fun i wr => ∃ j : Nat,j ≤ n ∧ i = .int .i64 j ∧ ArmSt w wr B g (P + 60 + 100 * j) (20 + 30 * j)) (fun i _ => n - (intOf i).toNat)
  case atStart => exact ⟨0,by omega,rfl,hst⟩
  case round =>
    clear hst hvd hve hv hv2 hs hs2
    obtain ⟨j,hj,rfl,A,av,nv,cv,kv,hb1,hb2,hav,hnv,hcv,hkv,htm,hsz,hrd,hgq⟩ := hrel
    obtain ⟨a1,c1,rfl,-⟩ := id hav
    obtain ⟨a3,c3,rfl,-⟩ := id hnv
    obtain ⟨a4,c4,rfl,-⟩ := id hcv
    obtain ⟨a5,c5,rfl,-⟩ := id hkv
    have HB1 : Hid (ABox wr w.heap.size 0 0 (.slice none 0 0) (.slice none 0 0) (.slice none 0 0) (.slice none 0 0)) := hb1
    have HB2 : Hid (ABox wr B A.net.kind A.net.one.op (.slice a1 A.net.one.args.length c1) (.slice a3 A.net.kids.length c3) (.slice a4 A.coils.length c4) (.slice a5 A.kids.length c5)) := hb2
    have HA : Hid (ArmC (fun b => w.heap.size < b ∧ b ≠ B) wr [.int .i64 A.net.kind,.int .i64 A.net.one.op,.slice a1 A.net.one.args.length c1,.slice a3 A.net.kids.length c3,.slice a4 A.coils.length c4,.slice a5 A.kids.length c5] A) := ⟨_,_,_,_,rfl,hav,hnv,hcv,hkv⟩
    obtain ⟨hz1,q6,q7,q8,q9,q10,q11,p6,p7,p8,p9,p10,p11⟩ := hb2
    by_cases hlt : j < n
    · clear hav hnv hcv hkv hb1
      go_upto_region 5 with fail
      go_cut [] (fun wq => ArmSt w wq B g (P + 120 + 100 * j) (35 + 30 * j))
      case first =>
       go_region_law (first | (go_simp; go_at_call 67; refine (s_l2Contact g _ _ raA (by omega)).mono ?_; rintro e w5 ⟨op3,v3,ds3,rfl,hop3,hv3,hs3,hl3,hrd,hgr5'⟩; have hgr5 : wr.grownBy w5 (some g) := ⟨hgr5'.os,hgr5'.tape,hgr5'.output,hgr5'.size,hgr5'.block⟩; obtain ⟨b3,d3,rfl,_,_⟩ := id hv3; have HB25 : Hid (ABox w5 B A.net.kind A.net.one.op (.slice a1 A.net.one.args.length c1) (.slice a3 A.net.kids.length c3) (.slice a4 A.coils.length c4) (.slice a5 A.kids.length c5)) := HB2.out.grownO hgr5 (by intro e; simp only [Option.some.injEq] at e; omega); clear q6 q7 q8 q9 q10 q11 p6 p7 p8 p9 p10 p11; obtain ⟨hz1,q6,q7,q8,q9,q10,q11,p6,p7,p8,p9,p10,p11⟩ := HB25.out) | (go_simp; go_at_call 64; refine (s_l2Coil g _ _ raA (by omega)).mono ?_; rintro e w6 ⟨op4,v4,ds4,rfl,hop4,hv4,hs4,hl4,hrd,hgr6⟩; obtain ⟨b4,d4,rfl,_,_⟩ := id hv4; have HB26 : Hid (ABox w6 B A.net.kind A.net.one.op (.slice a1 A.net.one.args.length c1) (.slice a3 A.net.kids.length c3) (.slice a4 A.coils.length c4) (.slice a5 A.kids.length c5)) := HB25.out.grownO hgr6 (by intro e; simp only [Option.some.injEq] at e; omega); clear q6 q7 q8 q9 q10 q11 p6 p7 p8 p9 p10 p11; obtain ⟨hz1,q6,q7,q8,q9,q10,q11,p6,p7,p8,p9,p10,p11⟩ := HB26.out))
       all_goals go_wp2
       all_goals go_meet
       all_goals
        have hk5 : KeepsIn (fun b => w.heap.size < b ∧ b ≠ B) wr w5 := KeepsIn.of_grown hgr5 (fun b hb e => by have := hb.1; simp only [Option.some.injEq] at e; omega)
        have hk6 : KeepsIn (fun b => w.heap.size < b ∧ b ≠ B) w5 w6 := KeepsIn.of_grown hgr6 (fun b hb e => by have := hb.1; simp only [Option.some.injEq] at e; omega)
        have hzr := HB2.out.1
        have hz5 := hgr5.size
        have hz6 := hgr6.size
        have hd3 : DevsIn (fun b => w.heap.size < b ∧ b ≠ B) w6 (.slice b3 ds3.length d3) ds3 := ((devs_of_el hv3).mono (fun b _ hb => by have e : wr.drew.heap.size = wr.heap.size := rfl; omega)).keep hk6
        have hd4 : DevsIn (fun b => w.heap.size < b ∧ b ≠ B) w6 (.slice b4 ds4.length d4) ds4 := (devs_of_el hv4).mono (fun b _ hb => by omega)
        have hB1 := (HB1.out.grownO hgr5 (by intro e; simp only [Option.some.injEq] at e; omega)).grownO hgr6 (by intro e; simp only [Option.some.injEq] at e; omega)
        have hA6 := (HA.out.keep hk5).keep hk6
        have hrd6 := hrd
        have hg6 : w.grownBy w6 (some g) := gr_call (gr_call hgq hgr5) hgr6
        obtain ⟨hz0,q0,q1,q2,q3,q4,q5,p0,p1,p2,p3,p4,p5⟩ := id hB1
        have hB26 := HB26.out
        clear HB1 HB2 HB25 HB26 HA hv3 hv4 hgr5 hgr6 hgr5'
        have hnB : ¬ (fun b => w.heap.size < b ∧ b ≠ B) B := fun h => h.2 rfl
        have hk6' : ∀ v0 v1 v2 v3 v4 v5 : Value,KeepsIn (fun b => w.heap.size < b ∧ b ≠ B) w6 ((((((w6.setCell ⟨B,0,none⟩ v0).setCell ⟨B,1,none⟩ v1).setCell ⟨B,2,none⟩ v2).setCell ⟨B,3,none⟩ v3).setCell ⟨B,4,none⟩ v4).setCell ⟨B,5,none⟩ v5) := fun _ _ _ _ _ _ => keep_six hnB
        have hkd := fork_kids (Q := fun b => w.heap.size < b ∧ b ≠ B) (W := (((((w6.setCell ⟨B,0,none⟩ (.int .i64 0)).setCell ⟨B,1,none⟩ (.int .i64 0)).setCell ⟨B,2,none⟩ (.slice none 0 0)).setCell ⟨B,3,none⟩ (.slice none 0 0)).setCell ⟨B,4,none⟩ (.slice none 0 0)).setCell ⟨B,5,none⟩ (.slice (some ⟨w6.heap.size + 1,0,none⟩) 2 2)) (b := w6.heap.size) (op3 := op3) (op4 := op4) (by simp) (hA6.keep (hk6' _ _ _ _ _ _)) rfl (hd3.keep (hk6' _ _ _ _ _ _)) (hd4.keep (hk6' _ _ _ _ _ _)) ⟨by omega,by omega⟩ ⟨by omega,by omega⟩
        simp only [List.cons_append,List.nil_append] at hkd
        refine ⟨⟨⟨0,⟨0,[]⟩,[]⟩,[],[A,⟨⟨1,⟨op3,ds3⟩,[]⟩,[⟨op4,ds4⟩],[]⟩]⟩,_,_,_,_,?_,((hB26.six 0 0 (.slice none 0 0) (.slice none 0 0) (.slice none 0 0) (.slice (some ⟨w6.heap.size + 1,0,none⟩) 2 2)).alloc _).alloc _,devs_nil _ _,nets_nil _ _,elems_nil _ _,hkd,fork_tame htm hop3 hop4 hs3 hs4 hl3 hl4,?_,rlA,glA⟩
        · exact (((((((hB1.set (by omega)).set (by omega)).set (by omega)).set (by omega)).set (by omega)).set (by omega)).alloc _).alloc _
        · have := fork_sz (op3 := op3) (op4 := op4) hsz hl3 hl4
          omega
      case rest =>
        obtain ⟨M,av,nv,cv,kv,hb1,hb2,hav,hnv,hcv,hkv,htm2,hsz2,hrd2,hgq2⟩ := hcut
        obtain ⟨e1,f1,rfl,-⟩ := id hav
        obtain ⟨e2,f2,rfl,-⟩ := id hnv
        obtain ⟨e3,f3,rfl,-⟩ := id hcv
        obtain ⟨e4,f4,rfl,-⟩ := id hkv
        have HAV : Hid (DevsIn (fun b => w.heap.size < b ∧ b ≠ B) wc (.slice e1 M.net.one.args.length f1) M.net.one.args) := hav
        have HNV : Hid (NetsIn (fun b => w.heap.size < b ∧ b ≠ B) wc (.slice e2 M.net.kids.length f2) M.net.kids) := hnv
        have HCV : Hid (ElemsIn (fun b => w.heap.size < b ∧ b ≠ B) wc (.slice e3 M.coils.length f3) M.coils) := hcv
        have HKV : Hid (ArmsIn (fun b => w.heap.size < b ∧ b ≠ B) wc (.slice e4 M.kids.length f4) M.kids) := hkv
        clear HB1 HB2 HA q6 q7 q8 q9 q10 q11 p6 p7 p8 p9 p10 p11 hrd hgq hav hnv hcv hkv hz1
        obtain ⟨hz0,q0,q1,q2,q3,q4,q5,p0,p1,p2,p3,p4,p5⟩ := hb1
        obtain ⟨hz1,q6,q7,q8,q9,q10,q11,p6,p7,p8,p9,p10,p11⟩ := hb2
        have hgB : ∀ b,(fun b => w.heap.size < b ∧ b ≠ B) b → ¬ g = b := fun b hb e => by have := hb.1; omega
        go_wp2_with (first | (go_at_call_of 31 (Value.int IntKind.i64 2); refine (s_pick g _ _ _ raA (by omega) (by omega) (by omega)).mono ?_; rintro e wd ⟨x,rfl,hx0,hx1,hrd,hgc⟩; have hz0 : w.heap.size < wd.heap.size := Nat.lt_of_lt_of_le ltA hgc.size; have hz1 : B < wd.heap.size := Nat.lt_of_lt_of_le ltA hgc.size; obtain ⟨q0,p0,q1,p1,q2,p2,q3,p3,q4,p4,q5,p5,q6,p6,q7,p7,q8,p8,q9,p9,q10,p10,q11,p11⟩ : wd.cell? ⟨w.heap.size,0,none⟩ = some (.int .i64 0) ∧ wd.frozen? ⟨w.heap.size,0,none⟩ = false ∧ wd.cell? ⟨w.heap.size,1,none⟩ = some (.int .i64 0) ∧ wd.frozen? ⟨w.heap.size,1,none⟩ = false ∧ wd.cell? ⟨w.heap.size,2,none⟩ = some (.slice none 0 0) ∧ wd.frozen? ⟨w.heap.size,2,none⟩ = false ∧ wd.cell? ⟨w.heap.size,3,none⟩ = some (.slice none 0 0) ∧ wd.frozen? ⟨w.heap.size,3,none⟩ = false ∧ wd.cell? ⟨w.heap.size,4,none⟩ = some (.slice none 0 0) ∧ wd.frozen? ⟨w.heap.size,4,none⟩ = false ∧ wd.cell? ⟨w.heap.size,5,none⟩ = some (.slice none 0 0) ∧ wd.frozen? ⟨w.heap.size,5,none⟩ = false ∧ wd.cell? ⟨B,0,none⟩ = some (.int .i64 M.net.kind) ∧ wd.frozen? ⟨B,0,none⟩ = false ∧ wd.cell? ⟨B,1,none⟩ = some (.int .i64 M.net.one.op) ∧ wd.frozen? ⟨B,1,none⟩ = false ∧ wd.cell? ⟨B,2,none⟩ = some (.slice e1 M.net.one.args.length f1) ∧ wd.frozen? ⟨B,2,none⟩ = false ∧ wd.cell? ⟨B,3,none⟩ = some (.slice e2 M.net.kids.length f2) ∧ wd.frozen? ⟨B,3,none⟩ = false ∧ wd.cell? ⟨B,4,none⟩ = some (.slice e3 M.coils.length f3) ∧ wd.frozen? ⟨B,4,none⟩ = false ∧ wd.cell? ⟨B,5,none⟩ = some (.slice e4 M.kids.length f4) ∧ wd.frozen? ⟨B,5,none⟩ = false := ⟨gcA hgc,gfA hgc,gcA hgc,gfA hgc,gcA hgc,gfA hgc,gcA hgc,gfA hgc,gcA hgc,gfA hgc,gcA hgc,gfA hgc,gcA hgc,gfA hgc,gcA hgc,gfA hgc,gcA hgc,gfA hgc,gcA hgc,gfA hgc,gcA hgc,gfA hgc,gcA hgc,gfA hgc⟩) | (go_at_call 67; refine (s_l2Contact g _ _ raA (by omega)).mono ?_; rintro e we ⟨eop,ev,eds,rfl,ehop,ehv,ehs,ehl,hrd,hge⟩; obtain ⟨ea,ec,rfl,_,_⟩ := id ehv; have hz0 : w.heap.size < we.heap.size := Nat.lt_of_lt_of_le ltA hge.size; have hz1 : B < we.heap.size := Nat.lt_of_lt_of_le ltA hge.size; obtain ⟨q0,p0,q1,p1,q2,p2,q3,p3,q4,p4,q5,p5,q6,p6,q7,p7,q8,p8,q9,p9,q10,p10,q11,p11⟩ : we.cell? ⟨w.heap.size,0,none⟩ = some (.int .i64 0) ∧ we.frozen? ⟨w.heap.size,0,none⟩ = false ∧ we.cell? ⟨w.heap.size,1,none⟩ = some (.int .i64 0) ∧ we.frozen? ⟨w.heap.size,1,none⟩ = false ∧ we.cell? ⟨w.heap.size,2,none⟩ = some (.slice none 0 0) ∧ we.frozen? ⟨w.heap.size,2,none⟩ = false ∧ we.cell? ⟨w.heap.size,3,none⟩ = some (.slice none 0 0) ∧ we.frozen? ⟨w.heap.size,3,none⟩ = false ∧ we.cell? ⟨w.heap.size,4,none⟩ = some (.slice none 0 0) ∧ we.frozen? ⟨w.heap.size,4,none⟩ = false ∧ we.cell? ⟨w.heap.size,5,none⟩ = some (.slice none 0 0) ∧ we.frozen? ⟨w.heap.size,5,none⟩ = false ∧ we.cell? ⟨B,0,none⟩ = some (.int .i64 M.net.kind) ∧ we.frozen? ⟨B,0,none⟩ = false ∧ we.cell? ⟨B,1,none⟩ = some (.int .i64 M.net.one.op) ∧ we.frozen? ⟨B,1,none⟩ = false ∧ we.cell? ⟨B,2,none⟩ = some (.slice e1 M.net.one.args.length f1) ∧ we.frozen? ⟨B,2,none⟩ = false ∧ we.cell? ⟨B,3,none⟩ = some (.slice e2 M.net.kids.length f2) ∧ we.frozen? ⟨B,3,none⟩ = false ∧ we.cell? ⟨B,4,none⟩ = some (.slice e3 M.coils.length f3) ∧ we.frozen? ⟨B,4,none⟩ = false ∧ we.cell? ⟨B,5,none⟩ = some (.slice e4 M.kids.length f4) ∧ we.frozen? ⟨B,5,none⟩ = false := ⟨gcA hge,gfA hge,gcA hge,gfA hge,gcA hge,gfA hge,gcA hge,gfA hge,gcA hge,gfA hge,gcA hge,gfA hge,gcA hge,gfA hge,gcA hge,gfA hge,gcA hge,gfA hge,gcA hge,gfA hge,gcA hge,gfA hge,gcA hge,gfA hge⟩))
        · have hkc : KeepsIn (fun b => w.heap.size < b ∧ b ≠ B) wc we := (KeepsIn.of_grown hgc (fun b hb e => hgB b hb (by simpa using e))).trans (KeepsIn.of_grown hge (fun b hb e => hgB b hb (by simpa using e)))
          have hed : DevsIn (fun b => w.heap.size < b ∧ b ≠ B) we (.slice ea eds.length ec) eds := (devs_of_el ehv).mono (fun b _ hb => by have := hgc.size; omega)
          refine ⟨⟨j + 1,by omega,by go_num,⟨⟨1,⟨eop,eds⟩,[]⟩,M.coils,M.kids⟩,_,_,_,_,abA,(show ABox _ B 1 eop (.slice ea eds.length ec) (.slice none 0 0) (.slice e3 M.coils.length f3) (.slice e4 M.kids.length f4) from abA),hed.keep kpA,nets_nil _ _,(HCV.out.keep hkc).keep kpA,(HKV.out.keep hkc).keep kpA,(ATame_eq _ _ _).2 ⟨tame_contact (by decide) ehop ehs (by omega),(ATame.both htm2).1,(ATame.both htm2).2⟩,?_,rlA,glA⟩,by simp [intOf]; omega⟩
          have := arm_net_sz M ⟨1,⟨eop,eds⟩,[]⟩
          have e9 : Stil.netSz ⟨1,⟨eop,eds⟩,[]⟩ = eds.length := by rw [Stil.netSz_eq]; simp
          omega
        · have hkc : KeepsIn (fun b => w.heap.size < b ∧ b ≠ B) wc wd := KeepsIn.of_grown hgc (fun b hb e => hgB b hb (by simpa using e))
          refine ⟨⟨j + 1,by omega,by go_num,M,_,_,_,_,abA,abA,HAV.out.keep hkc,HNV.out.keep hkc,HCV.out.keep hkc,HKV.out.keep hkc,htm2,by omega,rlA,glA⟩,by simp [intOf]; omega⟩
    · obtain rfl : j = n := by omega
      have HCV : Hid (ElemsIn (fun b => w.heap.size < b ∧ b ≠ B) wr (.slice a4 A.coils.length c4) A.coils) := hcv
      have HKV : Hid (ArmsIn (fun b => w.heap.size < b ∧ b ≠ B) wr (.slice a5 A.kids.length c5) A.kids) := hkv
      clear hav hnv hcv hkv HA HB1 HB2
      obtain ⟨hz0,q0,q1,q2,q3,q4,q5,p0,p1,p2,p3,p4,p5⟩ := hb1
      have hgB : ∀ b,(fun b => w.heap.size < b ∧ b ≠ B) b → ¬ g = b := fun b hb e => by have := hb.1; omega
      go_wp2_with (go_at_call 67; refine (s_l2Contact g _ _ raA (by omega)).mono ?_; rintro e we ⟨eop,ev,eds,rfl,ehop,ehv,ehs,ehl,hrd,hge⟩; obtain ⟨ea,ec,rfl,_,_⟩ := id ehv; have hz0 : w.heap.size < we.heap.size := Nat.lt_of_lt_of_le ltA hge.size; have hz1 : B < we.heap.size := Nat.lt_of_lt_of_le ltA hge.size; obtain ⟨q0,p0,q1,p1,q2,p2,q3,p3,q4,p4,q5,p5,q6,p6,q7,p7,q8,p8,q9,p9,q10,p10,q11,p11⟩ : we.cell? ⟨w.heap.size,0,none⟩ = some (.int .i64 0) ∧ we.frozen? ⟨w.heap.size,0,none⟩ = false ∧ we.cell? ⟨w.heap.size,1,none⟩ = some (.int .i64 0) ∧ we.frozen? ⟨w.heap.size,1,none⟩ = false ∧ we.cell? ⟨w.heap.size,2,none⟩ = some (.slice none 0 0) ∧ we.frozen? ⟨w.heap.size,2,none⟩ = false ∧ we.cell? ⟨w.heap.size,3,none⟩ = some (.slice none 0 0) ∧ we.frozen? ⟨w.heap.size,3,none⟩ = false ∧ we.cell? ⟨w.heap.size,4,none⟩ = some (.slice none 0 0) ∧ we.frozen? ⟨w.heap.size,4,none⟩ = false ∧ we.cell? ⟨w.heap.size,5,none⟩ = some (.slice none 0 0) ∧ we.frozen? ⟨w.heap.size,5,none⟩ = false ∧ we.cell? ⟨B,0,none⟩ = some (.int .i64 A.net.kind) ∧ we.frozen? ⟨B,0,none⟩ = false ∧ we.cell? ⟨B,1,none⟩ = some (.int .i64 A.net.one.op) ∧ we.frozen? ⟨B,1,none⟩ = false ∧ we.cell? ⟨B,2,none⟩ = some (.slice a1 A.net.one.args.length c1) ∧ we.frozen? ⟨B,2,none⟩ = false ∧ we.cell? ⟨B,3,none⟩ = some (.slice a3 A.net.kids.length c3) ∧ we.frozen? ⟨B,3,none⟩ = false ∧ we.cell? ⟨B,4,none⟩ = some (.slice a4 A.coils.length c4) ∧ we.frozen? ⟨B,4,none⟩ = false ∧ we.cell? ⟨B,5,none⟩ = some (.slice a5 A.kids.length c5) ∧ we.frozen? ⟨B,5,none⟩ = false := ⟨gcA hge,gfA hge,gcA hge,gfA hge,gcA hge,gfA hge,gcA hge,gfA hge,gcA hge,gfA hge,gcA hge,gfA hge,gcA hge,gfA hge,gcA hge,gfA hge,gcA hge,gfA hge,gcA hge,gfA hge,gcA hge,gfA hge,gcA hge,gfA hge⟩)
      have hkc : KeepsIn (fun b => w.heap.size < b ∧ b ≠ B) wr we := KeepsIn.of_grown hge (fun b hb e => hgB b hb (by simpa using e))
      have hed : DevsIn (fun b => w.heap.size < b ∧ b ≠ B) we (.slice ea eds.length ec) eds := (devs_of_el ehv).mono (fun b _ hb => by omega)
      have hle : ∀ (W : World) (b : Nat),b < W.heap.size → w.heap.size < b ∧ b ≠ B → w.heap.size ≤ b := fun _ b _ h => by omega
      refine bodyPost_ret (by simp [results,Tryz.results65,go_sem,q0,q1,q2,q3,q4,q5]; rfl) rfl ?_
      refine ⟨⟨⟨1,⟨eop,eds⟩,[]⟩,A.coils,A.kids⟩,_,_,_,_,rfl,DevsIn.mono (hed.keep kpA) (hle _),nets_nil _ _,ElemsIn.mono ((HCV.out.keep hkc).keep kpA) (hle _),ArmsIn.mono ((HKV.out.keep hkc).keep kpA) (hle _),(ATame_eq _ _ _).2 ⟨tame_contact (by decide) ehop ehs (by omega),(ATame.both htm).1,(ATame.both htm).2⟩,?_,rlA,glA⟩
      have := arm_net_sz A ⟨1,⟨eop,eds⟩,[]⟩
      have e9 : Stil.netSz ⟨1,⟨eop,eds⟩,[]⟩ = eds.length := by rw [Stil.netSz_eq]; simp
      omega
/-- What a draw of a ladder leaves: arms in new memory. -/
def LadOut (e : Ending) (w w' : World) (g Q N k : Nat) : Prop := ∃ (l : List Stil.Arm) (v : Value),e = .returned v ∧ ArmsIn (fun b => w.heap.size ≤ b) w' v l ∧ (∀ a ∈ l,ATame a ∧ Stil.armSz a ≤ N) ∧ l.length ≤ k ∧ RdAt w' g Q ∧ w.grownBy w' (some g)
/-- A ladder being drawn: its row. -/
def LadSt (w0 wq : World) (v : Value) (g Q k : Nat) : Prop := ∃ (ks : List Stil.Arm) (ys : List Value),
  wq.ownsRow w0.heap.size 36 6 v ks.length ys ∧ RowOf 6 (ArmC (Off (w0.heap.size - 1) v) wq) ys ks ∧ (∀ a ∈ ks,ATame a ∧ Stil.armSz a ≤ 4000) ∧ ks.length = k ∧ RdAt wq g Q ∧ w0.grownBy wq (some g)
def lenV : Value → Nat
  | .slice _ n _ => n
  | _ => 0
theorem arms_fit {l : List Stil.Arm} {N : Nat} (h : ∀ a ∈ l,ATame a ∧ Stil.armSz a ≤ N) (hN : N ≤ 1000000) : ∀ a ∈ l,Stil.armFits a := fun a ha => Stil.armFits_of a (ATame.wf a (h a ha).1 (Nat.le_trans (h a ha).2 hN)) (by have := (h a ha).2; omega)
theorem arms_size {l : List Stil.Arm} {N : Nat} (h : ∀ a ∈ l,ATame a ∧ Stil.armSz a ≤ N) : Stil.treeSize l ≤ l.length * (2 + 2 * N) := by
  have := sum_le Stil.armSize (2 + 2 * N) l (fun a ha => by have := Stil.armSize_le a; have := (h a ha).2; omega)
  exact this
theorem arms_take {P : Nat → Prop} {w : World} {a : Option Addr} {n c : Nat} {l : List Stil.Arm} (h : ArmsIn P w (.slice a l.length c) l) (hn : n ≤ l.length) : ArmsIn P w (.slice a n c) (l.take n) := by
  obtain ⟨a',c',hv,hq,hc⟩ := h
  simp only [Value.slice.injEq] at hv
  obtain ⟨rfl,-,rfl⟩ := hv
  have hl : (l.take n).length = n := by rw [List.length_take]; omega
  refine ⟨a,c,by rw [hl],⟨by rw [hl]; have := hq.1; omega,hq.2⟩,fun i hi => ?_⟩
  rw [hl] at hi
  obtain ⟨b,o,h1,h2,h3,h4⟩ := hc i (by omega)
  exact ⟨b,o,h1,h2,h3,by rw [List.getElem_take]; exact h4⟩
theorem s_l3Ladder (g P : Nat) (w : World) (hr : RdAt w g P) (hP : P ≤ 1000000) :
    Calls Tryz.prog 30 #[.pointer (some ⟨g,0,none⟩)] w fun e w' => LadOut e w w' g (P + 60000) 4000 4 := by
  have hg := rd_lt hr
  obtain ⟨ia,hia,hia0,hia1,hia2⟩ := info_parts info_arm
  go_enter Tryz.func30,Tryz.ntmps30
  have hown0 : (w.alloc (.cells #[] 36)).ownsRow w.heap.size 36 6 (.slice (some ⟨w.heap.size,0,none⟩) 0 0) 0 [] := by
    have := World.ownsRow_lit (base := w.heap.size) (e := 36) (size := 6) w #[] 0 (by omega) (by unfold maxLen; omega) rfl
    simpa using this
  go_upto_region 3 with (go_at_call_of 31 (Value.int IntKind.i64 24); refine (s_pick g _ _ _ raA (by omega) (by omega) (by omega)).mono ?_; rintro e wa ⟨x,rfl,hx0,hx1,hrda,hga⟩)
  have HOW : Hid (wa.ownsRow w.heap.size 36 6 (.slice (some ⟨w.heap.size,0,none⟩) 0 0) 0 []) := own_grown hown0 hga (by omega)
  have hgq : w.grownBy wa (some g) := gr_call (gr_alloc (grown_refl _ _) _) hga
  have hsa := hga.size
  rw [World.size_alloc] at hsa
  clear hown0 hga hr
  by_cases hx : x = 0
  · subst hx
    go_wp2_with (first | (go_at_call_of 59 (6 : Nat); refine (s_num g _ _ _ [9,15,16,17,18,30] _ raA (by omega) (ints_of_from (by simp [IntsFrom,go_sem])) (by simp) (by first | (simp; omega) | omega) (by simp) (by simp)).mono ?_; rintro e wb ⟨y,rfl,hy,hrd,hgb⟩; simp only [List.mem_cons,List.not_mem_nil,or_false] at hy; obtain ⟨m,rfl⟩ : ∃ m : Nat,y = m := ⟨y.toNat,(by omega)⟩) | (go_at_call 58; refine (s_l3Stair m g _ _ (by omega) raA (by omega)).mono ?_; rintro e wd ⟨N,av,nv,rfl,hav,hnv,ht,hsz,hrd,hgc⟩; have HA : Hid (DevsIn (fun b => wb.heap.size ≤ b) wd av N.one.args) := hav; have HN : Hid (NetsIn (fun b => wb.heap.size ≤ b) wd nv N.kids) := hnv; obtain ⟨e1,f1,rfl,-⟩ := hav; obtain ⟨e2,f2,rfl,-⟩ := hnv) | (go_at_call 64; refine (s_l2Coil g _ _ raA (by omega)).mono ?_; rintro e we ⟨eop,ev,eds,rfl,ehop,ehv,ehs,ehl,hrd,hge⟩; have HE : Hid (DevsIn (fun b => wd.heap.size - 1 < b) we ev eds) := devs_of_el ehv; obtain ⟨ea,ec,rfl,_,_⟩ := ehv) | (at_builtin; refine wpList_append_own_at _ rfl _ _ 23 rfl w.heap.size 36 ia (.agg #[.int .i64 0,.int .i64 0,.slice none 0 0,.slice none 0 0,.slice none 0 0,.slice none 0 0]) 6 112 Tryz.underlying23 hia hia0 hia1 hia2 rfl (by decide) _ _ _ rfl (((own_grown (own_grown (own_grown (HOW.out.alloc _) hgb (by omega)) hgc (by omega)) hge (by omega)).alloc _).alloc _) _ _ _ [.int .i64 N.kind,.int .i64 N.one.op,.slice e1 N.one.args.length f1,.slice e2 N.kids.length f2,.slice (some ⟨we.heap.size,0,none⟩) 1 1,.slice none 0 0] rfl rfl (by exact cells_new _ _ _ _ (by simp)) (by intro u hu; simp only [List.mem_cons,List.not_mem_nil,or_false] at hu; rcases hu with rfl | rfl | rfl | rfl | rfl | rfl <;> rfl) (by unfold maxLen; omega) (by omega) (by simp only [World.size_alloc]; have := hgb.size; have := hgc.size; have := hge.size; simp only [World.size_alloc] at *; omega) ?_; intro v' w6 hown6 hgr6 hnil6 hat6))
    have HG6 : ((we.alloc (.cells #[.int .i64 eop,.slice ea eds.length ec] 30)).alloc (.cells #[.int .i64 N.kind,.int .i64 N.one.op,.slice e1 N.one.args.length f1,.slice e2 N.kids.length f2,.slice (some ⟨we.heap.size,0,none⟩) 1 1,.slice none 0 0] 36)).grownBy w6 (some w.heap.size) := hgr6
    have s1 := hgb.size
    have s2 := hgc.size
    have s3 := hge.size
    simp only [World.size_alloc] at s1
    have kg : ∀ {u v : World},u.grownBy v (some g) → KeepsIn (fun b => w.heap.size < b) u v := fun h => KeepsIn.of_grown h (fun b hb e => by simp only [Option.some.injEq] at e; omega)
    have ka : ∀ (u : World) (o : Obj),KeepsIn (fun b => w.heap.size < b) u (u.alloc o) := fun u o => KeepsIn.of_below (below_alloc _ _)
    have k6 : KeepsIn (fun b => w.heap.size < b) ((we.alloc (.cells #[.int .i64 eop,.slice ea eds.length ec] 30)).alloc (.cells #[.int .i64 N.kind,.int .i64 N.one.op,.slice e1 N.one.args.length f1,.slice e2 N.kids.length f2,.slice (some ⟨we.heap.size,0,none⟩) 1 1,.slice none 0 0] 36)) w6 := KeepsIn.of_grown HG6 (fun b hb e => by simp only [Option.some.injEq] at e; omega)
    have hd : DevsIn (fun b => w.heap.size < b) ((we.alloc (.cells #[.int .i64 eop,.slice ea eds.length ec] 30)).alloc (.cells #[.int .i64 N.kind,.int .i64 N.one.op,.slice e1 N.one.args.length f1,.slice e2 N.kids.length f2,.slice (some ⟨we.heap.size,0,none⟩) 1 1,.slice none 0 0] 36)) (.slice e1 N.one.args.length f1) N.one.args := (((HA.out.mono (fun b _ hb => by omega)).keep (kg hge)).keep (ka _ _)).keep (ka _ _)
    have hn : NetsIn (fun b => w.heap.size < b) ((we.alloc (.cells #[.int .i64 eop,.slice ea eds.length ec] 30)).alloc (.cells #[.int .i64 N.kind,.int .i64 N.one.op,.slice e1 N.one.args.length f1,.slice e2 N.kids.length f2,.slice (some ⟨we.heap.size,0,none⟩) 1 1,.slice none 0 0] 36)) (.slice e2 N.kids.length f2) N.kids := (((HN.out.mono (fun b _ hb => by omega)).keep (kg hge)).keep (ka _ _)).keep (ka _ _)
    have he : ElemsIn (fun b => w.heap.size < b) ((we.alloc (.cells #[.int .i64 eop,.slice ea eds.length ec] 30)).alloc (.cells #[.int .i64 N.kind,.int .i64 N.one.op,.slice e1 N.one.args.length f1,.slice e2 N.kids.length f2,.slice (some ⟨we.heap.size,0,none⟩) 1 1,.slice none 0 0] 36)) (.slice (some ⟨we.heap.size,0,none⟩) 1 1) [⟨eop,eds⟩] := (elems_lit (b := we.heap.size) (ns := [⟨eop,eds⟩]) rfl (RowOf.one (cs := [.int .i64 eop,.slice ea eds.length ec]) rfl ⟨_,rfl,HE.out.mono (fun b _ hb => by omega)⟩) (by omega) (by simp)).keep (ka _ _)
    have hrw : RowOf 6 (ArmC (fun b => w.heap.size ≤ b) w6) [.int .i64 N.kind,.int .i64 N.one.op,.slice e1 N.one.args.length f1,.slice e2 N.kids.length f2,.slice (some ⟨we.heap.size,0,none⟩) 1 1,.slice none 0 0] [⟨N,[⟨eop,eds⟩],[]⟩] := (RowOf.one (R := ArmC (fun b => w.heap.size < b) ((we.alloc (.cells #[.int .i64 eop,.slice ea eds.length ec] 30)).alloc (.cells #[.int .i64 N.kind,.int .i64 N.one.op,.slice e1 N.one.args.length f1,.slice e2 N.kids.length f2,.slice (some ⟨we.heap.size,0,none⟩) 1 1,.slice none 0 0] 36))) (cs := [.int .i64 N.kind,.int .i64 N.one.op,.slice e1 N.one.args.length f1,.slice e2 N.kids.length f2,.slice (some ⟨we.heap.size,0,none⟩) 1 1,.slice none 0 0]) (a := ⟨N,[⟨eop,eds⟩],[]⟩) rfl ⟨_,_,_,_,rfl,hd,hn,he,arms_nil _ _⟩).imp fun _ _ _ h => (h.keep k6).mono fun b _ hb => Nat.le_of_lt hb
    go_ret
    refine ⟨[⟨N,[⟨eop,eds⟩],[]⟩],_,rfl,armsIn_of_row (ns := [⟨N,[⟨eop,eds⟩],[]⟩]) hown6 hrw (fun b hb => (hown6.lt _ hb).1),?_,by simp,?_,?_⟩
    · intro a ha
      rw [List.mem_singleton.1 ha]
      refine ⟨(ATame_eq _ _ _).2 ⟨ht,fun c hc => ?_,fun _ h => (by cases h)⟩,?_⟩
      · rw [List.mem_singleton.1 hc]; exact ⟨ehop,ehs,by show eds.length ≤ 100000; omega⟩
      · rw [Stil.armSz_eq]
        simp only [Stil.elemsSz,Stil.elemSz,List.length_cons,List.length_nil,List.map_cons,List.map_nil,List.sum_cons,List.sum_nil]
        omega
    · exact rd_mono (rd_grown (rd_alloc (rd_alloc hrd _) _) HG6 (fun k hk => by simp only [Option.some.injEq] at hk; omega)) (by omega)
    · exact gr_own (gr_alloc (gr_alloc (gr_call (gr_call (gr_call (gr_alloc hgq _) hgb) hgc) hge) _) _) HG6 (fun k hk => by simp only [Option.some.injEq] at hk; omega)
  · by_cases hx1 : x = 1
    · subst hx1
      go_wp2_with (first | (go_at_call_of 59 (5 : Nat); refine (s_num g _ _ _ [5,7,8,9,12] _ raA (by omega) (ints_of_from (by simp [IntsFrom,go_sem])) (by simp) (by first | (simp; omega) | omega) (by simp) (by simp)).mono ?_; rintro e wb ⟨y,rfl,hy,hrd,hgb⟩; simp only [List.mem_cons,List.not_mem_nil,or_false] at hy; obtain ⟨m,rfl⟩ : ∃ m : Nat,y = m := ⟨y.toNat,(by omega)⟩) | (go_at_call 65; refine (s_l3Forks m g _ _ (by omega) raA (by omega)).mono ?_; rintro e wd ⟨A,av,nv,cv,kv,rfl,hav,hnv,hcv,hkv,ht,hsz,hrd,hgc⟩; have HA : Hid (ArmC (fun b => wb.heap.size ≤ b) wd [.int .i64 A.net.kind,.int .i64 A.net.one.op,av,nv,cv,kv] A) := ⟨av,nv,cv,kv,rfl,hav,hnv,hcv,hkv⟩; obtain ⟨e1,f1,rfl,-⟩ := hav; obtain ⟨e2,f2,rfl,-⟩ := hnv; obtain ⟨e3,f3,rfl,-⟩ := hcv; obtain ⟨e4,f4,rfl,-⟩ := hkv) | (at_builtin; refine wpList_append_own_at _ rfl _ _ 23 rfl w.heap.size 36 ia (.agg #[.int .i64 0,.int .i64 0,.slice none 0 0,.slice none 0 0,.slice none 0 0,.slice none 0 0]) 6 112 Tryz.underlying23 hia hia0 hia1 hia2 rfl (by decide) _ _ _ rfl ((own_grown (own_grown (HOW.out.alloc _) hgb (by omega)) hgc (by omega)).alloc _) _ _ _ [.int .i64 A.net.kind,.int .i64 A.net.one.op,.slice e1 A.net.one.args.length f1,.slice e2 A.net.kids.length f2,.slice e3 A.coils.length f3,.slice e4 A.kids.length f4] rfl rfl (by exact cells_new _ _ _ _ (by simp)) (by intro u hu; simp only [List.mem_cons,List.not_mem_nil,or_false] at hu; rcases hu with rfl | rfl | rfl | rfl | rfl | rfl <;> rfl) (by unfold maxLen; omega) (by omega) (by simp only [World.size_alloc]; have := hgb.size; have := hgc.size; simp only [World.size_alloc] at *; omega) ?_; intro v' w6 hown6 hgr6 hnil6 hat6))
      have HG6 : (wd.alloc (.cells #[.int .i64 A.net.kind,.int .i64 A.net.one.op,.slice e1 A.net.one.args.length f1,.slice e2 A.net.kids.length f2,.slice e3 A.coils.length f3,.slice e4 A.kids.length f4] 36)).grownBy w6 (some w.heap.size) := hgr6
      have s1 := hgb.size
      have s2 := hgc.size
      simp only [World.size_alloc] at s1
      have k6 : KeepsIn (fun b => w.heap.size < b) (wd.alloc (.cells #[.int .i64 A.net.kind,.int .i64 A.net.one.op,.slice e1 A.net.one.args.length f1,.slice e2 A.net.kids.length f2,.slice e3 A.coils.length f3,.slice e4 A.kids.length f4] 36)) w6 := KeepsIn.of_grown HG6 (fun b hb e => by simp only [Option.some.injEq] at e; omega)
      have hrw : RowOf 6 (ArmC (fun b => w.heap.size ≤ b) w6) [.int .i64 A.net.kind,.int .i64 A.net.one.op,.slice e1 A.net.one.args.length f1,.slice e2 A.net.kids.length f2,.slice e3 A.coils.length f3,.slice e4 A.kids.length f4] [A] := (RowOf.one (R := ArmC (fun b => w.heap.size < b) (wd.alloc (.cells #[.int .i64 A.net.kind,.int .i64 A.net.one.op,.slice e1 A.net.one.args.length f1,.slice e2 A.net.kids.length f2,.slice e3 A.coils.length f3,.slice e4 A.kids.length f4] 36))) (cs := [.int .i64 A.net.kind,.int .i64 A.net.one.op,.slice e1 A.net.one.args.length f1,.slice e2 A.net.kids.length f2,.slice e3 A.coils.length f3,.slice e4 A.kids.length f4]) (a := A) rfl ((HA.out.mono (fun b _ hb => by omega)).keep (KeepsIn.of_below (below_alloc _ _)))).imp fun _ _ _ h => (h.keep k6).mono fun b _ hb => Nat.le_of_lt hb
      go_ret
      refine ⟨[A],_,rfl,armsIn_of_row (ns := [A]) hown6 hrw (fun b hb => (hown6.lt _ hb).1),?_,by simp,?_,?_⟩
      · intro a ha
        rw [List.mem_singleton.1 ha]
        exact ⟨ht,by omega⟩
      · exact rd_mono (rd_grown (rd_alloc hrd _) HG6 (fun k hk => by simp only [Option.some.injEq] at hk; omega)) (by omega)
      · exact gr_own (gr_alloc (gr_call (gr_call (gr_alloc hgq _) hgb) hgc) _) HG6 (fun k hk => by simp only [Option.some.injEq] at hk; omega)
    · by_cases hx2 : x = 2
      · subst hx2
        go_wp2
        go_ret
        exact ⟨[],_,rfl,armsIn_of_row (ns := []) HOW.out (RowOf.nil _ _) (fun b hb => (HOW.out.lt _ hb).1),fun _ h => (by cases h),by simp,rlA,glA⟩
      · go_wp2_with (go_at_call_of 31 (Value.int IntKind.i64 4); refine (s_pick g _ _ _ raA (by omega) (by omega) (by omega)).mono ?_; rintro e wb ⟨y,rfl,hy0,hy1,hrdb,hgb⟩)
        have hsb := hgb.size
        obtain ⟨y2,hye⟩ := Int.eq_ofNat_of_zero_le hy0
        subst hye
        have hst : LadSt w wb (.slice (some ⟨w.heap.size,0,none⟩) 0 0) g (P + 100 + 0 * 13000) 0 := ⟨[],[],own_grown HOW.out hgb (by omega),RowOf.nil _ _,fun _ h => (by cases h),rfl,rd_mono hrdb (by omega),gr_call hgq hgb⟩
        have hwb : w.heap.size ≤ wb.heap.size := by omega
        clear HOW hgq hgb hrdb hrda hsa hsb
        go_loopw [3,4] (fun o i wr => ∃ j k : Nat,k + j = 1 + y2 ∧ i = .int .i64 j ∧ w.heap.size ≤ wr.heap.size ∧ LadSt w wr o g (P + 100 + k * 13000) k) (fun _ i _ => (intOf i).toNat)
        case atStart => exact ⟨1 + y2,0,by omega,by go_num,hwb,hst⟩
        case round =>
          clear hst
          obtain ⟨j,k,hkj,rfl,hwr,ks,ys,hown,hrow,htk,hkl,hrd,hgq⟩ := hrel
          subst hkl
          obtain ⟨a0,c0,hv0,-⟩ := own_open hown
          subst hv0
          have HOW2 : Hid (wr.ownsRow w.heap.size 36 6 (.slice a0 ks.length c0) ks.length ys) := hown
          have HRW : Hid (RowOf 6 (ArmC (Off (w.heap.size - 1) (.slice a0 ks.length c0)) wr) ys ks) := hrow
          have HTK : Hid (∀ a ∈ ks,ATame a ∧ Stil.armSz a ≤ 4000) := htk
          clear hown hrow htk
          by_cases hlt : 0 < j
          · have HAR : Hid (Calls Tryz.prog 66 #[.pointer (some ⟨g,0,none⟩),.int .i64 2,.bool true] wr fun e w' => ArmOut e wr w' g (P + 100 + ks.length * 13000 + 13000) 2600) := s_l3Arm 2 2 true g _ wr (by omega) rfl hrd (by have e : armC 2 = 13000 := rfl; rw [e]; omega)
            go_wp2_with (first | (go_at_call 66; refine HAR.out.mono ?_; rintro e wd ⟨A,av,nv,cv,kv,rfl,hav,hnv,hcv,hkv,ht,hsz,hrd2,hgc⟩; have HA : Hid (ArmC (fun b => wr.heap.size ≤ b) wd [.int .i64 A.net.kind,.int .i64 A.net.one.op,av,nv,cv,kv] A) := ⟨av,nv,cv,kv,rfl,hav,hnv,hcv,hkv⟩; obtain ⟨e1,f1,rfl,-⟩ := hav; obtain ⟨e2,f2,rfl,-⟩ := hnv; obtain ⟨e3,f3,rfl,-⟩ := hcv; obtain ⟨e4,f4,rfl,-⟩ := hkv) | (at_builtin; refine wpList_append_own_at _ rfl _ _ 23 rfl w.heap.size 36 ia (.agg #[.int .i64 0,.int .i64 0,.slice none 0 0,.slice none 0 0,.slice none 0 0,.slice none 0 0]) 6 112 Tryz.underlying23 hia hia0 hia1 hia2 rfl (by decide) _ _ _ rfl ((own_grown HOW2.out hgc (by omega)).alloc _) _ _ _ [.int .i64 A.net.kind,.int .i64 A.net.one.op,.slice e1 A.net.one.args.length f1,.slice e2 A.net.kids.length f2,.slice e3 A.coils.length f3,.slice e4 A.kids.length f4] rfl rfl (by exact cells_new _ _ _ _ (by simp)) (by intro u hu; simp only [List.mem_cons,List.not_mem_nil,or_false] at hu; rcases hu with rfl | rfl | rfl | rfl | rfl | rfl <;> rfl) (by unfold maxLen; omega) (by omega) (by simp only [World.size_alloc]; have := hgc.size; omega) ?_; intro v' w6 hown6 hgr6 hnil6 hat6))
            have s2 := hgc.size
            have s6 := hgr6.size
            rw [World.size_alloc] at s6
            have hk : KeepsIn (Off (w.heap.size - 1) (.slice a0 ks.length c0)) wr (wd.alloc (.cells #[.int .i64 A.net.kind,.int .i64 A.net.one.op,.slice e1 A.net.one.args.length f1,.slice e2 A.net.kids.length f2,.slice e3 A.coils.length f3,.slice e4 A.kids.length f4] 36)) := (KeepsIn.of_grown hgc (fun b hb e => by have := hb.1; simp only [Option.some.injEq] at e; omega)).trans (KeepsIn.of_below (below_alloc _ _))
            have hoff : ∀ b,b < wd.heap.size → wr.heap.size ≤ b → Off (w.heap.size - 1) (.slice a0 ks.length c0) b := fun b _ hb => ⟨by omega,fun e2 => by have h1 := (HOW2.out.lt _ e2).2; omega⟩
            have hr6 := arms_append (HRW.out.imp fun _ _ _ h => h.keep hk) (ArmC.keep (w := wd) (n := A) (HA.out.mono hoff) (KeepsIn.of_below (below_alloc _ _))) rfl hgr6 hat6
            have el : (ks ++ [A]).length = ks.length + 1 := by simp
            refine ⟨⟨j - 1,ks.length + 1,by omega,by go_num,by omega,ks ++ [A],_,by rw [el]; exact hown6,hr6,?_,el,?_,?_⟩,by simp [intOf]; omega⟩
            · intro c hc
              rcases List.mem_append.1 hc with hc | hc
              · exact HTK.out c hc
              · rw [List.mem_singleton.1 hc]; exact ⟨ht,by omega⟩
            · exact rd_mono (rd_grown (rd_alloc hrd2 _) hgr6 (fun k hk => by have := (HOW2.out.lt _ hk).1; omega)) (by omega)
            · exact gr_own (gr_alloc (gr_call hgq hgc) _) hgr6 (fun k hk => (HOW2.out.lt _ hk).1)
          · have hj1 : ¬ (0 : Int) < j := by omega
            have har : ArmsIn (fun b => w.heap.size ≤ b) wr (.slice a0 ks.length c0) ks := armsIn_of_row HOW2.out (HRW.out.imp fun _ _ _ h => h.mono fun b _ hb => by have := hb.1; omega) (fun b hb => (HOW2.out.lt _ hb).1)
            have hst2 : ∃ l : List Stil.Arm,ArmsIn (fun b => w.heap.size ≤ b) wr (.slice a0 ks.length c0) l ∧ (∀ a ∈ l,ATame a ∧ Stil.armSz a ≤ 4000) ∧ l.length ≤ 4 ∧ RdAt wr g (P + 55000) ∧ w.grownBy wr (some g) := ⟨ks,har,HTK.out,by omega,rd_mono hrd (by omega),hgq⟩
            clear har HOW2 HRW HTK hrd hgq
            go_wp2
            go_loopw [3] (fun o wq => ∃ l : List Stil.Arm,ArmsIn (fun b => w.heap.size ≤ b) wq o l ∧ (∀ a ∈ l,ATame a ∧ Stil.armSz a ≤ 4000) ∧ l.length ≤ 4 ∧ RdAt wq g (P + 55000) ∧ w.grownBy wq (some g)) (fun o _ => lenV o)
            case atStart => exact hst2
            case round =>
              clear hst2
              obtain ⟨l,har,htk,hll,hrd,hgq⟩ := hrel
              obtain ⟨a1,c1,rfl,hcap,-⟩ := id har
              have hcl : l.length ≤ c1 := hcap.1
              have HAR : Hid (ArmsIn (fun b => w.heap.size ≤ b) wr (.slice a1 l.length c1) l) := har
              have HTK : Hid (∀ a ∈ l,ATame a ∧ Stil.armSz a ≤ 4000) := htk
              have HTZ : Hid (Calls Tryz.prog 27 #[.slice a1 l.length c1] wr fun e w' => e = .returned (.int .i64 (Stil.treeSize l)) ∧ Below wr.heap.size wr w') := s_treeSize l _ wr har.at (by have := arms_size htk; have : l.length * (2 + 2 * 4000) ≤ 4 * (2 + 2 * 4000) := Nat.mul_le_mul_right _ hll; omega) (arms_fit htk (by omega))
              obtain ⟨S,hS⟩ : ∃ S,S = Stil.treeSize l := ⟨_,rfl⟩
              rw [← hS] at HTZ
              clear har htk hcap hS
              by_cases hl0 : l.length = 0
              · have hz : decide (0 < (l.length : Int)) = false := by rw [decide_eq_false_iff_not]; omega
                go_wp2
                go_ret
                exact ⟨l,_,rfl,HAR.out,HTK.out,hll,rd_mono hrd (by omega),hgq⟩
              · have hlp : 0 < (l.length : Int) := by omega
                have hl1 : (0 : Int) ≤ (l.length : Int) - 1 := by omega
                have hl2 : (l.length : Int) - 1 ≤ c1 := by omega
                have hl3 : ((l.length : Int) - 1).toNat = l.length - 1 := by omega
                by_cases hbig : 400 < S
                · have hbi : (400 : Int) < S := by omega
                  go_wp2_with (go_at_call 27; refine HTZ.out.mono ?_; rintro e w5 ⟨rfl,hb5⟩)
                  have hlt1 : (l.take (l.length - 1)).length = l.length - 1 := by rw [List.length_take]; omega
                  refine ⟨⟨l.take (l.length - 1),arms_take (HAR.out.keep (KeepsIn.of_below hb5)) (by omega),fun a ha => HTK.out a (List.mem_of_mem_take ha),by omega,rd_grown hrd (grown_below hb5 none) (fun k hk => by cases hk),gr_call hgq (grown_below hb5 _)⟩,?_⟩
                  show l.length - 1 < l.length
                  omega
                · have hbi : ¬ (400 : Int) < S := by omega
                  go_wp2_with (go_at_call 27; refine HTZ.out.mono ?_; rintro e w5 ⟨rfl,hb5⟩)
                  go_ret
                  exact ⟨l,_,rfl,HAR.out.keep (KeepsIn.of_below hb5),HTK.out,hll,rd_mono (rd_grown hrd (grown_below hb5 none) (fun k hk => by cases hk)) (by omega),gr_call hgq (grown_below hb5 _)⟩
end Go.Proofs.YtenoanhonjdpjaaGreatDoor
