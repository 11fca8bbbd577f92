/- D15a,D15: texts put together. -/
import Derived.Test.YtenoanhonjdpjaaGreatDoorG5
/- Arms that are drawn: what is asked of them,and how they lie in a box. -/
namespace Go.Proofs.YtenoanhonjdpjaaGreatDoor
open Go.RowKit Go.Sort Go.BigFrame
theorem info_elem : (Tryz.prog.info? 30).map (fun i => (i.zero,i.size,i.bytes)) = some (some (.agg #[.int .i64 0,.slice none 0 0]),2,32) := by kernel_rfl
theorem info_arm : (Tryz.prog.info? 36).map (fun i => (i.zero,i.size,i.bytes)) = some (some (.agg #[.int .i64 0,.int .i64 0,.slice none 0 0,.slice none 0 0,.slice none 0 0,.slice none 0 0]),6,112) := by kernel_rfl
/-- What a draw of an arm leaves: an arm in new memory. -/
def ArmOut (e : Ending) (w w' : World) (g Q N : Nat) : Prop := ∃ (a : Stil.Arm) (av nv cv kv : Value),e = .returned (.agg #[.int .i64 a.net.kind,.int .i64 a.net.one.op,av,nv,cv,kv]) ∧ DevsIn (fun b => w.heap.size ≤ b) w' av a.net.one.args ∧ NetsIn (fun b => w.heap.size ≤ b) w' nv a.net.kids ∧ ElemsIn (fun b => w.heap.size ≤ b) w' cv a.coils ∧ ArmsIn (fun b => w.heap.size ≤ b) w' kv a.kids ∧ ATame a ∧ Stil.armSz a ≤ N ∧ RdAt w' g Q ∧ w.grownBy w' (some g)
def armC : Nat → Nat
 | 0 => 1000
 | m + 1 => 3 * armC m + 1000
def armN : Nat → Nat
 | 0 => 200
 | m + 1 => 3 * armN m + 200
theorem armC_pos (m : Nat) : 1000 ≤ armC m := by cases m <;> simp [armC]
theorem armN_pos (m : Nat) : 200 ≤ armN m := by cases m <;> simp [armN]
def ABox (w : World) (b : Nat) (k op : Int) (av nv cv kv : Value) : Prop := b < w.heap.size ∧ w.cell? ⟨b,0,none⟩ = some (.int .i64 k) ∧ w.cell? ⟨b,1,none⟩ = some (.int .i64 op) ∧ w.cell? ⟨b,2,none⟩ = some av ∧ w.cell? ⟨b,3,none⟩ = some nv ∧ w.cell? ⟨b,4,none⟩ = some cv ∧ w.cell? ⟨b,5,none⟩ = some kv ∧ w.frozen? ⟨b,0,none⟩ = false ∧ w.frozen? ⟨b,1,none⟩ = false ∧ w.frozen? ⟨b,2,none⟩ = false ∧ w.frozen? ⟨b,3,none⟩ = false ∧ w.frozen? ⟨b,4,none⟩ = false ∧ w.frozen? ⟨b,5,none⟩ = false
theorem abA {W : World} {b : Nat} {k op : Int} {av nv cv kv : Value} (h : ABox W b k op av nv cv kv := by refine ⟨ltA,?_,?_,?_,?_,?_,?_,?_,?_,?_,?_,?_,?_⟩ <;> first | ((repeat (first | with_reducible assumption | with_reducible refine cell_drew.trans ?_ | with_reducible refine (cell_set_other (by omega)).trans ?_ | with_reducible refine (cell_set_off (by omega)).trans ?_ | with_reducible refine (cell_alloc_old ltA).trans ?_ | with_reducible apply cell_set_at | (simp [go_sem]; done))); done) | (repeat (first | with_reducible assumption | with_reducible refine frozen_drew.trans ?_ | with_reducible refine frozen_set.trans ?_ | with_reducible refine (frozen_alloc_old ltA).trans ?_ | (simp [go_sem]; done)))) : ABox W b k op av nv cv kv := h
theorem ABox.grownO {w w' : World} {b : Nat} {k op : Int} {av nv cv kv : Value} {r : Option Nat} (h : ABox w b k op av nv cv kv) (hg : w.grownBy w' r) (hr : r ≠ some b) : ABox w' b k op av nv cv kv := by
 obtain ⟨h0,h1⟩ := h
 have e : w'.heap[b]? = w.heap[b]? := hg.block b h0 (fun x => hr x.symm)
 have hc : ∀ o,w'.cell? ⟨b,o,none⟩ = w.cell? ⟨b,o,none⟩ := fun o => by unfold World.cell?; rw [e]
 have hf : ∀ o,w'.frozen? ⟨b,o,none⟩ = w.frozen? ⟨b,o,none⟩ := fun o => by unfold World.frozen?; rw [e]
 refine ⟨Nat.lt_of_lt_of_le h0 hg.size,?_⟩
 rw [hc,hc,hc,hc,hc,hc,hf,hf,hf,hf,hf,hf]
 exact h1
theorem devs_off {B : Nat} {v v' u : Value} {w w' : World} {ds : List Stil.Dev} (h : DevsIn (Off B v) w u ds) (hg : w.grownBy w' v.ownBlock) (ha : v'.ownBlock = v.ownBlock ∨ v'.ownBlock = some w.heap.size) : DevsIn (Off B v') w' u ds := by
 have h1 : DevsIn (fun b => Off B v b ∧ Off B v' b) w u ds := h.mono fun b hb hp => ⟨hp,off_mono ha b hb hp⟩
 exact (h1.keep (keep_mono (off_keep (B := B) hg) fun b _ hp => hp.1)).mono fun b _ hp => hp.2
theorem nets_off {B : Nat} {v v' u : Value} {w w' : World} {ns : List Stil.Net} (h : NetsIn (Off B v) w u ns) (hg : w.grownBy w' v.ownBlock) (ha : v'.ownBlock = v.ownBlock ∨ v'.ownBlock = some w.heap.size) : NetsIn (Off B v') w' u ns := by
 have h1 : NetsIn (fun b => Off B v b ∧ Off B v' b) w u ns := h.mono fun b hb hp => ⟨hp,off_mono ha b hb hp⟩
 exact (h1.keep (keep_mono (off_keep (B := B) hg) fun b _ hp => hp.1)).mono fun b _ hp => hp.2
theorem elems_off {B : Nat} {v v' u : Value} {w w' : World} {es : List Stil.Elem} (h : ElemsIn (Off B v) w u es) (hg : w.grownBy w' v.ownBlock) (ha : v'.ownBlock = v.ownBlock ∨ v'.ownBlock = some w.heap.size) : ElemsIn (Off B v') w' u es := by
 have h1 : ElemsIn (fun b => Off B v b ∧ Off B v' b) w u es := h.mono fun b hb hp => ⟨hp,off_mono ha b hb hp⟩
 exact (h1.keep (keep_mono (off_keep (B := B) hg) fun b _ hp => hp.1)).mono fun b _ hp => hp.2
theorem tame_none : NTame ⟨0,⟨0,[]⟩,[]⟩ := tame_contact (by decide) (by decide) (fun _ h => (by cases h)) (by simp)
/-- An arm being drawn: its net and its coils,in a box. -/
def ArmCoils (w0 wq : World) (B : Nat) (g Q k : Nat) : Prop := ∃ (n : Stil.Net) (av nv cv : Value) (cs : List Stil.Elem) (xs : List Value),
 ABox wq w0.heap.size 0 0 (.slice none 0 0) (.slice none 0 0) (.slice none 0 0) (.slice none 0 0) ∧ ABox wq B n.kind n.one.op av nv cv (.slice none 0 0) ∧ DevsIn (Off B cv) wq av n.one.args ∧ NetsIn (Off B cv) wq nv n.kids ∧
 wq.ownsRow (B + 1) 30 2 cv cs.length xs ∧ RowOf 2 (ElemC (Off B cv) wq) xs cs ∧ NTame n ∧ Stil.netSz n ≤ 130 ∧ (∀ c ∈ cs,ETame c ∧ c.args.length ≤ 3) ∧ cs.length ≤ k ∧ RdAt wq g Q ∧ w0.grownBy wq (some g)
theorem ABox.set {w : World} {b b' o : Nat} {k op : Int} {av nv cv kv v : Value} (h : ABox w b k op av nv cv kv) (hne : b ≠ b') : ABox (w.setCell ⟨b',o,none⟩ v) b k op av nv cv kv := by
 obtain ⟨h0,h1⟩ := h
 refine ⟨by simpa using h0,?_⟩
 simp only [cell_set_other hne,frozen_set]
 exact h1
theorem ABox.set5 {w : World} {b : Nat} {k op : Int} {av nv cv kv v : Value} (h : ABox w b k op av nv cv kv) : ABox (w.setCell ⟨b,5,none⟩ v) b k op av nv cv v := by
 obtain ⟨h0,h1,h2,h3,h4,h5,h6,hf⟩ := h
 refine ⟨by simpa using h0,?_⟩
 rw [cell_set_off (by decide),cell_set_off (by decide),cell_set_off (by decide),cell_set_off (by decide),cell_set_off (by decide),cell_set_at h6]
 simp only [frozen_set]
 exact ⟨h1,h2,h3,h4,h5,by first | rfl | trivial,hf⟩
theorem ABox.alloc {w : World} {b : Nat} {k op : Int} {av nv cv kv : Value} (h : ABox w b k op av nv cv kv) (o : Obj) : ABox (w.alloc o) b k op av nv cv kv := h.grownO (grown_below (below_alloc w o) none) (by simp)
theorem ABox.c4 {w : World} {b : Nat} {k op : Int} {av nv cv kv : Value} (h : ABox w b k op av nv cv kv) : b < w.heap.size ∧ w.cell? ⟨b,4,none⟩ = some cv ∧ w.frozen? ⟨b,4,none⟩ = false := by
 obtain ⟨h0,h1,h2,h3,h4,h5,h6,f0,f1,f2,f3,f4,f5⟩ := h
 exact ⟨h0,h5,f4⟩
theorem ABox.c5 {w : World} {b : Nat} {k op : Int} {av nv cv kv : Value} (h : ABox w b k op av nv cv kv) : b < w.heap.size ∧ w.cell? ⟨b,5,none⟩ = some kv ∧ w.frozen? ⟨b,5,none⟩ = false := by
 obtain ⟨h0,h1,h2,h3,h4,h5,h6,f0,f1,f2,f3,f4,f5⟩ := h
 exact ⟨h0,h6,f5⟩
theorem sum_le {α : Type} (f : α → Nat) (N : Nat) : ∀ l : List α,(∀ x ∈ l,f x ≤ N) → (l.map f).sum ≤ l.length * N
 | [],_ => by simp
 | y :: r,h => by
  have h1 := h y (by simp)
  have h2 := sum_le f N r (fun x hx => h x (by simp [hx]))
  simp only [List.map_cons,List.sum_cons,List.length_cons,Nat.succ_mul]
  omega
/-- An arm being drawn: its kids,in a box. -/
def ArmKids (w0 wq : World) (B g Q k N : Nat) : Prop := ∃ (n : Stil.Net) (av nv cv kv : Value) (cs : List Stil.Elem) (ks : List Stil.Arm) (ys : List Value),
 ABox wq w0.heap.size 0 0 (.slice none 0 0) (.slice none 0 0) (.slice none 0 0) (.slice none 0 0) ∧ ABox wq B n.kind n.one.op av nv cv kv ∧ DevsIn (Off B kv) wq av n.one.args ∧ NetsIn (Off B kv) wq nv n.kids ∧ ElemsIn (Off B kv) wq cv cs ∧
 wq.ownsRow (B + 1) 36 6 kv ks.length ys ∧ RowOf 6 (ArmC (Off B kv) wq) ys ks ∧ NTame n ∧ Stil.netSz n ≤ 130 ∧ (∀ c ∈ cs,ETame c ∧ c.args.length ≤ 3) ∧ cs.length ≤ 2 ∧ (∀ a ∈ ks,ATame a ∧ Stil.armSz a ≤ N) ∧ ks.length = k ∧ RdAt wq g Q ∧ w0.grownBy wq (some g)
theorem arm_sz {n : Stil.Net} {cs : List Stil.Elem} {ks : List Stil.Arm} {N : Nat} (h1 : Stil.netSz n ≤ 130) (h2 : ∀ c ∈ cs,ETame c ∧ c.args.length ≤ 3) (h3 : ∀ a ∈ ks,ATame a ∧ Stil.armSz a ≤ N) : Stil.armSz ⟨n,cs,ks⟩ ≤ 130 + 4 * cs.length + ks.length + ks.length * N := by
 rw [Stil.armSz_eq]
 have e : Stil.elemsSz cs = cs.length + (cs.map Stil.elemSz).sum := rfl
 have a := sum_le Stil.elemSz 3 cs (fun c hc => (h2 c hc).2)
 have b := sum_le Stil.armSz N ks (fun a ha => (h3 a ha).2)
 omega
theorem arm_tame {n : Stil.Net} {cs : List Stil.Elem} {ks : List Stil.Arm} {N : Nat} (h1 : NTame n) (h2 : ∀ c ∈ cs,ETame c ∧ c.args.length ≤ 3) (h3 : ∀ a ∈ ks,ATame a ∧ Stil.armSz a ≤ N) : ATame ⟨n,cs,ks⟩ := (ATame_eq _ _ _).2 ⟨h1,fun c hc => (h2 c hc).1,fun a ha => (h3 a ha).1⟩
theorem hid_of {p : Prop} (h : p) : Hid p := h
set_option maxHeartbeats 20000000 in
set_option maxRecDepth 100000 in
theorem s_l3ArmS (m : Nat) (ih : ∀ (m' : Nat),m = m' + 1 → ∀ (d : Int) (root : Bool) (g P : Nat) (w : World),d = m' → RdAt w g P → P + armC m' ≤ 100000000 → Calls Tryz.prog 66 #[.pointer (some ⟨g,0,none⟩),.int .i64 d,.bool root] w fun e w' => ArmOut e w w' g (P + armC m') (armN m'))
  (d : Int) (root : Bool) (g P : Nat) (w : World) (hd : d = m) (hm : m ≤ 100) (hr : RdAt w g P) (hP : P + armC m ≤ 100000000) :
  Calls Tryz.prog 66 #[.pointer (some ⟨g,0,none⟩),.int .i64 d,.bool root] w fun e w' => ArmOut e w w' g (P + armC m) (armN m) := by
 subst hd
 have hg := rd_lt hr
 have IH0 : Hid (∀ (m' : Nat),m = m' + 1 → ∀ (d : Int) (root : Bool) (g P : Nat) (w : World),d = m' → RdAt w g P → P + armC m' ≤ 100000000 → Calls Tryz.prog 66 #[.pointer (some ⟨g,0,none⟩),.int .i64 d,.bool root] w fun e w' => ArmOut e w w' g (P + armC m') (armN m')) := ih
 clear ih
 have hcp := armC_pos m
 have hnp := armN_pos m
 obtain ⟨ie,hie,hie0,hie1,hie2⟩ := info_parts info_elem
 obtain ⟨ia,hia,hia0,hia1,hia2⟩ := info_parts info_arm
 go_enter Tryz.func66,Tryz.ntmps66
 go_upto_region 2 with fail
 go_cut [16] (fun c wq => ∃ b : Bool,c = .bool b ∧ RdAt wq g (P + 1) ∧ w.grownBy wq (some g) ∧ ABox wq w.heap.size 0 0 (.slice none 0 0) (.slice none 0 0) (.slice none 0 0) (.slice none 0 0) ∧ ABox wq (w.heap.size + 1) 0 0 (.slice none 0 0) (.slice none 0 0) (.slice none 0 0) (.slice none 0 0))
 case first =>
  cases root
  ·go_wp2_with ((go_at_call_of 31 (Value.int IntKind.i64 3); refine (s_pick g _ _ _ raA (by omega) (by omega) (by omega)).mono ?_; rintro e wa ⟨x,rfl,hx0,hx1,hrd,hga⟩; have hz0 : w.heap.size < wa.heap.size := Nat.lt_of_lt_of_le ltA hga.size; have hz1 : (w.heap.size + 1) < wa.heap.size := Nat.lt_of_lt_of_le ltA hga.size; obtain ⟨q0,p0,q1,p1,q2,p2,q3,p3,q4,p4,q5,p5,q6,p6,q7,p7,q8,p8,q9,p9,q10,p10,q11,p11⟩ : wa.cell? ⟨w.heap.size,0,none⟩ = some (.int .i64 0) ∧ wa.frozen? ⟨w.heap.size,0,none⟩ = false ∧ wa.cell? ⟨w.heap.size,1,none⟩ = some (.int .i64 0) ∧ wa.frozen? ⟨w.heap.size,1,none⟩ = false ∧ wa.cell? ⟨w.heap.size,2,none⟩ = some (.slice none 0 0) ∧ wa.frozen? ⟨w.heap.size,2,none⟩ = false ∧ wa.cell? ⟨w.heap.size,3,none⟩ = some (.slice none 0 0) ∧ wa.frozen? ⟨w.heap.size,3,none⟩ = false ∧ wa.cell? ⟨w.heap.size,4,none⟩ = some (.slice none 0 0) ∧ wa.frozen? ⟨w.heap.size,4,none⟩ = false ∧ wa.cell? ⟨w.heap.size,5,none⟩ = some (.slice none 0 0) ∧ wa.frozen? ⟨w.heap.size,5,none⟩ = false ∧ wa.cell? ⟨(w.heap.size + 1),0,none⟩ = some (.int .i64 0) ∧ wa.frozen? ⟨(w.heap.size + 1),0,none⟩ = false ∧ wa.cell? ⟨(w.heap.size + 1),1,none⟩ = some (.int .i64 0) ∧ wa.frozen? ⟨(w.heap.size + 1),1,none⟩ = false ∧ wa.cell? ⟨(w.heap.size + 1),2,none⟩ = some (.slice none 0 0) ∧ wa.frozen? ⟨(w.heap.size + 1),2,none⟩ = false ∧ wa.cell? ⟨(w.heap.size + 1),3,none⟩ = some (.slice none 0 0) ∧ wa.frozen? ⟨(w.heap.size + 1),3,none⟩ = false ∧ wa.cell? ⟨(w.heap.size + 1),4,none⟩ = some (.slice none 0 0) ∧ wa.frozen? ⟨(w.heap.size + 1),4,none⟩ = false ∧ wa.cell? ⟨(w.heap.size + 1),5,none⟩ = some (.slice none 0 0) ∧ wa.frozen? ⟨(w.heap.size + 1),5,none⟩ = false := ⟨gcA hga,gfA hga,gcA hga,gfA hga,gcA hga,gfA hga,gcA hga,gfA hga,gcA hga,gfA hga,gcA hga,gfA hga,gcA hga,gfA hga,gcA hga,gfA hga,gcA hga,gfA hga,gcA hga,gfA hga,gcA hga,gfA hga,gcA hga,gfA hga⟩))
   go_meet
   exact ⟨decide (0 < x),rfl,rlA,glA,abA,abA⟩
  ·go_wp2
   go_meet
   exact ⟨true,rfl,rlA,glA,abA,abA⟩
 case rest =>
  obtain ⟨b,rfl,hrd,hgq,⟨hz0,q0,q1,q2,q3,q4,q5,p0,p1,p2,p3,p4,p5⟩,⟨hz1,q6,q7,q8,q9,q10,q11,p6,p7,p8,p9,p10,p11⟩⟩ := hcut
  have hN2 : netN 2 = 130 := rfl
  have hC2 : netC 2 = 650 := rfl
  go_upto_if 16 with fail
  go_cut [] (fun wq => ArmCoils w wq (w.heap.size + 1) g (P + 651) 0)
  case first =>
   go_wp2_with ((go_at_call 56; refine (s_l3Net 2 _ g _ _ (by omega) rfl raA (by omega)).mono ?_; rintro e wb ⟨n1,av,nv,rfl,hav,hnv,ht1,hs1,hrd,hgb⟩; obtain ⟨a1,c1,rfl,-⟩ := id hav; obtain ⟨a2,c2,rfl,-⟩ := id hnv; have hz0 : w.heap.size < wb.heap.size := Nat.lt_of_lt_of_le ltA hgb.size; have hz1 : (w.heap.size + 1) < wb.heap.size := Nat.lt_of_lt_of_le ltA hgb.size; obtain ⟨q0,p0,q1,p1,q2,p2,q3,p3,q4,p4,q5,p5,q6,p6,q7,p7,q8,p8,q9,p9,q10,p10,q11,p11⟩ : wb.cell? ⟨w.heap.size,0,none⟩ = some (.int .i64 0) ∧ wb.frozen? ⟨w.heap.size,0,none⟩ = false ∧ wb.cell? ⟨w.heap.size,1,none⟩ = some (.int .i64 0) ∧ wb.frozen? ⟨w.heap.size,1,none⟩ = false ∧ wb.cell? ⟨w.heap.size,2,none⟩ = some (.slice none 0 0) ∧ wb.frozen? ⟨w.heap.size,2,none⟩ = false ∧ wb.cell? ⟨w.heap.size,3,none⟩ = some (.slice none 0 0) ∧ wb.frozen? ⟨w.heap.size,3,none⟩ = false ∧ wb.cell? ⟨w.heap.size,4,none⟩ = some (.slice none 0 0) ∧ wb.frozen? ⟨w.heap.size,4,none⟩ = false ∧ wb.cell? ⟨w.heap.size,5,none⟩ = some (.slice none 0 0) ∧ wb.frozen? ⟨w.heap.size,5,none⟩ = false ∧ wb.cell? ⟨(w.heap.size + 1),0,none⟩ = some (.int .i64 0) ∧ wb.frozen? ⟨(w.heap.size + 1),0,none⟩ = false ∧ wb.cell? ⟨(w.heap.size + 1),1,none⟩ = some (.int .i64 0) ∧ wb.frozen? ⟨(w.heap.size + 1),1,none⟩ = false ∧ wb.cell? ⟨(w.heap.size + 1),2,none⟩ = some (.slice none 0 0) ∧ wb.frozen? ⟨(w.heap.size + 1),2,none⟩ = false ∧ wb.cell? ⟨(w.heap.size + 1),3,none⟩ = some (.slice none 0 0) ∧ wb.frozen? ⟨(w.heap.size + 1),3,none⟩ = false ∧ wb.cell? ⟨(w.heap.size + 1),4,none⟩ = some (.slice none 0 0) ∧ wb.frozen? ⟨(w.heap.size + 1),4,none⟩ = false ∧ wb.cell? ⟨(w.heap.size + 1),5,none⟩ = some (.slice none 0 0) ∧ wb.frozen? ⟨(w.heap.size + 1),5,none⟩ = false := ⟨gcA hgb,gfA hgb,gcA hgb,gfA hgb,gcA hgb,gfA hgb,gcA hgb,gfA hgb,gcA hgb,gfA hgb,gcA hgb,gfA hgb,gcA hgb,gfA hgb,gcA hgb,gfA hgb,gcA hgb,gfA hgb,gcA hgb,gfA hgb,gcA hgb,gfA hgb,gcA hgb,gfA hgb⟩))
   ·go_meet
    have hmo : ∀ x,x < wb.heap.size → wc.heap.size ≤ x → w.heap.size + 1 < x := fun x _ h => by omega
    exact ⟨n1,_,_,_,[],[],abA,(show ABox _ (w.heap.size + 1) n1.kind n1.one.op (.slice a1 n1.one.args.length c1) (.slice a2 n1.kids.length c2) (.slice none 0 0) (.slice none 0 0) from abA),((hav.mono hmo).keep (P := fun x => w.heap.size + 1 < x) kpA).mono (fun x _ h => ⟨h,by simp [Value.ownBlock]⟩),((hnv.mono hmo).keep (P := fun x => w.heap.size + 1 < x) kpA).mono (fun x _ h => ⟨h,by simp [Value.ownBlock]⟩),⟨rfl,Or.inl ⟨rfl,rfl⟩⟩,RowOf.nil _ _,ht1,by omega,fun _ h => (by cases h),by simp,rlA,glA⟩
   ·go_meet
    exact ⟨⟨0,⟨0,[]⟩,[]⟩,_,_,_,[],[],abA,(show ABox _ (w.heap.size + 1) 0 0 (.slice none 0 0) (.slice none 0 0) (.slice none 0 0) (.slice none 0 0) from abA),devs_nil _ _,nets_nil _ _,⟨rfl,Or.inl ⟨rfl,rfl⟩⟩,RowOf.nil _ _,tame_none,by rw [Stil.netSz_eq]; simp,fun _ h => (by cases h),by simp,rlA,glA⟩
  case rest =>
   clear q0 q1 q2 q3 q4 q5 q6 q7 q8 q9 q10 q11 p0 p1 p2 p3 p4 p5 p6 p7 p8 p9 p10 p11 hrd hgq
   go_wp2_with (go_at_call 31; obtain ⟨n,av,nv,cv,cs,xs,hb1,hb2,hav,hnv,hown,hrow,htn,hszn,hte,hcl,hrd,hgq⟩ := hcut; refine (s_pick g _ _ _ hrd (by omega) (by omega) (by omega)).mono ?_; rintro e w3 ⟨x,rfl,hx0,hx1,hrd3,hgr3⟩)
   obtain ⟨x2,hx2e⟩ := Int.eq_ofNat_of_zero_le hx0
   subst hx2e
   have hx3 : x2 ≤ 2 := by omega
   have hc3 : ArmCoils w w3 (w.heap.size + 1) g (P + 652 + 40 * (2 - x2)) (2 - x2) := by
    refine ⟨n,av,nv,cv,cs,xs,hb1.grownO hgr3 (by intro e; simp only [Option.some.injEq] at e; omega),hb2.grownO hgr3 (by intro e; simp only [Option.some.injEq] at e; omega),?_,?_,own_grown hown hgr3 (by omega),?_,htn,hszn,hte,by omega,rd_mono hrd3 (by omega),gr_call hgq hgr3⟩
    ·exact hav.keep (KeepsIn.of_grown hgr3 (fun b hb e => by have := hb.1; simp only [Option.some.injEq] at e; omega))
    ·exact hnv.keep (KeepsIn.of_grown hgr3 (fun b hb e => by have := hb.1; simp only [Option.some.injEq] at e; omega))
    ·exact hrow.imp fun _ _ _ h => h.keep (KeepsIn.of_grown hgr3 (fun b hb e => by have := hb.1; simp only [Option.some.injEq] at e; omega))
   clear hb1 hb2 hav hnv hown hrow htn hszn hte hcl hrd hgq hrd3
   go_loopw [8] (fun i wr => ∃ j : Nat,j ≤ 2 ∧ i = .int .i64 j ∧ ArmCoils w wr (w.heap.size + 1) g (P + 652 + 40 * (2 - j)) (2 - j)) (fun i _ => (intOf i).toNat)
   case atStart => exact ⟨x2,hx3,rfl,hc3⟩
   case round =>
    obtain ⟨j,hj,rfl,n,av,nv,cv,cs,xs,hb1,hb2,hav,hnv,hown,hrow,htn,hszn,hte,hcl,hrd,hgq⟩ := hrel
    obtain ⟨hz0,q0,q1,q2,q3,q4,q5,p0,p1,p2,p3,p4,p5⟩ := hb1
    obtain ⟨hz1,q6,q7,q8,q9,q10,q11,p6,p7,p8,p9,p10,p11⟩ := hb2
    obtain ⟨a1,c1,rfl,-⟩ := id hav
    obtain ⟨a2,c2,rfl,-⟩ := id hnv
    obtain ⟨a3,c3,hcv,-⟩ := own_open hown
    subst hcv
    by_cases hlt : 0 < j
    ·go_upto_region 7 with fail
     rename_i hKK
     have HKK := hid_of hKK
     clear hKK
     go_region_law (first | (refine step_append_at rfl _ _ 34 rfl (w.heap.size + 1 + 1) 30 ie (.agg #[.int .i64 0,.slice none 0 0]) 2 32 Tryz.underlying34 hie hie0 hie1 hie2 rfl (by decide) _ _ _ rfl (hown5.alloc _) _ _ _ [.int .i64 op,.slice a4 ds.length c4] rfl rfl (by exact cells_new _ _ _ _ (by simp)) (by intro u hu; simp at hu; rcases hu with rfl | rfl <;> rfl) (by unfold maxLen; omega) (by omega) (by rw [World.size_alloc]; omega) ?_; intro v' w6 hown6 hgr6 hat6; obtain ⟨av6,vc6,hv6,-⟩ := own_open hown6; subst hv6; have hB1 : ABox (w5.alloc (.cells #[.int .i64 op,.slice a4 ds.length c4] 30)) w.heap.size 0 0 (.slice none 0 0) (.slice none 0 0) (.slice none 0 0) (.slice none 0 0) := abA; have hB2 : ABox (w5.alloc (.cells #[.int .i64 op,.slice a4 ds.length c4] 30)) (w.heap.size + 1) n.kind n.one.op (.slice a1 n.one.args.length c1) (.slice a2 n.kids.length c2) (.slice a3 cs.length c3) (.slice none 0 0) := abA; clear q0 q1 q2 q3 q4 q5 q6 q7 q8 q9 q10 q11 p0 p1 p2 p3 p4 p5 p6 p7 p8 p9 p10 p11; obtain ⟨hz0,q0,q1,q2,q3,q4,q5,p0,p1,p2,p3,p4,p5⟩ := hB1.grownO hgr6 (fun e => by have := hown.lt _ e; omega); obtain ⟨hz1,q6,q7,q8,q9,q10,q11,p6,p7,p8,p9,p10,p11⟩ := hB2.grownO hgr6 (fun e => by have := hown.lt _ e; omega)) | (go_simp; go_at_call 64; refine (s_l2Coil g _ _ raA (by omega)).mono ?_; rintro e w5 ⟨op,v,ds,rfl,hop,hv,hs,hl,hrd,hgr5'⟩; have hgr5 : wr.grownBy w5 (some g) := ⟨hgr5'.os,hgr5'.tape,hgr5'.output,hgr5'.size,hgr5'.block⟩; obtain ⟨a4,c4,rfl,-⟩ := id hv; have hown5 := own_grown hown hgr5 (by omega); have hz0 : w.heap.size < w5.heap.size := Nat.lt_of_lt_of_le ltA hgr5.size; have hz1 : (w.heap.size + 1) < w5.heap.size := Nat.lt_of_lt_of_le ltA hgr5.size; obtain ⟨q0,p0,q1,p1,q2,p2,q3,p3,q4,p4,q5,p5,q6,p6,q7,p7,q8,p8,q9,p9,q10,p10,q11,p11⟩ : w5.cell? ⟨w.heap.size,0,none⟩ = some (.int .i64 0) ∧ w5.frozen? ⟨w.heap.size,0,none⟩ = false ∧ w5.cell? ⟨w.heap.size,1,none⟩ = some (.int .i64 0) ∧ w5.frozen? ⟨w.heap.size,1,none⟩ = false ∧ w5.cell? ⟨w.heap.size,2,none⟩ = some (.slice none 0 0) ∧ w5.frozen? ⟨w.heap.size,2,none⟩ = false ∧ w5.cell? ⟨w.heap.size,3,none⟩ = some (.slice none 0 0) ∧ w5.frozen? ⟨w.heap.size,3,none⟩ = false ∧ w5.cell? ⟨w.heap.size,4,none⟩ = some (.slice none 0 0) ∧ w5.frozen? ⟨w.heap.size,4,none⟩ = false ∧ w5.cell? ⟨w.heap.size,5,none⟩ = some (.slice none 0 0) ∧ w5.frozen? ⟨w.heap.size,5,none⟩ = false ∧ w5.cell? ⟨(w.heap.size + 1),0,none⟩ = some (.int .i64 n.kind) ∧ w5.frozen? ⟨(w.heap.size + 1),0,none⟩ = false ∧ w5.cell? ⟨(w.heap.size + 1),1,none⟩ = some (.int .i64 n.one.op) ∧ w5.frozen? ⟨(w.heap.size + 1),1,none⟩ = false ∧ w5.cell? ⟨(w.heap.size + 1),2,none⟩ = some (.slice a1 n.one.args.length c1) ∧ w5.frozen? ⟨(w.heap.size + 1),2,none⟩ = false ∧ w5.cell? ⟨(w.heap.size + 1),3,none⟩ = some (.slice a2 n.kids.length c2) ∧ w5.frozen? ⟨(w.heap.size + 1),3,none⟩ = false ∧ w5.cell? ⟨(w.heap.size + 1),4,none⟩ = some (.slice a3 cs.length c3) ∧ w5.frozen? ⟨(w.heap.size + 1),4,none⟩ = false ∧ w5.cell? ⟨(w.heap.size + 1),5,none⟩ = some (.slice none 0 0) ∧ w5.frozen? ⟨(w.heap.size + 1),5,none⟩ = false := ⟨gcA hgr5,gfA hgr5,gcA hgr5,gfA hgr5,gcA hgr5,gfA hgr5,gcA hgr5,gfA hgr5,gcA hgr5,gfA hgr5,gcA hgr5,gfA hgr5,gcA hgr5,gfA hgr5,gcA hgr5,gfA hgr5,gcA hgr5,gfA hgr5,gcA hgr5,gfA hgr5,gcA hgr5,gfA hgr5,gcA hgr5,gfA hgr5⟩))
     all_goals have hKK := HKK.out
     all_goals go_wp2
     all_goals
      have hk5 : KeepsIn (Off (w.heap.size + 1) (.slice a3 cs.length c3)) wr (w5.alloc (.cells #[.int .i64 op,.slice a4 ds.length c4] 30)) := (KeepsIn.of_grown hgr5 (fun b hb e => by have := hb.1; simp only [Option.some.injEq] at e; omega)).trans (KeepsIn.of_below (below_alloc _ _))
      have hoff : ∀ b,b < w5.heap.size → wr.drew.heap.size - 1 < b → Off (w.heap.size + 1) (.slice a3 cs.length c3) b := fun b _ hb => by
       have e : wr.drew.heap.size = wr.heap.size := rfl
       exact ⟨by omega,fun e2 => by have h1 := (hown.lt _ e2).2; omega⟩
      have hr6 := elems_append (hrow.imp fun _ _ _ h => h.keep hk5) (ElemC.keep (w := w5) (e := ⟨op,ds⟩) ⟨_,rfl,(devs_of_el hv).mono hoff⟩ (KeepsIn.of_below (below_alloc _ _))) rfl hgr6 hat6
      have el : (cs ++ [(⟨op,ds⟩ : Stil.Elem)]).length = cs.length + 1 := by simp
      refine ⟨⟨j - 1,by omega,by go_num,n,_,_,.slice av6 (cs.length + 1) vc6,cs ++ [⟨op,ds⟩],_,abA,abA,(devs_off (hav.keep hk5) hgr6 hat6).keep (KeepsIn.set (by simp [Off]) _),(nets_off (hnv.keep hk5) hgr6 hat6).keep (KeepsIn.set (by simp [Off]) _),?_,hr6.imp (fun _ _ _ h => h.keep (KeepsIn.set (by simp [Off]) _)),htn,hszn,?_,?_,?_,?_⟩,by simp [intOf]; omega⟩
      ·rw [el]; exact ownsRow_setCell_below hown6 (Nat.lt_succ_self _) _
      ·intro c hc
       rcases List.mem_append.1 hc with hc | hc
       ·exact hte c hc
       ·simp at hc; subst hc; exact ⟨⟨hop,hs,by show ds.length ≤ 100000; omega⟩,hl⟩
      ·rw [el]; omega
      ·exact rd_mono (rd_set (rd_grown (rd_alloc hrd _) hgr6 (fun k hk => by have := hown.lt _ hk; omega)) (by omega) _) (by omega)
      ·exact gr_set (Nat.le_of_lt (Nat.lt_succ_self _)) (gr_own (gr_alloc (gr_call hgq hgr5) _) hgr6 (fun k hk => by have := hown.lt _ hk; omega)) _
    ·obtain rfl : j = 0 := by omega
     go_upto_region 8 with fail
     go_cut [39] (fun c wq => ∃ b : Bool,c = .bool b ∧ (b = true → 0 < m) ∧ ArmCoils w wq (w.heap.size + 1) g (P + 733) 2)
     case first =>
      cases m with
      | zero =>
       go_wp2
       go_meet
       exact ⟨false,rfl,fun h => (by cases h),n,_,_,_,cs,xs,abA,abA,hav,hnv,hown,hrow,htn,hszn,hte,by omega,rd_mono hrd (by omega),hgq⟩
      | succ m' =>
       go_wp2_with ((go_at_call_of 31 (Value.int IntKind.i64 3); refine (s_pick g _ _ _ raA (by omega) (by omega) (by omega)).mono ?_; rintro e wk ⟨x,rfl,hx0,hx1,hrd,hgk⟩; have hz0 : w.heap.size < wk.heap.size := Nat.lt_of_lt_of_le ltA hgk.size; have hz1 : (w.heap.size + 1) < wk.heap.size := Nat.lt_of_lt_of_le ltA hgk.size; obtain ⟨q0,p0,q1,p1,q2,p2,q3,p3,q4,p4,q5,p5,q6,p6,q7,p7,q8,p8,q9,p9,q10,p10,q11,p11⟩ : wk.cell? ⟨w.heap.size,0,none⟩ = some (.int .i64 0) ∧ wk.frozen? ⟨w.heap.size,0,none⟩ = false ∧ wk.cell? ⟨w.heap.size,1,none⟩ = some (.int .i64 0) ∧ wk.frozen? ⟨w.heap.size,1,none⟩ = false ∧ wk.cell? ⟨w.heap.size,2,none⟩ = some (.slice none 0 0) ∧ wk.frozen? ⟨w.heap.size,2,none⟩ = false ∧ wk.cell? ⟨w.heap.size,3,none⟩ = some (.slice none 0 0) ∧ wk.frozen? ⟨w.heap.size,3,none⟩ = false ∧ wk.cell? ⟨w.heap.size,4,none⟩ = some (.slice none 0 0) ∧ wk.frozen? ⟨w.heap.size,4,none⟩ = false ∧ wk.cell? ⟨w.heap.size,5,none⟩ = some (.slice none 0 0) ∧ wk.frozen? ⟨w.heap.size,5,none⟩ = false ∧ wk.cell? ⟨(w.heap.size + 1),0,none⟩ = some (.int .i64 n.kind) ∧ wk.frozen? ⟨(w.heap.size + 1),0,none⟩ = false ∧ wk.cell? ⟨(w.heap.size + 1),1,none⟩ = some (.int .i64 n.one.op) ∧ wk.frozen? ⟨(w.heap.size + 1),1,none⟩ = false ∧ wk.cell? ⟨(w.heap.size + 1),2,none⟩ = some (.slice a1 n.one.args.length c1) ∧ wk.frozen? ⟨(w.heap.size + 1),2,none⟩ = false ∧ wk.cell? ⟨(w.heap.size + 1),3,none⟩ = some (.slice a2 n.kids.length c2) ∧ wk.frozen? ⟨(w.heap.size + 1),3,none⟩ = false ∧ wk.cell? ⟨(w.heap.size + 1),4,none⟩ = some (.slice a3 cs.length c3) ∧ wk.frozen? ⟨(w.heap.size + 1),4,none⟩ = false ∧ wk.cell? ⟨(w.heap.size + 1),5,none⟩ = some (.slice none 0 0) ∧ wk.frozen? ⟨(w.heap.size + 1),5,none⟩ = false := ⟨gcA hgk,gfA hgk,gcA hgk,gfA hgk,gcA hgk,gfA hgk,gcA hgk,gfA hgk,gcA hgk,gfA hgk,gcA hgk,gfA hgk,gcA hgk,gfA hgk,gcA hgk,gfA hgk,gcA hgk,gfA hgk,gcA hgk,gfA hgk,gcA hgk,gfA hgk,gcA hgk,gfA hgk⟩))
       go_meet
       have hkk : KeepsIn (Off (w.heap.size + 1) (.slice a3 cs.length c3)) wr wk := KeepsIn.of_grown hgk (fun b hb e => by have := hb.1; simp only [Option.some.injEq] at e; omega)
       exact ⟨x == 0,rfl,fun _ => Nat.succ_pos _,n,_,_,_,cs,xs,abA,abA,hav.keep hkk,hnv.keep hkk,own_grown hown hgk (by omega),hrow.imp fun _ _ _ h => h.keep hkk,htn,hszn,hte,by omega,rd_mono hrd (by omega),gr_call hgq hgk⟩
     case rest =>
      clear hav hnv hown hrow htn hszn hte hcl hrd hgq q0 q1 q2 q3 q4 q5 q6 q7 q8 q9 q10 q11 p0 p1 p2 p3 p4 p5 p6 p7 p8 p9 p10 p11
      obtain ⟨b,rfl,hbm,hac⟩ := hcut
      go_upto_if 39 with fail
      go_cut [] (fun wq => ArmCoils w wq (w.heap.size + 1) g (P + 733) 2 ∨ ∃ k m' : Nat,m = m' + 1 ∧ 1 ≤ k ∧ k ≤ 3 ∧ ArmKids w wq (w.heap.size + 1) g (P + 740 + k * armC m') k (armN m'))
      case first =>
       cases b
       ·go_wp2
        go_meet
        exact Or.inl hac
       ·obtain ⟨m',rfl⟩ : ∃ m',m = m' + 1 := ⟨m - 1,by have := hbm rfl; omega⟩
        have ec : armC (m' + 1) = 3 * armC m' + 1000 := rfl
        rw [ec] at hP
        have IH : Hid (∀ (d : Int) (root : Bool) (g P : Nat) (w : World),d = m' → RdAt w g P → P + armC m' ≤ 100000000 → Calls Tryz.prog 66 #[.pointer (some ⟨g,0,none⟩),.int .i64 d,.bool root] w fun e w' => ArmOut e w w' g (P + armC m') (armN m')) := IH0.out m' rfl
        clear IH0 ec hbm
        obtain ⟨n,av,nv,cv,cs,xs,hb1,hb2,hav,hnv,hown,hrow,htn,hszn,hte,hcl,hrd,hgq⟩ := hac
        obtain ⟨hz0,q0,q1,q2,q3,q4,q5,p0,p1,p2,p3,p4,p5⟩ := hb1
        obtain ⟨hz1,q6,q7,q8,q9,q10,q11,p6,p7,p8,p9,p10,p11⟩ := hb2
        go_wp2_with ((go_at_call_of 31 (Value.int IntKind.i64 3); refine (s_pick g _ _ _ raA (by omega) (by omega) (by omega)).mono ?_; rintro e wk ⟨x,rfl,hx0,hx1,hrd,hgk⟩; have hz0 : w.heap.size < wk.heap.size := Nat.lt_of_lt_of_le ltA hgk.size; have hz1 : (w.heap.size + 1) < wk.heap.size := Nat.lt_of_lt_of_le ltA hgk.size; obtain ⟨q0,p0,q1,p1,q2,p2,q3,p3,q4,p4,q5,p5,q6,p6,q7,p7,q8,p8,q9,p9,q10,p10,q11,p11⟩ : wk.cell? ⟨w.heap.size,0,none⟩ = some (.int .i64 0) ∧ wk.frozen? ⟨w.heap.size,0,none⟩ = false ∧ wk.cell? ⟨w.heap.size,1,none⟩ = some (.int .i64 0) ∧ wk.frozen? ⟨w.heap.size,1,none⟩ = false ∧ wk.cell? ⟨w.heap.size,2,none⟩ = some (.slice none 0 0) ∧ wk.frozen? ⟨w.heap.size,2,none⟩ = false ∧ wk.cell? ⟨w.heap.size,3,none⟩ = some (.slice none 0 0) ∧ wk.frozen? ⟨w.heap.size,3,none⟩ = false ∧ wk.cell? ⟨w.heap.size,4,none⟩ = some (.slice none 0 0) ∧ wk.frozen? ⟨w.heap.size,4,none⟩ = false ∧ wk.cell? ⟨w.heap.size,5,none⟩ = some (.slice none 0 0) ∧ wk.frozen? ⟨w.heap.size,5,none⟩ = false ∧ wk.cell? ⟨(w.heap.size + 1),0,none⟩ = some (.int .i64 n.kind) ∧ wk.frozen? ⟨(w.heap.size + 1),0,none⟩ = false ∧ wk.cell? ⟨(w.heap.size + 1),1,none⟩ = some (.int .i64 n.one.op) ∧ wk.frozen? ⟨(w.heap.size + 1),1,none⟩ = false ∧ wk.cell? ⟨(w.heap.size + 1),2,none⟩ = some (av) ∧ wk.frozen? ⟨(w.heap.size + 1),2,none⟩ = false ∧ wk.cell? ⟨(w.heap.size + 1),3,none⟩ = some (nv) ∧ wk.frozen? ⟨(w.heap.size + 1),3,none⟩ = false ∧ wk.cell? ⟨(w.heap.size + 1),4,none⟩ = some (cv) ∧ wk.frozen? ⟨(w.heap.size + 1),4,none⟩ = false ∧ wk.cell? ⟨(w.heap.size + 1),5,none⟩ = some (.slice none 0 0) ∧ wk.frozen? ⟨(w.heap.size + 1),5,none⟩ = false := ⟨gcA hgk,gfA hgk,gcA hgk,gfA hgk,gcA hgk,gfA hgk,gcA hgk,gfA hgk,gcA hgk,gfA hgk,gcA hgk,gfA hgk,gcA hgk,gfA hgk,gcA hgk,gfA hgk,gcA hgk,gfA hgk,gcA hgk,gfA hgk,gcA hgk,gfA hgk,gcA hgk,gfA hgk⟩))
        obtain ⟨x2,hx2e⟩ := Int.eq_ofNat_of_zero_le hx0
        subst hx2e
        have hkk : KeepsIn (Off (w.heap.size + 1) cv) wc wk := KeepsIn.of_grown hgk (fun b hb e => by have := hb.1; simp only [Option.some.injEq] at e; omega)
        have hown4 := own_grown hown hgk (by omega)
        have hel : ElemsIn (fun b => w.heap.size + 1 < b) wk cv cs := elemsIn_of_row hown4 (hrow.imp fun _ _ _ h => (h.keep hkk).mono fun b _ hb => hb.1) (fun b hb => by have := (hown4.lt _ hb).1; omega)
        have hnil : ∀ b,b < wk.heap.size → w.heap.size + 1 < b → Off (w.heap.size + 1) (.slice none 0 0) b := fun b _ hb => ⟨hb,by simp [Value.ownBlock]⟩
        have hk0 : ArmKids w wk (w.heap.size + 1) g (P + 740 + 0 * armC m') 0 (armN m') := ⟨n,_,_,_,_,cs,[],[],abA,abA,((hav.keep hkk).mono fun b _ hb => hb.1).mono hnil,((hnv.keep hkk).mono fun b _ hb => hb.1).mono hnil,hel.mono hnil,⟨rfl,Or.inl ⟨rfl,rfl⟩⟩,RowOf.nil _ _,htn,hszn,hte,hcl,fun _ h => (by cases h),rfl,rd_mono hrd (by omega),gr_call hgq hgk⟩
        go_loopw [9] (fun i wr => ∃ j k : Nat,k + j = 1 + x2 ∧ i = .int .i64 j ∧ ArmKids w wr (w.heap.size + 1) g (P + 740 + k * armC m') k (armN m')) (fun i _ => (intOf i).toNat)
        case atStart => exact ⟨1 + x2,0,by omega,by go_num,hk0⟩
        case round =>
         clear hnil hk0 hel hown4 hkk hav hnv hown hrow htn hszn hte hcl hrd hgq q0 q1 q2 q3 q4 q5 q6 q7 q8 q9 q10 q11 p0 p1 p2 p3 p4 p5 p6 p7 p8 p9 p10 p11
         obtain ⟨j,k,hkj,rfl,n,av,nv,cv,kv,cs,ks,ys,hb1,hb2,hav,hnv,hcv,hown,hrow,htn,hszn,hte,hcl,htk,hkl,hrd,hgq⟩ := hrel
         subst hkl
         by_cases hlt : 0 < j
         ·have hle : (ks.length + 1) * armC m' ≤ 3 * armC m' := Nat.mul_le_mul_right _ (by omega)
          rw [Nat.succ_mul] at hle
          obtain ⟨a0,c0,hkv,-⟩ := own_open hown
          subst hkv
          have HB1 : Hid (ABox wr w.heap.size 0 0 (.slice none 0 0) (.slice none 0 0) (.slice none 0 0) (.slice none 0 0)) := hb1
          have HB2 : Hid (ABox wr (w.heap.size + 1) n.kind n.one.op av nv cv (.slice a0 ks.length c0)) := hb2
          obtain ⟨hz1,q11,p11⟩ := hb2.c5
          have hz0 := hb1.1
          have HAV : Hid (DevsIn (Off (w.heap.size + 1) (.slice a0 ks.length c0)) wr av n.one.args) := hav
          have HNV : Hid (NetsIn (Off (w.heap.size + 1) (.slice a0 ks.length c0)) wr nv n.kids) := hnv
          have HCV : Hid (ElemsIn (Off (w.heap.size + 1) (.slice a0 ks.length c0)) wr cv cs) := hcv
          have HTK : Hid (∀ a ∈ ks,ATame a ∧ Stil.armSz a ≤ armN m') := htk
          have HTE : Hid (∀ c ∈ cs,ETame c ∧ c.args.length ≤ 3) := hte
          have HRW : Hid (RowOf 6 (ArmC (Off (w.heap.size + 1) (.slice a0 ks.length c0)) wr) ys ks) := hrow
          clear hb1 hb2 hav hnv hcv htk hte hrow
          go_upto_region 12 with fail
          rename_i hKK
          have HKK := hid_of hKK
          clear hKK
          go_region_law (first | (refine step_append_at rfl _ _ 23 rfl (w.heap.size + 1 + 1) 36 ia (.agg #[.int .i64 0,.int .i64 0,.slice none 0 0,.slice none 0 0,.slice none 0 0,.slice none 0 0]) 6 112 Tryz.underlying23 hia hia0 hia1 hia2 rfl (by decide) _ _ _ rfl (hown5.alloc _) _ _ _ [.int .i64 A.net.kind,.int .i64 A.net.one.op,.slice e1 A.net.one.args.length f1,.slice e2 A.net.kids.length f2,.slice e3 A.coils.length f3,.slice e4 A.kids.length f4] rfl rfl (by exact cells_new _ _ _ _ (by simp)) (by intro u hu; simp at hu; rcases hu with rfl | rfl | rfl | rfl | rfl | rfl <;> rfl) (by unfold maxLen; omega) (by omega) (by rw [World.size_alloc]; omega) ?_; intro v' w6 hown6 hgr6 hat6; obtain ⟨av6,vc6,hv6,-⟩ := own_open hown6; subst hv6; have HC1 : Hid (ABox w6 w.heap.size 0 0 (.slice none 0 0) (.slice none 0 0) (.slice none 0 0) (.slice none 0 0)) := (HB15.out.alloc _).grownO hgr6 (fun e => by have := hown.lt _ e; omega); have HC2 : Hid (ABox w6 (w.heap.size + 1) n.kind n.one.op av nv cv (.slice a0 ks.length c0)) := (HB25.out.alloc _).grownO hgr6 (fun e => by have := hown.lt _ e; omega); clear q11 p11; obtain ⟨hz1,q11,p11⟩ := HC2.out.c5) | (go_simp; go_at_call 66; refine (IH.out _ _ g _ _ (by first | omega | (rw [IntKind.wrap_i64]; omega)) raA (by omega)).mono ?_; rintro e w5 ⟨A,u1,u2,u3,u4,rfl,h1,h2,h3,h4,hAt,hAs,hrd,hgr5'⟩; have hgr5 : wr.grownBy w5 (some g) := ⟨hgr5'.os,hgr5'.tape,hgr5'.output,hgr5'.size,hgr5'.block⟩; have H1 : Hid (DevsIn (fun b => wr.drew.heap.size ≤ b) w5 u1 A.net.one.args) := h1; have H2 : Hid (NetsIn (fun b => wr.drew.heap.size ≤ b) w5 u2 A.net.kids) := h2; have H3 : Hid (ElemsIn (fun b => wr.drew.heap.size ≤ b) w5 u3 A.coils) := h3; have H4 : Hid (ArmsIn (fun b => wr.drew.heap.size ≤ b) w5 u4 A.kids) := h4; obtain ⟨e1,f1,rfl,-⟩ := h1; obtain ⟨e2,f2,rfl,-⟩ := h2; obtain ⟨e3,f3,rfl,-⟩ := h3; obtain ⟨e4,f4,rfl,-⟩ := h4; have hown5 := own_grown hown hgr5 (by omega); have HB15 : Hid (ABox w5 w.heap.size 0 0 (.slice none 0 0) (.slice none 0 0) (.slice none 0 0) (.slice none 0 0)) := HB1.out.grownO hgr5 (by intro e; simp only [Option.some.injEq] at e; omega); have HB25 : Hid (ABox w5 (w.heap.size + 1) n.kind n.one.op av nv cv (.slice a0 ks.length c0)) := HB2.out.grownO hgr5 (by intro e; simp only [Option.some.injEq] at e; omega); clear q11 p11; obtain ⟨hz1,q11,p11⟩ := HB25.out.c5))
          all_goals have hKK := HKK.out
          all_goals go_wp2
          all_goals
           have hk5 : KeepsIn (Off (w.heap.size + 1) (.slice a0 ks.length c0)) wr (w5.alloc (.cells #[.int .i64 A.net.kind,.int .i64 A.net.one.op,.slice e1 A.net.one.args.length f1,.slice e2 A.net.kids.length f2,.slice e3 A.coils.length f3,.slice e4 A.kids.length f4] 36)) := (KeepsIn.of_grown hgr5 (fun b hb e => by have := hb.1; simp only [Option.some.injEq] at e; omega)).trans (KeepsIn.of_below (below_alloc _ _))
           have hoff : ∀ b,b < w5.heap.size → wr.drew.heap.size ≤ b → Off (w.heap.size + 1) (.slice a0 ks.length c0) b := fun b _ hb => by
            have e : wr.drew.heap.size = wr.heap.size := rfl
            have hzr := HB2.out.1
            exact ⟨by omega,fun e2 => by have h1 := (hown.lt _ e2).2; omega⟩
           have hr6 := arms_append (HRW.out.imp fun _ _ _ h => h.keep hk5) (ArmC.keep (w := w5) (n := A) ⟨_,_,_,_,rfl,H1.out.mono hoff,H2.out.mono hoff,H3.out.mono hoff,H4.out.mono hoff⟩ (KeepsIn.of_below (below_alloc _ _))) rfl hgr6 hat6
           have el : (ks ++ [A]).length = ks.length + 1 := by simp
           refine ⟨⟨j - 1,ks.length + 1,by omega,by go_num,n,_,_,_,.slice av6 (ks.length + 1) vc6,cs,ks ++ [A],_,HC1.out.set (by omega),HC2.out.set5,(devs_off (HAV.out.keep hk5) hgr6 hat6).keep (KeepsIn.set (by simp [Off]) _),(nets_off (HNV.out.keep hk5) hgr6 hat6).keep (KeepsIn.set (by simp [Off]) _),(elems_off (HCV.out.keep hk5) hgr6 hat6).keep (KeepsIn.set (by simp [Off]) _),?_,hr6.imp (fun _ _ _ h => h.keep (KeepsIn.set (by simp [Off]) _)),htn,hszn,HTE.out,hcl,?_,el,?_,?_⟩,by simp [intOf]; omega⟩
           ·rw [el]; exact ownsRow_setCell_below hown6 (Nat.lt_succ_self _) _
           ·intro c hc
            rcases List.mem_append.1 hc with hc | hc
            ·exact HTK.out c hc
            ·simp at hc; subst hc; exact ⟨hAt,hAs⟩
           ·exact rd_mono (rd_set (rd_grown (rd_alloc hrd _) hgr6 (fun k hk => by have := hown.lt _ hk; omega)) (by omega) _) (by rw [Nat.succ_mul]; omega)
           ·exact gr_set (Nat.le_of_lt (Nat.lt_succ_self _)) (gr_own (gr_alloc (gr_call hgq hgr5) _) hgr6 (fun k hk => by have := hown.lt _ hk; omega)) _
         ·have hb1' := hb1
          have hb2' := hb2
          go_wp2
          go_meet
          exact Or.inr ⟨ks.length,m',rfl,by omega,by omega,n,_,_,_,_,cs,ks,ys,hb1',hb2',hav,hnv,hcv,hown,hrow,htn,hszn,hte,hcl,htk,rfl,hrd,hgq⟩
      case rest =>
       clear hac hbm
       rcases hcut with hcut | hcut
       ·obtain ⟨n,av,nv,cv,cs,xs,hb1,hb2,hav,hnv,hown,hrow,htn,hszn,hte,hcl,hrd,hgq⟩ := hcut
        obtain ⟨hz0,q0,q1,q2,q3,q4,q5,p0,p1,p2,p3,p4,p5⟩ := hb1
        obtain ⟨hz1,q6,q7,q8,q9,q10,q11,p6,p7,p8,p9,p10,p11⟩ := hb2
        obtain ⟨a1,c1,rfl,-⟩ := id hav
        obtain ⟨a2,c2,rfl,-⟩ := id hnv
        obtain ⟨a3,c3,hcv,-⟩ := own_open hown
        subst hcv
        by_cases hcs : cs.length = 0
        ·obtain rfl : cs = [] := List.length_eq_zero_iff.1 hcs
         have hx0 : xs = [] := by have := hrow.1; simpa using this
         subst hx0
         have HB1 : Hid (ABox wc w.heap.size 0 0 (.slice none 0 0) (.slice none 0 0) (.slice none 0 0) (.slice none 0 0)) := ⟨hz0,q0,q1,q2,q3,q4,q5,p0,p1,p2,p3,p4,p5⟩
         have HB2 : Hid (ABox wc (w.heap.size + 1) n.kind n.one.op (.slice a1 n.one.args.length c1) (.slice a2 n.kids.length c2) (.slice a3 0 c3) (.slice none 0 0)) := ⟨hz1,q6,q7,q8,q9,q10,q11,p6,p7,p8,p9,p10,p11⟩
         have HAV : Hid (DevsIn (Off (w.heap.size + 1) (.slice a3 0 c3)) wc (.slice a1 n.one.args.length c1) n.one.args) := hav
         have HNV : Hid (NetsIn (Off (w.heap.size + 1) (.slice a3 0 c3)) wc (.slice a2 n.kids.length c2) n.kids) := hnv
         have hown0 : wc.ownsRow (w.heap.size + 1 + 1) 30 2 (.slice a3 0 c3) 0 [] := hown
         clear hav hnv hrow hown hte q0 q1 q2 q3 q4 q5 p0 p1 p2 p3 p4 p5 q6 q7 q8 q9 p6 p7 p8 p9
         go_upto_region 14 with fail
         rename_i hKK
         have HKK := hid_of hKK
         clear hKK
         go_region_law (first | (refine step_append_at rfl _ _ 34 rfl (w.heap.size + 1 + 1) 30 ie (.agg #[.int .i64 0,.slice none 0 0]) 2 32 Tryz.underlying34 hie hie0 hie1 hie2 rfl (by decide) _ _ _ rfl (hown5.alloc _) _ _ _ [.int .i64 op,.slice a4 ds.length c4] rfl rfl (by exact cells_new _ _ _ _ (by simp)) (by intro u hu; simp at hu; rcases hu with rfl | rfl <;> rfl) (by unfold maxLen; omega) (by omega) (by rw [World.size_alloc]; omega) ?_; intro v' w6 hown6 hgr6 hat6; obtain ⟨av6,vc6,hv6,-⟩ := own_open hown6; subst hv6; have HC1 : Hid (ABox w6 w.heap.size 0 0 (.slice none 0 0) (.slice none 0 0) (.slice none 0 0) (.slice none 0 0)) := (HB15.out.alloc _).grownO hgr6 (fun e => by have := hown0.lt _ e; omega); have HC2 : Hid (ABox w6 (w.heap.size + 1) n.kind n.one.op (.slice a1 n.one.args.length c1) (.slice a2 n.kids.length c2) (.slice a3 0 c3) (.slice none 0 0)) := (HB25.out.alloc _).grownO hgr6 (fun e => by have := hown0.lt _ e; omega); clear q10 p10; obtain ⟨hz1,q10,p10⟩ := HC2.out.c4) | (go_simp; go_at_call 64; refine (s_l2Coil g _ _ raA (by omega)).mono ?_; rintro e w5 ⟨op,v,ds,rfl,hop,hv,hs,hl,hrd,hgr5'⟩; have hgr5 : wc.grownBy w5 (some g) := ⟨hgr5'.os,hgr5'.tape,hgr5'.output,hgr5'.size,hgr5'.block⟩; obtain ⟨a4,c4,rfl,-⟩ := id hv; have hown5 := own_grown hown0 hgr5 (by omega); have HB15 : Hid (ABox w5 w.heap.size 0 0 (.slice none 0 0) (.slice none 0 0) (.slice none 0 0) (.slice none 0 0)) := HB1.out.grownO hgr5 (by intro e; simp only [Option.some.injEq] at e; omega); have HB25 : Hid (ABox w5 (w.heap.size + 1) n.kind n.one.op (.slice a1 n.one.args.length c1) (.slice a2 n.kids.length c2) (.slice a3 0 c3) (.slice none 0 0)) := HB2.out.grownO hgr5 (by intro e; simp only [Option.some.injEq] at e; omega); clear q10 p10; obtain ⟨hz1,q10,p10⟩ := HB25.out.c4))
         all_goals
          clear q10 p10 q11 p11
          obtain ⟨hz1,q6,q7,q8,q9,q10,q11,p6,p7,p8,p9,p10,p11⟩ := HC2.out
          obtain ⟨hz0,q0,q1,q2,q3,q4,q5,p0,p1,p2,p3,p4,p5⟩ := HC1.out
         all_goals have hKK := HKK.out
         all_goals go_wp2
         all_goals
          have hk5 : KeepsIn (Off (w.heap.size + 1) (.slice a3 0 c3)) wc (w5.alloc (.cells #[.int .i64 op,.slice a4 ds.length c4] 30)) := (KeepsIn.of_grown hgr5 (fun b hb e => by have := hb.1; simp only [Option.some.injEq] at e; omega)).trans (KeepsIn.of_below (below_alloc _ _))
          have hoff : ∀ b,b < w5.heap.size → wc.drew.heap.size - 1 < b → Off (w.heap.size + 1) (.slice a3 0 c3) b := fun b _ hb => by
           have e : wc.drew.heap.size = wc.heap.size := rfl
           have hzr := HB2.out.1
           exact ⟨by omega,fun e2 => by have h1 := (hown0.lt _ e2).2; omega⟩
          have hr6 := elems_append (RowOf.nil 2 (ElemC (Off (w.heap.size + 1) (.slice a3 0 c3)) _)) (ElemC.keep (w := w5) (e := ⟨op,ds⟩) ⟨_,rfl,(devs_of_el hv).mono hoff⟩ (KeepsIn.of_below (below_alloc _ _))) rfl hgr6 hat6
          have hlo : ∀ b,b < w6.heap.size → Off (w.heap.size + 1) (.slice av6 1 vc6) b → w.heap.size < b ∧ b ≠ w.heap.size + 1 := fun b _ hb => by have := hb.1; omega
          have hel : ElemsIn (fun b => w.heap.size < b ∧ b ≠ w.heap.size + 1) w6 (.slice av6 1 vc6) [⟨op,ds⟩] := elemsIn_of_row (es := [⟨op,ds⟩]) hown6 (hr6.imp fun _ _ _ h => h.mono hlo) (fun b hb => by have := (hown6.lt _ hb).1; omega)
          have hav6 := (devs_off (HAV.out.keep hk5) hgr6 hat6).mono hlo
          have hnv6 := (nets_off (HNV.out.keep hk5) hgr6 hat6).mono hlo
          have hlt : ∀ (W : World) (b : Nat),b < W.heap.size → w.heap.size < b ∧ b ≠ w.heap.size + 1 → w.heap.size ≤ b := fun _ b _ hb => by omega
          have hte1 : ∀ c ∈ [(⟨op,ds⟩ : Stil.Elem)],ETame c ∧ c.args.length ≤ 3 := by
           intro c hc
           simp at hc; subst hc; exact ⟨⟨hop,hs,by show ds.length ≤ 100000; omega⟩,hl⟩
          have hsz := arm_sz (ks := []) (N := 0) hszn hte1 (fun _ h => (by cases h))
          refine bodyPost_ret (by simp [results,Tryz.results66,go_sem,q0,q1,q2,q3,q4,q5]; rfl) rfl ?_
          refine ⟨⟨n,[⟨op,ds⟩],[]⟩,_,_,_,_,rfl,DevsIn.mono (hav6.keep kpA) (hlt _),NetsIn.mono (hnv6.keep kpA) (hlt _),ElemsIn.mono (hel.keep kpA) (hlt _),arms_nil _ _,arm_tame (N := 0) htn hte1 (fun _ h => (by cases h)),by simp at hsz; omega,?_,?_⟩
          ·have h6 := rd_grown (rd_alloc hrd (.cells #[.int .i64 op,.slice a4 ds.length c4] 30)) hgr6 (fun k hk => by have := hown0.lt _ hk; omega)
           (repeat (first | with_reducible assumption | with_reducible refine rd_set ?_ (by first | omega | (simp; omega)) _ | with_reducible refine rd_alloc ?_ _ | with_reducible refine rd_drewN ?_ _ | with_reducible refine rd_drew ?_ | exact rd_mono (by with_reducible assumption) (by omega)))
          ·have h6 : w.grownBy w6 (some g) := gr_own (gr_alloc (gr_call hgq hgr5) _) hgr6 (fun k hk => by have := hown0.lt _ hk; omega)
           (repeat (first | with_reducible exact grown_refl _ _ | with_reducible assumption | with_reducible refine gr_set (by first | exact Nat.le_refl _ | (simp; done) | (simp; omega) | omega) ?_ _ | with_reducible refine gr_alloc ?_ _ | with_reducible refine gr_drewN ?_ _ | with_reducible refine gr_drew ?_ | with_reducible refine gr_call ?_ (by with_reducible assumption)))
        ·have hcsb : ((cs.length : Int) == 0) = false := by rw [beq_eq_false_iff_ne]; omega
         go_wp2
         have hel : ElemsIn (fun b => w.heap.size < b) wc (.slice a3 cs.length c3) cs := elemsIn_of_row hown (hrow.imp fun _ _ _ h => h.mono fun b _ hb => by have := hb.1; omega) (fun b hb => by have := (hown.lt _ hb).1; omega)
         have hlo : ∀ b,b < wc.heap.size → Off (w.heap.size + 1) (.slice a3 cs.length c3) b → w.heap.size < b := fun b _ hb => by have := hb.1; omega
         have hsz := arm_sz (ks := []) (N := 0) hszn hte (fun _ h => (by cases h))
         refine bodyPost_ret (by simp [results,Tryz.results66,go_sem,q0,q1,q2,q3,q4,q5]; rfl) rfl ?_
         exact ⟨⟨n,cs,[]⟩,_,_,_,_,rfl,DevsIn.mono ((hav.mono hlo).keep kpA) lt_le,NetsIn.mono ((hnv.mono hlo).keep kpA) lt_le,ElemsIn.mono (hel.keep kpA) lt_le,arms_nil _ _,arm_tame (N := 0) htn hte (fun _ h => (by cases h)),by simp at hsz; omega,rlA,glA⟩
       ·obtain ⟨k,m',rfl,hk1,hk3,n,av,nv,cv,kv,cs,ks,ys,hb1,hb2,hav,hnv,hcv,hown,hrow,htn,hszn,hte,hcl,htk,hkl,hrd,hgq⟩ := hcut
        obtain ⟨hz0,q0,q1,q2,q3,q4,q5,p0,p1,p2,p3,p4,p5⟩ := hb1
        obtain ⟨hz1,q6,q7,q8,q9,q10,q11,p6,p7,p8,p9,p10,p11⟩ := hb2
        subst hkl
        have hle : ks.length * armC m' ≤ 3 * armC m' := Nat.mul_le_mul_right _ hk3
        have hle2 : ks.length * armN m' ≤ 3 * armN m' := Nat.mul_le_mul_right _ hk3
        have ec : armC (m' + 1) = 3 * armC m' + 1000 := rfl
        have en : armN (m' + 1) = 3 * armN m' + 200 := rfl
        have hks : ((ks.length : Int) == 0) = false := by rw [beq_eq_false_iff_ne]; omega
        obtain ⟨a1,c1,rfl,-⟩ := id hav
        obtain ⟨a2,c2,rfl,-⟩ := id hnv
        obtain ⟨a3,c3,rfl,-⟩ := id hcv
        obtain ⟨a0,c0,hkv,-⟩ := own_open hown
        subst hkv
        cases hcsb : ((cs.length : Int) == 0)
        all_goals go_wp2
        all_goals
         have har : ArmsIn (fun b => w.heap.size < b) wc (.slice a0 ks.length c0) ks := armsIn_of_row hown (hrow.imp fun _ _ _ h => h.mono fun b _ hb => by have := hb.1; omega) (fun b hb => by have := (hown.lt _ hb).1; omega)
         have hlo : ∀ b,b < wc.heap.size → Off (w.heap.size + 1) (.slice a0 ks.length c0) b → w.heap.size < b := fun b _ hb => by have := hb.1; omega
         have hsz := arm_sz hszn hte htk
         refine bodyPost_ret (by simp [results,Tryz.results66,go_sem,q0,q1,q2,q3,q4,q5]; rfl) rfl ?_
         exact ⟨⟨n,cs,ks⟩,_,_,_,_,rfl,DevsIn.mono ((hav.mono hlo).keep kpA) lt_le,NetsIn.mono ((hnv.mono hlo).keep kpA) lt_le,ElemsIn.mono ((hcv.mono hlo).keep kpA) lt_le,ArmsIn.mono (har.keep kpA) lt_le,arm_tame htn hte htk,by omega,rlA,glA⟩
theorem s_l3Arm : ∀ (m : Nat) (d : Int) (root : Bool) (g P : Nat) (w : World),m ≤ 100 → d = m → RdAt w g P → P + armC m ≤ 100000000 → Calls Tryz.prog 66 #[.pointer (some ⟨g,0,none⟩),.int .i64 d,.bool root] w fun e w' => ArmOut e w w' g (P + armC m) (armN m)
 | 0,d,root,g,P,w,hm,hd,hr,hP => s_l3ArmS 0 (fun m' h => absurd h (by omega)) d root g P w hd hm hr hP
 | m + 1,d,root,g,P,w,hm,hd,hr,hP => s_l3ArmS (m + 1) (fun m' h d' root' g' P' w' hd' hr' hP' => by
   have e : m' = m := by omega
   subst e
   exact s_l3Arm m' d' root' g' P' w' (by omega) hd' hr' hP') d root g P w hd hm hr hP
end Go.Proofs.YtenoanhonjdpjaaGreatDoor
