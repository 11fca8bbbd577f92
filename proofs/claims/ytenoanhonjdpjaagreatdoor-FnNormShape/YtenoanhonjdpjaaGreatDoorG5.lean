/- D13,D14: texts put together. -/
import Derived.Test.YtenoanhonjdpjaaGreatDoorG4
import Derived.Test.YtenoanhonjdpjaaGreatDoorGl
import Derived.Test.YtenoanhonjdpjaaGreatDoorLW20
set_option maxHeartbeats 4000000
set_option maxRecDepth 100000
/- Contracts of the specification's draws: nets. -/
namespace Go.Proofs.YtenoanhonjdpjaaGreatDoor
open Go.RowKit Go.Sort Go.BigFrame
theorem info_net : (Tryz.prog.info? 33).map (fun i => (i.zero,i.size,i.bytes)) = some (some (.agg #[.int .i64 0,.int .i64 0,.slice none 0 0,.slice none 0 0]),4,64) := by kernel_rfl
/-- What a draw of a net leaves: a net in new memory. -/
def NetOut (e : Ending) (w w' : World) (g Q N : Nat) : Prop := ∃ (n : Stil.Net) (av kv : Value),e = .returned (.agg #[.int .i64 n.kind,.int .i64 n.one.op,av,kv]) ∧ DevsIn (fun b => w.heap.size <= b) w' av n.one.args ∧ NetsIn (fun b => w.heap.size <= b) w' kv n.kids ∧ NTame n ∧ Stil.netSz n <= N ∧ RdAt w' g Q ∧ w.grownBy w' (some g)
def netC : Nat -> Nat
 | 0 => 50
 | m + 1 => 3 * netC m + 50
def netN : Nat -> Nat
 | 0 => 10
 | m + 1 => 3 * netN m + 10
theorem netC_pos (m : Nat) : 50 <= netC m := by cases m <;> simp [netC]
theorem netN_pos (m : Nat) : 10 <= netN m := by cases m <;> simp [netN]
theorem tame_contact {k op : Int} {ds : List Stil.Dev} (hk : -1000000 <= k ∧ k <= 1000000) (ho : -1000000 <= op ∧ op <= 1000000) (hs : ∀ d ∈ ds,Small d) (hl : ds.length <= 40) : NTame ⟨k,⟨op,ds⟩,[]⟩ := (NTame_eq _ _ _).2 ⟨hk,⟨ho,hs,Nat.le_trans hl (by decide)⟩,fun _ h => by cases h⟩
theorem tame_kids {k : Int} {ns : List Stil.Net} (hk : -1000000 <= k ∧ k <= 1000000) (h : ∀ n ∈ ns,NTame n) : NTame ⟨k,⟨0,[]⟩,ns⟩ := (NTame_eq _ _ _).2 ⟨hk,⟨⟨by decide,by decide⟩,fun _ h => (by cases h),by simp⟩,h⟩
theorem lt_mono {r s : Nat} {w : World} (h : s <= r) : ∀ b,b < w.heap.size -> r < b -> s < b := fun _ _ h' => Nat.lt_of_le_of_lt h h'
theorem lt_le {r : Nat} {w : World} : ∀ b,b < w.heap.size -> r < b -> r <= b := fun _ _ h => Nat.le_of_lt h
theorem nets_lit {P : Nat -> Prop} {W : World} {cs : Array Value} {ns : List Stil.Net} {b : Nat} (hb : b = W.heap.size) (h : RowOf 4 (NetC P W) cs.toList ns) (hp : P b) (hl : ns.length <= 1000) : NetsIn P (W.alloc (.cells cs 33)) (.slice (some ⟨b,0,none⟩) ns.length ns.length) ns := by
 subst hb
 have ho := World.ownsRow_lit (base := W.heap.size) (e := 33) (size := 4) W cs ns.length (by omega) (by unfold maxLen; omega) (by have := h.1; simpa using this)
 refine netsIn_of_row ho (h.imp fun cs a _ hc => hc.keep (KeepsIn.of_below (below_alloc _ _))) (fun b hb => ?_)
 have : W.heap.size = b := by simpa [Value.ownBlock] using hb
 exact this ▸ hp
def NBox (w : World) (b : Nat) (k op : Int) (av kv : Value) : Prop := b < w.heap.size ∧ w.cell? ⟨b,0,none⟩ = some (.int .i64 k) ∧ w.cell? ⟨b,1,none⟩ = some (.int .i64 op) ∧ w.cell? ⟨b,2,none⟩ = some av ∧ w.cell? ⟨b,3,none⟩ = some kv ∧ w.frozen? ⟨b,0,none⟩ = false ∧ w.frozen? ⟨b,1,none⟩ = false ∧ w.frozen? ⟨b,2,none⟩ = false ∧ w.frozen? ⟨b,3,none⟩ = false
theorem nbA {W : World} {b : Nat} {k op : Int} {av kv : Value} (h : NBox W b k op av kv := by refine ⟨ltA,?_,?_,?_,?_,?_,?_,?_,?_⟩ <;> first | ((repeat (first | with_reducible assumption | with_reducible refine cell_drew.trans ?_ | with_reducible refine (cell_set_other (by omega)).trans ?_ | with_reducible refine (cell_set_off (by omega)).trans ?_ | with_reducible refine (cell_alloc_old ltA).trans ?_ | with_reducible apply cell_set_at | (simp [go_sem]; done))); done) | (repeat (first | with_reducible assumption | with_reducible refine frozen_drew.trans ?_ | with_reducible refine frozen_set.trans ?_ | with_reducible refine (frozen_alloc_old ltA).trans ?_ | (simp [go_sem]; done)))) : NBox W b k op av kv := h
theorem NBox.grownO {w w' : World} {b : Nat} {k op : Int} {av kv : Value} {r : Option Nat} (h : NBox w b k op av kv) (hg : w.grownBy w' r) (hr : r ≠ some b) : NBox w' b k op av kv := by
 obtain ⟨h0,h1⟩ := h
 have e : w'.heap[b]? = w.heap[b]? := hg.block b h0 (fun x => hr x.symm)
 have hc : ∀ o,w'.cell? ⟨b,o,none⟩ = w.cell? ⟨b,o,none⟩ := fun o => by unfold World.cell?; rw [e]
 have hf : ∀ o,w'.frozen? ⟨b,o,none⟩ = w.frozen? ⟨b,o,none⟩ := fun o => by unfold World.frozen?; rw [e]
 refine ⟨Nat.lt_of_lt_of_le h0 hg.size,?_⟩
 rw [hc,hc,hc,hc,hf,hf,hf,hf]
 exact h1
theorem s_l3Net0 (g P : Nat) (w : World) (hr : RdAt w g P) (hP : P <= 100000000) :
  Calls Tryz.prog 56 #[.pointer (some ⟨g,0,none⟩),.int .i64 0] w fun e w' => NetOut e w w' g (P + 50) 10 := by
 have hg := rd_lt hr
 go_enter Tryz.func56,Tryz.ntmps56
 go_wp2_with (first | (go_at_call_of 31 (Value.int IntKind.i64 7); refine (s_pick g _ _ _ raA (by omega) (by omega) (by omega)).mono ?_; rintro e wa ⟨x,rfl,hx0,hx1,hrd,hga⟩; have hza : w.heap.size < wa.heap.size := Nat.lt_of_lt_of_le ltA hga.size; obtain ⟨q0,p0,q1,p1,q2,p2,q3,p3⟩ : wa.cell? ⟨w.heap.size,0,none⟩ = some (.int .i64 0) ∧ wa.frozen? ⟨w.heap.size,0,none⟩ = false ∧ wa.cell? ⟨w.heap.size,1,none⟩ = some (.int .i64 0) ∧ wa.frozen? ⟨w.heap.size,1,none⟩ = false ∧ wa.cell? ⟨w.heap.size,2,none⟩ = some (.slice none 0 0) ∧ wa.frozen? ⟨w.heap.size,2,none⟩ = false ∧ wa.cell? ⟨w.heap.size,3,none⟩ = some (.slice none 0 0) ∧ wa.frozen? ⟨w.heap.size,3,none⟩ = false := ⟨gcA hga,gfA hga,gcA hga,gfA hga,gcA hga,gfA hga,gcA hga,gfA hga⟩) | (go_at_call 67; refine (s_l2Contact g _ _ raA (by omega)).mono ?_; rintro e wb ⟨op,v,ds,rfl,hop,hv,hs,hl,hrd,hgb⟩; have hv1 := hv; obtain ⟨aa,cc,rfl,_,_⟩ := hv1; have hz0 : w.heap.size < wb.heap.size := Nat.lt_of_lt_of_le ltA hgb.size; obtain ⟨q0,p0,q1,p1,q2,p2,q3,p3⟩ : wb.cell? ⟨w.heap.size,0,none⟩ = some (.int .i64 0) ∧ wb.frozen? ⟨w.heap.size,0,none⟩ = false ∧ wb.cell? ⟨w.heap.size,1,none⟩ = some (.int .i64 0) ∧ wb.frozen? ⟨w.heap.size,1,none⟩ = false ∧ wb.cell? ⟨w.heap.size,2,none⟩ = some (.slice none 0 0) ∧ wb.frozen? ⟨w.heap.size,2,none⟩ = false ∧ wb.cell? ⟨w.heap.size,3,none⟩ = some (.slice none 0 0) ∧ wb.frozen? ⟨w.heap.size,3,none⟩ = false := ⟨gcA hgb,gfA hgb,gcA hgb,gfA hgb,gcA hgb,gfA hgb,gcA hgb,gfA hgb⟩))
 refine bodyPost_ret (by simp [results,Tryz.results56,go_sem,q0,q1,q2,q3]; rfl) rfl ?_
 exact ⟨⟨1,⟨op,ds⟩,[]⟩,_,_,rfl,DevsIn.mono (((devs_of_el hv).mono (lt_mono (s := w.heap.size) (by omega))).keep kpA) lt_le,nets_nil _ _,tame_contact (by decide) hop hs (by omega),by rw [Stil.netSz_eq]; simp; omega,rlA,glA⟩
theorem s_l3NetS (m : Nat) (ih : ∀ (d : Int) (g P : Nat) (w : World),d = m -> RdAt w g P -> P + netC m <= 100000000 -> Calls Tryz.prog 56 #[.pointer (some ⟨g,0,none⟩),.int .i64 d] w fun e w' => NetOut e w w' g (P + netC m) (netN m))
  (d : Int) (g P : Nat) (w : World) (hd : d = m + 1) (hm : m <= 100) (hr : RdAt w g P) (hP : P + netC (m + 1) <= 100000000) :
  Calls Tryz.prog 56 #[.pointer (some ⟨g,0,none⟩),.int .i64 d] w fun e w' => NetOut e w w' g (P + netC (m + 1)) (netN (m + 1)) := by
 have hg := rd_lt hr
 have hcp := netC_pos m
 have hnp := netN_pos m
 have e1 : netC (m + 1) = 3 * netC m + 50 := rfl
 have e2 : netN (m + 1) = 3 * netN m + 10 := rfl
 rw [e1] at hP
 rw [e1,e2]
 clear e1 e2
 obtain ⟨c,hc⟩ : ∃ c,c = netC m := ⟨_,rfl⟩
 obtain ⟨N,hN⟩ : ∃ N,N = netN m := ⟨_,rfl⟩
 rw [← hc] at ih hcp hP
 rw [← hN] at ih hnp
 rw [← hc,← hN]
 have IH : Hid (∀ (d : Int) (g P : Nat) (w : World),d = m -> RdAt w g P -> P + c <= 100000000 -> Calls Tryz.prog 56 #[.pointer (some ⟨g,0,none⟩),.int .i64 d] w fun e w' => NetOut e w w' g (P + c) N) := ih
 clear ih hc hN
 have hd0 : decide (d <= 0) = false := by rw [decide_eq_false_iff_not]; omega
 obtain ⟨i0,hi,hy0,hy1,hy2⟩ := info_parts info_net
 go_enter Tryz.func56,Tryz.ntmps56
 go_upto_if 37 with (first | (go_at_call_of 31 (Value.int IntKind.i64 7); refine (s_pick g _ _ _ raA (by omega) (by omega) (by omega)).mono ?_; rintro e wa ⟨k,rfl,hk0,hk1,hrd,hga⟩; have hza : w.heap.size < wa.heap.size := Nat.lt_of_lt_of_le ltA hga.size; obtain ⟨q0,p0,q1,p1,q2,p2,q3,p3⟩ : wa.cell? ⟨w.heap.size,0,none⟩ = some (.int .i64 0) ∧ wa.frozen? ⟨w.heap.size,0,none⟩ = false ∧ wa.cell? ⟨w.heap.size,1,none⟩ = some (.int .i64 0) ∧ wa.frozen? ⟨w.heap.size,1,none⟩ = false ∧ wa.cell? ⟨w.heap.size,2,none⟩ = some (.slice none 0 0) ∧ wa.frozen? ⟨w.heap.size,2,none⟩ = false ∧ wa.cell? ⟨w.heap.size,3,none⟩ = some (.slice none 0 0) ∧ wa.frozen? ⟨w.heap.size,3,none⟩ = false := ⟨gcA hga,gfA hga,gcA hga,gfA hga,gcA hga,gfA hga,gcA hga,gfA hga⟩) | (go_at_call 67; refine (s_l2Contact g _ _ raA (by omega)).mono ?_; rintro e wb ⟨op,v,ds,rfl,hop,hv,hs,hl,hrd,hgb⟩; have hv1 := hv; obtain ⟨aa,cc,rfl,_,_⟩ := hv1; have hz0 : w.heap.size < wb.heap.size := Nat.lt_of_lt_of_le ltA hgb.size; obtain ⟨q0,p0,q1,p1,q2,p2,q3,p3⟩ : wb.cell? ⟨w.heap.size,0,none⟩ = some (.int .i64 0) ∧ wb.frozen? ⟨w.heap.size,0,none⟩ = false ∧ wb.cell? ⟨w.heap.size,1,none⟩ = some (.int .i64 0) ∧ wb.frozen? ⟨w.heap.size,1,none⟩ = false ∧ wb.cell? ⟨w.heap.size,2,none⟩ = some (.slice none 0 0) ∧ wb.frozen? ⟨w.heap.size,2,none⟩ = false ∧ wb.cell? ⟨w.heap.size,3,none⟩ = some (.slice none 0 0) ∧ wb.frozen? ⟨w.heap.size,3,none⟩ = false := ⟨gcA hgb,gfA hgb,gcA hgb,gfA hgb,gcA hgb,gfA hgb,gcA hgb,gfA hgb⟩) | (go_at_call 56; refine (IH.out _ g _ _ (by omega) raA (by omega)).mono ?_; rintro e wd ⟨n1,av,kv,rfl,hav,hkv,ht1,hs1,hrd,hgd⟩; have hz0 : w.heap.size < wd.heap.size := Nat.lt_of_lt_of_le ltA hgd.size; obtain ⟨q0,p0,q1,p1,q2,p2,q3,p3⟩ : wd.cell? ⟨w.heap.size,0,none⟩ = some (.int .i64 0) ∧ wd.frozen? ⟨w.heap.size,0,none⟩ = false ∧ wd.cell? ⟨w.heap.size,1,none⟩ = some (.int .i64 0) ∧ wd.frozen? ⟨w.heap.size,1,none⟩ = false ∧ wd.cell? ⟨w.heap.size,2,none⟩ = some (.slice none 0 0) ∧ wd.frozen? ⟨w.heap.size,2,none⟩ = false ∧ wd.cell? ⟨w.heap.size,3,none⟩ = some (.slice none 0 0) ∧ wd.frozen? ⟨w.heap.size,3,none⟩ = false := ⟨gcA hgd,gfA hgd,gcA hgd,gfA hgd,gcA hgd,gfA hgd,gcA hgd,gfA hgd⟩) | (go_at_call_of 31 (Value.int IntKind.i64 2); refine (s_pick g _ _ _ raA (by omega) (by omega) (by omega)).mono ?_; rintro e wc ⟨y,rfl,hy0',hy1',hrd,hgc⟩; have hz0 : w.heap.size < wc.heap.size := Nat.lt_of_lt_of_le ltA hgc.size; have hz1 : wa.heap.size < wc.heap.size := Nat.lt_of_lt_of_le ltA hgc.size; obtain ⟨q0,p0,q1,p1,q2,p2,q3,p3,q4,p4,q5,p5,q6,p6,q7,p7⟩ : wc.cell? ⟨w.heap.size,0,none⟩ = some (.int .i64 0) ∧ wc.frozen? ⟨w.heap.size,0,none⟩ = false ∧ wc.cell? ⟨w.heap.size,1,none⟩ = some (.int .i64 0) ∧ wc.frozen? ⟨w.heap.size,1,none⟩ = false ∧ wc.cell? ⟨w.heap.size,2,none⟩ = some (.slice none 0 0) ∧ wc.frozen? ⟨w.heap.size,2,none⟩ = false ∧ wc.cell? ⟨w.heap.size,3,none⟩ = some (.slice none 0 0) ∧ wc.frozen? ⟨w.heap.size,3,none⟩ = false ∧ wc.cell? ⟨wa.heap.size,0,none⟩ = some (.int .i64 (2 + k % 2)) ∧ wc.frozen? ⟨wa.heap.size,0,none⟩ = false ∧ wc.cell? ⟨wa.heap.size,1,none⟩ = some (.int .i64 0) ∧ wc.frozen? ⟨wa.heap.size,1,none⟩ = false ∧ wc.cell? ⟨wa.heap.size,2,none⟩ = some (.slice none 0 0) ∧ wc.frozen? ⟨wa.heap.size,2,none⟩ = false ∧ wc.cell? ⟨wa.heap.size,3,none⟩ = some (.slice none 0 0) ∧ wc.frozen? ⟨wa.heap.size,3,none⟩ = false := ⟨gcA hgc,gfA hgc,gcA hgc,gfA hgc,gcA hgc,gfA hgc,gcA hgc,gfA hgc,gcA hgc,gfA hgc,gcA hgc,gfA hgc,gcA hgc,gfA hgc,gcA hgc,gfA hgc⟩) | (go_at_call_of 31 (Value.int IntKind.i64 8); refine (s_pick g _ _ _ raA (by omega) (by omega) (by omega)).mono ?_; rintro e we ⟨z,rfl,hz0',hz1',hrd,hge⟩; have hz0 : w.heap.size < we.heap.size := Nat.lt_of_lt_of_le ltA hge.size; have hz1 : wa.heap.size < we.heap.size := Nat.lt_of_lt_of_le ltA hge.size; obtain ⟨q0,p0,q1,p1,q2,p2,q3,p3,q4,p4,q5,p5,q6,p6,q7,p7⟩ : we.cell? ⟨w.heap.size,0,none⟩ = some (.int .i64 0) ∧ we.frozen? ⟨w.heap.size,0,none⟩ = false ∧ we.cell? ⟨w.heap.size,1,none⟩ = some (.int .i64 0) ∧ we.frozen? ⟨w.heap.size,1,none⟩ = false ∧ we.cell? ⟨w.heap.size,2,none⟩ = some (.slice none 0 0) ∧ we.frozen? ⟨w.heap.size,2,none⟩ = false ∧ we.cell? ⟨w.heap.size,3,none⟩ = some (.slice none 0 0) ∧ we.frozen? ⟨w.heap.size,3,none⟩ = false ∧ we.cell? ⟨wa.heap.size,0,none⟩ = some (.int .i64 (2 + k % 2)) ∧ we.frozen? ⟨wa.heap.size,0,none⟩ = false ∧ we.cell? ⟨wa.heap.size,1,none⟩ = some (.int .i64 0) ∧ we.frozen? ⟨wa.heap.size,1,none⟩ = false ∧ we.cell? ⟨wa.heap.size,2,none⟩ = some (.slice none 0 0) ∧ we.frozen? ⟨wa.heap.size,2,none⟩ = false ∧ we.cell? ⟨wa.heap.size,3,none⟩ = some (.slice none 0 0) ∧ we.frozen? ⟨wa.heap.size,3,none⟩ = false := ⟨gcA hge,gfA hge,gcA hge,gfA hge,gcA hge,gfA hge,gcA hge,gfA hge,gcA hge,gfA hge,gcA hge,gfA hge,gcA hge,gfA hge,gcA hge,gfA hge⟩))
 ·refine bodyPost_ret (by simp [results,Tryz.results56,go_sem,q0,q1,q2,q3]; rfl) rfl ?_
  exact ⟨⟨1,⟨op,ds⟩,[]⟩,_,_,rfl,DevsIn.mono (((devs_of_el hv).mono (lt_mono (s := w.heap.size) (by omega))).keep kpA) lt_le,nets_nil _ _,tame_contact (by decide) hop hs (by omega),by rw [Stil.netSz_eq]; simp; omega,rlA,glA⟩
 ·refine bodyPost_ret (by simp [results,Tryz.results56,go_sem,q0,q1,q2,q3,hz0]; rfl) rfl ?_
  have hrow : RowOf 4 (NetC (fun b => w.heap.size < b) wd) [.int .i64 n1.kind,.int .i64 n1.one.op,av,kv] [n1] := RowOf.one rfl ⟨av,kv,rfl,hav.mono (fun _ _ h => Nat.lt_of_lt_of_le hza h),hkv.mono (fun _ _ h => Nat.lt_of_lt_of_le hza h)⟩
  refine ⟨⟨4,⟨0,[]⟩,[n1]⟩,_,_,rfl,devs_nil _ _,NetsIn.mono (nets_lit (P := fun b => w.heap.size < b) (cs := #[.int .i64 n1.kind,.int .i64 n1.one.op,av,kv]) (ns := [n1]) (by simp) (hrow.imp fun _ _ _ h => h.keep kpA) (by omega) (by simp)) lt_le,tame_kids (by decide) (fun n hn => by simp at hn; subst hn; exact ht1),by rw [Stil.netSz_eq]; simp; omega,rlA,glA⟩
 ·go_cut [7] (fun sm wq => ∃ mm : Nat,sm = .int .i64 mm ∧ 1 <= mm ∧ mm <= 3 ∧ RdAt wq g (P + 3) ∧ w.grownBy wq (some g) ∧ NBox wq w.heap.size 0 0 (.slice none 0 0) (.slice none 0 0) ∧ NBox wq wa.heap.size (2 + k % 2) 0 (.slice none 0 0) (.slice none 0 0))
  case first =>
   go_wp2
   ·go_meet
    exact ⟨1,rfl,by omega,by omega,rlA,glA,nbA,nbA⟩
   ·go_meet
    obtain ⟨yn,rfl⟩ := Int.eq_ofNat_of_zero_le hy0'
    exact ⟨2 + yn,by go_num,by omega,by omega,rlA,glA,nbA,nbA⟩
  case rest =>
   clear q0 q1 q2 q3 q4 q5 q6 q7 p0 p1 p2 p3 p4 p5 p6 p7 hrd
   obtain ⟨mm,rfl,hm1,hm3,hrd,hgq,hb1,hb2⟩ := hcut
   go_wp2
   go_loopw [8] (fun i wr => ∃ (j : Nat) (ns : List Stil.Net) (v : Value) (xs : List Value),j <= mm ∧ i = .int .i64 j ∧ ns.length = j ∧ NBox wr w.heap.size 0 0 (.slice none 0 0) (.slice none 0 0) ∧ NBox wr wa.heap.size (2 + k % 2) 0 (.slice none 0 0) v ∧ wr.ownsRow (wa.heap.size + 1) 33 4 v j xs ∧ RowOf 4 (NetC (Off wa.heap.size v) wr) xs ns ∧ (∀ n ∈ ns,NTame n) ∧ (ns.map Stil.netSz).sum <= j * N ∧ RdAt wr g (P + 3 + j * c) ∧ w.grownBy wr (some g)) (fun i _ => mm - (intOf i).toNat)
   case atStart => exact ⟨0,[],_,[],by omega,rfl,rfl,hb1,hb2,⟨rfl,Or.inl ⟨rfl,rfl⟩⟩,RowOf.nil _ _,fun _ h => (by cases h),by simp,by simpa using hrd,hgq⟩
   case round =>
    obtain ⟨j,ns,v,xs,hj,rfl,hnl,hb1,hb2,hown,hrow,htm,hsz,hrd,hgq⟩ := hrel
    obtain ⟨hz0,q0,q1,q2,q3,p0,p1,p2,p3⟩ := hb1
    obtain ⟨hz1,q4,q5,q6,q7,p4,p5,p6,p7⟩ := hb2
    by_cases hlt : j < mm
    ·have hle : (j + 1) * c <= 3 * c := Nat.mul_le_mul_right c (by omega)
     rw [Nat.succ_mul] at hle
     obtain ⟨av0,vc0,hv0,_⟩ := own_open hown
     subst hv0
     go_upto_region 13 with fail
     go_region_law (first | (refine step_append_at rfl _ _ 31 rfl (wa.heap.size + 1) 33 i0 (.agg #[.int .i64 0,.int .i64 0,.slice none 0 0,.slice none 0 0]) 4 64 Tryz.underlying31 hi hy0 hy1 hy2 rfl (by decide) _ _ _ rfl (hown5.alloc _) _ _ _ [.int .i64 n1.kind,.int .i64 n1.one.op,.slice a1 n1.one.args.length c1,.slice a2 n1.kids.length c2] rfl rfl (by exact cells_new _ _ _ _ (by simp)) (by intro u hu; simp at hu; rcases hu with rfl | rfl | rfl | rfl <;> rfl) (by unfold maxLen; omega) (by omega) (by rw [World.size_alloc]; omega) ?_; intro v' w6 hown6 hgr6 hat6; obtain ⟨av6,vc6,hv6,_⟩ := own_open hown6; subst hv6; have hB1 : NBox (w5.alloc (.cells #[.int .i64 n1.kind,.int .i64 n1.one.op,.slice a1 n1.one.args.length c1,.slice a2 n1.kids.length c2] 33)) w.heap.size 0 0 (.slice none 0 0) (.slice none 0 0) := nbA; have hB2 : NBox (w5.alloc (.cells #[.int .i64 n1.kind,.int .i64 n1.one.op,.slice a1 n1.one.args.length c1,.slice a2 n1.kids.length c2] 33)) wa.heap.size (2 + k % 2) 0 (.slice none 0 0) (.slice av0 j vc0) := nbA; clear q0 q1 q2 q3 q4 q5 q6 q7 p0 p1 p2 p3 p4 p5 p6 p7; obtain ⟨hz0,q0,q1,q2,q3,p0,p1,p2,p3⟩ := hB1.grownO hgr6 (fun e => by have := hown.lt _ e; omega); obtain ⟨hz1,q4,q5,q6,q7,p4,p5,p6,p7⟩ := hB2.grownO hgr6 (fun e => by have := hown.lt _ e; omega)) | (go_simp; go_at_call 56; refine (IH.out _ g _ _ (by first | omega | (rw [IntKind.wrap_i64]; omega)) raA (by omega)).mono ?_; rintro e w5 ⟨n1,av,kv,rfl,hav,hkv,ht1,hs1,hrd,hgr5'⟩; have hgr5 : wr.grownBy w5 (some g) := ⟨hgr5'.os,hgr5'.tape,hgr5'.output,hgr5'.size,hgr5'.block⟩; have hav1 := hav; have hkv1 := hkv; obtain ⟨a1,c1,rfl,_,_⟩ := hav1; obtain ⟨a2,c2,rfl,_,_⟩ := hkv1; have hown5 := own_grown hown hgr5 (by omega); have hz0 : w.heap.size < w5.heap.size := Nat.lt_of_lt_of_le ltA hgr5.size; have hz1 : wa.heap.size < w5.heap.size := Nat.lt_of_lt_of_le ltA hgr5.size; obtain ⟨q0,p0,q1,p1,q2,p2,q3,p3,q4,p4,q5,p5,q6,p6,q7,p7⟩ : w5.cell? ⟨w.heap.size,0,none⟩ = some (.int .i64 0) ∧ w5.frozen? ⟨w.heap.size,0,none⟩ = false ∧ w5.cell? ⟨w.heap.size,1,none⟩ = some (.int .i64 0) ∧ w5.frozen? ⟨w.heap.size,1,none⟩ = false ∧ w5.cell? ⟨w.heap.size,2,none⟩ = some (.slice none 0 0) ∧ w5.frozen? ⟨w.heap.size,2,none⟩ = false ∧ w5.cell? ⟨w.heap.size,3,none⟩ = some (.slice none 0 0) ∧ w5.frozen? ⟨w.heap.size,3,none⟩ = false ∧ w5.cell? ⟨wa.heap.size,0,none⟩ = some (.int .i64 (2 + k % 2)) ∧ w5.frozen? ⟨wa.heap.size,0,none⟩ = false ∧ w5.cell? ⟨wa.heap.size,1,none⟩ = some (.int .i64 0) ∧ w5.frozen? ⟨wa.heap.size,1,none⟩ = false ∧ w5.cell? ⟨wa.heap.size,2,none⟩ = some (.slice none 0 0) ∧ w5.frozen? ⟨wa.heap.size,2,none⟩ = false ∧ w5.cell? ⟨wa.heap.size,3,none⟩ = some (.slice av0 j vc0) ∧ w5.frozen? ⟨wa.heap.size,3,none⟩ = false := ⟨gcA hgr5,gfA hgr5,gcA hgr5,gfA hgr5,gcA hgr5,gfA hgr5,gcA hgr5,gfA hgr5,gcA hgr5,gfA hgr5,gcA hgr5,gfA hgr5,gcA hgr5,gfA hgr5,gcA hgr5,gfA hgr5⟩))
     all_goals go_wp2
     all_goals
      have hk5 : KeepsIn (Off wa.heap.size (.slice av0 j vc0)) wr (w5.alloc (.cells #[.int .i64 n1.kind,.int .i64 n1.one.op,.slice a1 n1.one.args.length c1,.slice a2 n1.kids.length c2] 33)) := (KeepsIn.of_grown hgr5 (fun b hb e => by have := hb.1; simp only [Option.some.injEq] at e; omega)).trans (KeepsIn.of_below (below_alloc _ _))
      have hoff : ∀ b,b < w5.heap.size -> wr.drew.heap.size <= b -> Off wa.heap.size (.slice av0 j vc0) b := fun b _ hb => ⟨by have : wr.heap.size <= b := hb; omega,fun e => by have h1 := (hown.lt _ e).2; have : wr.heap.size <= b := hb; omega⟩
      have hr6 := nets_append (hrow.imp fun _ _ _ h => h.keep hk5) (NetC.keep (w := w5) ⟨_,_,rfl,hav.mono hoff,hkv.mono hoff⟩ (KeepsIn.of_below (below_alloc _ _))) rfl hgr6 hat6
      refine ⟨⟨j + 1,ns ++ [n1],.slice av6 (j + 1) vc6,_,by omega,by go_num,by simp [hnl],nbA,nbA,ownsRow_setCell_below hown6 (Nat.lt_succ_self _) _,hr6.imp (fun _ _ _ h => h.keep (KeepsIn.set (by simp [Off]) _)),?_,?_,?_,?_⟩,by simp [intOf]; omega⟩
      ·intro n hn
       rcases List.mem_append.1 hn with hn | hn
       ·exact htm n hn
       ·simp at hn; subst hn; exact ht1
      ·have es : ((ns ++ [n1]).map Stil.netSz).sum = (ns.map Stil.netSz).sum + Stil.netSz n1 := by simp
       rw [es,Nat.succ_mul]
       omega
      ·exact rd_mono (rd_set (rd_grown (rd_alloc hrd _) hgr6 (fun k hk => by have := hown.lt _ hk; omega)) (by omega) _) (by rw [Nat.succ_mul]; omega)
      ·exact gr_set (Nat.le_of_lt hza) (gr_own (gr_alloc (gr_call hgq hgr5) _) hgr6 (fun k hk => by have := hown.lt _ hk; omega)) _
    ·obtain ⟨av0,vc0,hv0,_⟩ := own_open hown
     subst hv0
     go_wp2
     have hjm : j = mm := by omega
     have hle : j * c <= 3 * c := Nat.mul_le_mul_right c (by omega)
     have hle2 : j * N <= 3 * N := Nat.mul_le_mul_right N (by omega)
     have hk : NetsIn (fun b => w.heap.size < b) wr (.slice av0 j vc0) ns := by
      subst hnl
      exact netsIn_of_row hown (hrow.imp fun _ _ _ h => h.mono fun b _ hb => by have := hb.1; omega) (fun b hb => by have := (hown.lt _ hb).1; omega)
     refine bodyPost_ret (by simp [results,Tryz.results56,go_sem,q0,q1,q2,q3]; rfl) rfl ?_
     refine ⟨⟨2 + k % 2,⟨0,[]⟩,ns⟩,_,_,rfl,devs_nil _ _,NetsIn.mono (hk.keep kpA) lt_le,tame_kids (by omega) htm,?_,rlA,glA⟩
     rw [Stil.netSz_eq]
     simp
     omega
theorem s_l3Net : ∀ (m : Nat) (d : Int) (g P : Nat) (w : World),m <= 100 -> d = m -> RdAt w g P -> P + netC m <= 100000000 -> Calls Tryz.prog 56 #[.pointer (some ⟨g,0,none⟩),.int .i64 d] w fun e w' => NetOut e w w' g (P + netC m) (netN m)
 | 0,d,g,P,w,_,hd,hr,hP => by
  subst hd
  exact s_l3Net0 g P w hr (by omega)
 | m + 1,d,g,P,w,hm,hd,hr,hP => s_l3NetS m (fun d g P w hd hr hP => s_l3Net m d g P w (by omega) hd hr hP) d g P w (by simpa using hd) (by omega) hr hP
theorem s_l3Stair (n g P : Nat) (w : World) (hn : n <= 300) (hr : RdAt w g P) (hP : P <= 100000000) :
  Calls Tryz.prog 58 #[.pointer (some ⟨g,0,none⟩),.int .i64 n] w fun e w' => NetOut e w w' g (P + 6000) 3000 := by
 have hg := rd_lt hr
 go_enter Tryz.func58,Tryz.ntmps58
 go_wp2_with ((go_at_call 67; refine (s_l2Contact g _ _ raA (by omega)).mono ?_; rintro e wa ⟨op,v,ds,rfl,hop,hv,hs,hl,hrd,hga⟩; have hv1 := hv; obtain ⟨aa,cc,rfl,_,_⟩ := hv1; have hza : w.heap.size < wa.heap.size := Nat.lt_of_lt_of_le ltA hga.size; obtain ⟨q0,p0,q1,p1,q2,p2,q3,p3⟩ : wa.cell? ⟨w.heap.size,0,none⟩ = some (.int .i64 0) ∧ wa.frozen? ⟨w.heap.size,0,none⟩ = false ∧ wa.cell? ⟨w.heap.size,1,none⟩ = some (.int .i64 0) ∧ wa.frozen? ⟨w.heap.size,1,none⟩ = false ∧ wa.cell? ⟨w.heap.size,2,none⟩ = some (.slice none 0 0) ∧ wa.frozen? ⟨w.heap.size,2,none⟩ = false ∧ wa.cell? ⟨w.heap.size,3,none⟩ = some (.slice none 0 0) ∧ wa.frozen? ⟨w.heap.size,3,none⟩ = false := ⟨gcA hga,gfA hga,gcA hga,gfA hga,gcA hga,gfA hga,gcA hga,gfA hga⟩))
 have hv' : DevsIn (fun b => w.heap.size < b) wa (.slice aa ds.length cc) ds := (devs_of_el hv).mono (lt_mono (by simp))
 go_loopw [6] (fun i wr => ∃ (j : Nat) (M : Stil.Net) (av kv : Value),1 <= j ∧ (j <= n ∨ j = 1) ∧ i = .int .i64 j ∧ NBox wr w.heap.size 0 0 (.slice none 0 0) (.slice none 0 0) ∧ NBox wr wa.heap.size M.kind M.one.op av kv ∧ DevsIn (fun b => w.heap.size < b ∧ b ≠ wa.heap.size) wr av M.one.args ∧ NetsIn (fun b => w.heap.size < b ∧ b ≠ wa.heap.size) wr kv M.kids ∧ NTame M ∧ Stil.netSz M <= 10 * j ∧ RdAt wr g (P + 20 * j) ∧ w.grownBy wr (some g)) (fun i _ => n - (intOf i).toNat)
 case atStart =>
  refine ⟨1,⟨1,⟨op,ds⟩,[]⟩,_,_,by omega,by omega,rfl,nbA,nbA,(hv'.mono fun b hb h => ⟨h,by omega⟩).keep kpA,nets_nil _ _,tame_contact (by decide) hop hs (by omega),by rw [Stil.netSz_eq]; simp; omega,rlA,glA⟩
 case round =>
  obtain ⟨j,M,av,kv,hj1,hj2,rfl,hb1,hb2,hav,hkv,htm,hsz,hrd,hgq⟩ := hrel
  obtain ⟨hz0,q0,q1,q2,q3,p0,p1,p2,p3⟩ := hb1
  obtain ⟨hz1,q4,q5,q6,q7,p4,p5,p6,p7⟩ := hb2
  have hj100 : j <= 300 := by omega
  obtain ⟨a1,c1,rfl,_⟩ := id hav
  obtain ⟨a2,c2,rfl,_⟩ := id hkv
  by_cases hlt : j < n
  ·go_upto_region 5 with fail
   go_region_with (go_at_call 67; refine (s_l2Contact g _ _ raA (by omega)).mono ?_; rintro e w5 ⟨op2,v2,ds2,rfl,hop2,hv2,hs2,hl2,hrd,hgr5'⟩; have hgr5 : wr.grownBy w5 (some g) := ⟨hgr5'.os,hgr5'.tape,hgr5'.output,hgr5'.size,hgr5'.block⟩; have hv3 := hv2; obtain ⟨a3,c3,rfl,_,_⟩ := hv3; have hz0 : w.heap.size < w5.heap.size := Nat.lt_of_lt_of_le ltA hgr5.size; have hz1 : wa.heap.size < w5.heap.size := Nat.lt_of_lt_of_le ltA hgr5.size; obtain ⟨q0,p0,q1,p1,q2,p2,q3,p3,q4,p4,q5,p5,q6,p6,q7,p7⟩ : w5.cell? ⟨w.heap.size,0,none⟩ = some (.int .i64 0) ∧ w5.frozen? ⟨w.heap.size,0,none⟩ = false ∧ w5.cell? ⟨w.heap.size,1,none⟩ = some (.int .i64 0) ∧ w5.frozen? ⟨w.heap.size,1,none⟩ = false ∧ w5.cell? ⟨w.heap.size,2,none⟩ = some (.slice none 0 0) ∧ w5.frozen? ⟨w.heap.size,2,none⟩ = false ∧ w5.cell? ⟨w.heap.size,3,none⟩ = some (.slice none 0 0) ∧ w5.frozen? ⟨w.heap.size,3,none⟩ = false ∧ w5.cell? ⟨wa.heap.size,0,none⟩ = some (.int .i64 M.kind) ∧ w5.frozen? ⟨wa.heap.size,0,none⟩ = false ∧ w5.cell? ⟨wa.heap.size,1,none⟩ = some (.int .i64 M.one.op) ∧ w5.frozen? ⟨wa.heap.size,1,none⟩ = false ∧ w5.cell? ⟨wa.heap.size,2,none⟩ = some (.slice a1 M.one.args.length c1) ∧ w5.frozen? ⟨wa.heap.size,2,none⟩ = false ∧ w5.cell? ⟨wa.heap.size,3,none⟩ = some (.slice a2 M.kids.length c2) ∧ w5.frozen? ⟨wa.heap.size,3,none⟩ = false := ⟨gcA hgr5,gfA hgr5,gcA hgr5,gfA hgr5,gcA hgr5,gfA hgr5,gcA hgr5,gfA hgr5,gcA hgr5,gfA hgr5,gcA hgr5,gfA hgr5,gcA hgr5,gfA hgr5,gcA hgr5,gfA hgr5⟩)
   all_goals go_wp2
   all_goals
    have hK : -1000000 <= (2 + (j : Int) % 2) ∧ (2 + (j : Int) % 2) <= 1000000 := by
     omega
    have hk5 : KeepsIn (fun b => w.heap.size < b ∧ b ≠ wa.heap.size) wr w5 := KeepsIn.of_grown hgr5 (fun b hb e => by have := hb.1; simp only [Option.some.injEq] at e; omega)
    have hnew : ∀ b,b < w5.heap.size -> wr.drew.heap.size - 1 < b -> w.heap.size < b ∧ b ≠ wa.heap.size := fun b _ hb => by have e : wr.drew.heap.size = wr.heap.size := rfl; omega
    have hrow : RowOf 4 (NetC (fun b => w.heap.size < b ∧ b ≠ wa.heap.size) w5) [.int .i64 1,.int .i64 op2,.slice a3 ds2.length c3,.slice none 0 0,.int .i64 M.kind,.int .i64 M.one.op,.slice a1 M.one.args.length c1,.slice a2 M.kids.length c2] [⟨1,⟨op2,ds2⟩,[]⟩,M] := (RowOf.one (cs := [.int .i64 1,.int .i64 op2,.slice a3 ds2.length c3,.slice none 0 0]) rfl ⟨_,_,rfl,(devs_of_el hv2).mono hnew,nets_nil _ _⟩).append (RowOf.one (cs := [.int .i64 M.kind,.int .i64 M.one.op,.slice a1 M.one.args.length c1,.slice a2 M.kids.length c2]) rfl ⟨_,_,rfl,hav.keep hk5,hkv.keep hk5⟩)
    refine ⟨⟨j + 1,⟨(2 + (j : Int) % 2),⟨0,[]⟩,[⟨1,⟨op2,ds2⟩,[]⟩,M]⟩,_,_,by omega,by omega,by go_num,nbA,(show NBox _ wa.heap.size (2 + (j : Int) % 2) 0 (.slice none 0 0) (.slice (some ⟨w5.heap.size,0,none⟩) 2 2) from nbA),devs_nil _ _,nets_lit (b := w5.heap.size) (ns := [⟨1,⟨op2,ds2⟩,[]⟩,M]) (by simp) (hrow.imp fun _ _ _ h => h.keep kpA) ⟨by omega,by omega⟩ (by simp),tame_kids hK (fun n hn => ?_),?_,rlA,glA⟩,by simp [intOf]; omega⟩
    ·simp only [List.mem_cons,List.not_mem_nil,or_false] at hn
     rcases hn with rfl | rfl
     ·exact tame_contact (by decide) hop2 hs2 (by omega)
     ·exact htm
    ·rw [Stil.netSz_eq]
     simp [Stil.netSz_eq 1]
     omega
  ·go_wp2
   refine bodyPost_ret (by simp [results,Tryz.results58,go_sem,q0,q1,q2,q3]; rfl) rfl ?_
   have hle : ∀ b,b < wr.heap.size -> w.heap.size < b ∧ b ≠ wa.heap.size -> w.heap.size < b := fun _ _ h => h.1
   exact ⟨M,_,_,rfl,DevsIn.mono ((hav.mono hle).keep kpA) lt_le,NetsIn.mono ((hkv.mono hle).keep kpA) lt_le,htm,by omega,rlA,glA⟩
end Go.Proofs.YtenoanhonjdpjaaGreatDoor
