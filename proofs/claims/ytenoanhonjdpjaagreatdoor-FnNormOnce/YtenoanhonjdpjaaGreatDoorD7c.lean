/- D6,D7: texts put together. -/
import Derived.Test.YtenoanhonjdpjaaGreatDoorGD
import Derived.Deep.DeepCutAuto
/- Contracts of the specification's draws: contacts. -/
namespace Go.Proofs.YtenoanhonjdpjaaGreatDoor
open Go.RowKit Go.Sort Go.BigFrame
/-- A slice of operands in memory behind the reader. -/
def ElArgs (w : World) (g : Nat) (v : Value) (ds : List Stil.Dev) : Prop := ∃ a cap,v = .slice a ds.length cap ∧ (ds.length ≤ cap ∧ (a = none → cap = 0)) ∧ ∀ i (h : i < ds.length),∃ b o,a = some ⟨b,o,none⟩ ∧ g < b ∧ b < w.heap.size ∧ DevAt w b (o + i * 3) ds[i]
theorem ElArgs.grown {w w' : World} {g lo : Nat} {v : Value} {ds : List Stil.Dev} (h : ElArgs w lo v ds) (hg : w.grownBy w' (some g)) (hlo : g ≤ lo) : ElArgs w' lo v ds := by
 obtain ⟨a,cap,rfl,hc,hx⟩ := h
 refine ⟨a,cap,rfl,hc,fun i hi => ?_⟩
 obtain ⟨b,o,h1,h2,h3,h4,h5,h6⟩ := hx i hi
 refine ⟨b,o,h1,h2,Nat.lt_of_lt_of_le h3 hg.size,?_,?_,?_⟩
 ·rw [grown_cell hg h3 (by omega)]; exact h4
 ·rw [grown_cell hg h3 (by omega)]; exact h5
 ·rw [grown_cell hg h3 (by omega)]; exact h6
theorem ElArgs.mono {w : World} {lo hi : Nat} {v : Value} {ds : List Stil.Dev} (h : ElArgs w hi v ds) (hl : lo ≤ hi) : ElArgs w lo v ds := by
 obtain ⟨a,cap,rfl,hc,hx⟩ := h
 refine ⟨a,cap,rfl,hc,fun i hi => ?_⟩
 obtain ⟨b,o,h1,h2,h3⟩ := hx i hi
 exact ⟨b,o,h1,by omega,h3⟩
/-- What a draw of a contact or coil leaves. -/
def ElOut (e : Ending) (w w' : World) (g Q k : Nat) : Prop := ∃ (op : Int) (v : Value) (ds : List Stil.Dev),e = .returned (.agg #[.int .i64 op,v]) ∧ (-1000000 ≤ op ∧ op ≤ 1000000) ∧ ElArgs w' (w.heap.size - 1) v ds ∧ (∀ d ∈ ds,Small d) ∧ ds.length ≤ k ∧ RdAt w' g Q ∧ w.grownBy w' (some g)
theorem all1 {a : Stil.Dev} (ha : Small a) : ∀ d ∈ [a],Small d := by intro d hd; simp at hd; subst hd; exact ha
theorem all2 {a b : Stil.Dev} (ha : Small a) (hb : Small b) : ∀ d ∈ [a,b],Small d := by intro d hd; simp at hd; rcases hd with rfl | rfl; exact ha; exact hb
theorem all3 {a b c : Stil.Dev} (ha : Small a) (hb : Small b) (hc : Small c) : ∀ d ∈ [a,b,c],Small d := by intro d hd; simp at hd; rcases hd with rfl | rfl | rfl; exact ha; exact hb; exact hc
theorem el_lit {X : World} {g b : Nat} (ds : List Stil.Dev) (cs : Array Value) (hb : b = X.heap.size) (hgb : g < b) (hcs : cs.toList = devsCells ds) (hl : ds.length ≤ 100) : ElArgs (X.alloc (.cells cs 42)) g (.slice (some ⟨b,0,none⟩) ds.length ds.length) ds := by
 subst hb
 have hsz : cs.size = ds.length * 3 := by
  have := congrArg List.length hcs
  rw [devsCells_length] at this
  simpa using this
 have h := World.ownsRow_lit (base := X.heap.size) (e := 42) (size := 3) X cs ds.length (Nat.le_refl _) (by unfold maxLen; omega) hsz
 rw [hcs] at h
 obtain ⟨a,cap,hv,hx⟩ := DevsAt.of_owns h
 simp only [Value.slice.injEq] at hv
 obtain ⟨rfl,_,rfl⟩ := hv
 refine ⟨_,_,rfl,⟨Nat.le_refl _,fun h => by cases h⟩,fun i hi => ?_⟩
 obtain ⟨b,o,h1,h2,h3⟩ := hx i hi
 have hb' : b = X.heap.size := by simp only [Option.some.injEq,Addr.mk.injEq] at h1; exact h1.1.symm
 exact ⟨b,o,h1,by omega,h2,h3⟩
/-- A variable of an operand. -/
def DevBox (w : World) (b : Nat) (d : Stil.Dev) : Prop := b < w.heap.size ∧ w.cell? ⟨b,0,none⟩ = some (.int .i64 d.kind) ∧ w.cell? ⟨b,1,none⟩ = some (.int .i64 d.n) ∧ w.cell? ⟨b,2,none⟩ = some (.int .i64 d.p) ∧ w.frozen? ⟨b,0,none⟩ = false ∧ w.frozen? ⟨b,1,none⟩ = false ∧ w.frozen? ⟨b,2,none⟩ = false
theorem dbA {W : World} {b : Nat} {d : Stil.Dev} (h : DevBox W b d := by refine ⟨ltA,?_,?_,?_,?_,?_,?_⟩ <;> first | ((repeat (first | with_reducible assumption | with_reducible refine cell_drew.trans ?_ | with_reducible refine (cell_set_other (by omega)).trans ?_ | with_reducible refine (cell_set_off (by omega)).trans ?_ | with_reducible refine (cell_alloc_old ltA).trans ?_ | with_reducible apply cell_set_at | (simp [go_sem]; done))); done) | (repeat (first | with_reducible assumption | with_reducible refine frozen_drew.trans ?_ | with_reducible refine frozen_set.trans ?_ | with_reducible refine (frozen_alloc_old ltA).trans ?_ | (simp [go_sem]; done)))) : DevBox W b d := h
/-- A variable of a contact or coil. -/
def ElBox (w : World) (b : Nat) (op : Int) (v : Value) : Prop := b < w.heap.size ∧ w.cell? ⟨b,0,none⟩ = some (.int .i64 op) ∧ w.cell? ⟨b,1,none⟩ = some v ∧ w.frozen? ⟨b,0,none⟩ = false ∧ w.frozen? ⟨b,1,none⟩ = false
theorem ebA {W : World} {b : Nat} {op : Int} {v : Value} (h : ElBox W b op v := by refine ⟨ltA,?_,?_,?_,?_⟩ <;> first | ((repeat (first | with_reducible assumption | with_reducible refine cell_drew.trans ?_ | with_reducible refine (cell_set_other (by omega)).trans ?_ | with_reducible refine (cell_set_off (by omega)).trans ?_ | with_reducible refine (cell_alloc_old ltA).trans ?_ | with_reducible apply cell_set_at | (simp [go_sem]; done))); done) | (repeat (first | with_reducible assumption | with_reducible refine frozen_drew.trans ?_ | with_reducible refine frozen_set.trans ?_ | with_reducible refine (frozen_alloc_old ltA).trans ?_ | (simp [go_sem]; done)))) : ElBox W b op v := h
theorem ElBox.grown {w w' : World} {g b : Nat} {op : Int} {v : Value} (h : ElBox w b op v) (hg : w.grownBy w' (some g)) (hne : b ≠ g) : ElBox w' b op v := by
 obtain ⟨h0,h1,h2,h3,h4⟩ := h
 refine ⟨Nat.lt_of_lt_of_le h0 hg.size,?_,?_,?_,?_⟩
 ·rw [grown_cell hg h0 hne]; exact h1
 ·rw [grown_cell hg h0 hne]; exact h2
 ·rw [grown_frozen hg h0 hne]; exact h3
 ·rw [grown_frozen hg h0 hne]; exact h4
theorem ElArgs.setAt {w : World} {g r o b0 o0 n cap : Nat} {u : Value} {ds : List Stil.Dev} (hne : r ≠ b0) (h : ElArgs w g (.slice (some ⟨b0,o0,none⟩) n cap) ds) : ElArgs (w.setCell ⟨r,o,none⟩ u) g (.slice (some ⟨b0,o0,none⟩) n cap) ds := by
 obtain ⟨a,c,hv,hc,hx⟩ := h
 simp only [Value.slice.injEq] at hv
 obtain ⟨rfl,rfl,rfl⟩ := hv
 refine ⟨_,_,rfl,hc,fun i hi => ?_⟩
 obtain ⟨b,q,h1,h2,h3,h4,h5,h6⟩ := hx i hi
 have hb : b = b0 := by simp only [Option.some.injEq,Addr.mk.injEq] at h1; exact h1.1.symm
 subst hb
 refine ⟨b,q,h1,h2,by simpa using h3,?_,?_,?_⟩
 ·rw [cell_set_other (Ne.symm hne)]; exact h4
 ·rw [cell_set_other (Ne.symm hne)]; exact h5
 ·rw [cell_set_other (Ne.symm hne)]; exact h6
theorem el_lit2 {X we : World} {g lo b : Nat} (ds : List Stil.Dev) (cs : Array Value) (hgr : (X.alloc (.cells cs 42)).grownBy we (some g)) (hlo : g ≤ lo) (hb : b = X.heap.size) (hgb : lo < b) (hcs : cs.toList = devsCells ds) (hl : ds.length ≤ 100) : ElArgs we lo (.slice (some ⟨b,0,none⟩) ds.length ds.length) ds :=
 (el_lit ds cs hb hgb hcs hl).grown hgr hlo
theorem el_take {w : World} {g n cap : Nat} {a : Option Addr} {ds : List Stil.Dev} (k : Nat) (h : ElArgs w g (.slice a n cap) ds) (hk : k ≤ ds.length) : ElArgs w g (.slice a k cap) (ds.take k) := by
 obtain ⟨a',c,hv,hc,hx⟩ := h
 simp only [Value.slice.injEq] at hv
 obtain ⟨rfl,rfl,rfl⟩ := hv
 have hl : (ds.take k).length = k := by simp; omega
 refine ⟨_,_,by rw [hl],⟨by omega,hc.2⟩,fun i hi => ?_⟩
 obtain ⟨b,q,h1,h2,h3,h4⟩ := hx i (by omega)
 refine ⟨b,q,h1,h2,h3,?_⟩
 rw [List.getElem_take]
 exact h4
end Go.Proofs.YtenoanhonjdpjaaGreatDoor
/- Contracts of the specification's draws: l2Contact. -/
namespace Go.Proofs.YtenoanhonjdpjaaGreatDoor
open Go.RowKit Go.Sort Go.BigFrame
set_option maxHeartbeats 2000000 in
set_option maxRecDepth 100000 in
theorem s_l2Contact (g P : Nat) (w : World) (hr : RdAt w g P) (hP : P ≤ 1000000000) :
  Calls Tryz.prog 67 #[.pointer (some ⟨g,0,none⟩)] w fun e w' => ElOut e w w' g (P + 20) 3 := by
 have hg := rd_lt hr
 go_enter Tryz.func67,Tryz.ntmps67
 go_upto_if 39 with (first | (go_at_call_of 31 (Value.int IntKind.i64 8); refine (s_pick g _ _ _ raA (by omega) (by omega) (by omega)).mono ?_; rintro e w0 ⟨x,rfl,hx0,hx1,hrd,hgr⟩; have hz0 : w.heap.size < w0.heap.size := Nat.lt_of_lt_of_le ltA hgr.size; obtain ⟨q0,p0,q1,p1⟩ : w0.cell? ⟨w.heap.size,0,none⟩ = some (.int .i64 0) ∧ w0.frozen? ⟨w.heap.size,0,none⟩ = false ∧ w0.cell? ⟨w.heap.size,1,none⟩ = some (.slice none 0 0) ∧ w0.frozen? ⟨w.heap.size,1,none⟩ = false := ⟨gcA hgr,gfA hgr,gcA hgr,gfA hgr⟩) | (go_at_call 104; refine (s_l2Bit g _ _ raA (by omega)).mono ?_; rintro e w1 ⟨d,rfl,hd,hrd,hgr⟩; have hz0 : w.heap.size < w1.heap.size := Nat.lt_of_lt_of_le ltA hgr.size; obtain ⟨q0,p0,q1,p1⟩ : w1.cell? ⟨w.heap.size,0,none⟩ = some (.int .i64 0) ∧ w1.frozen? ⟨w.heap.size,0,none⟩ = false ∧ w1.cell? ⟨w.heap.size,1,none⟩ = some (.slice none 0 0) ∧ w1.frozen? ⟨w.heap.size,1,none⟩ = false := ⟨gcA hgr,gfA hgr,gcA hgr,gfA hgr⟩) | (go_at_call 78; refine (s_l1Arg g _ _ _ raA (by omega) (by omega) (by omega)).mono ?_; rintro e w2 ⟨f,rfl,hf,hrd,hgr⟩; have hz0 : w.heap.size < w2.heap.size := Nat.lt_of_lt_of_le ltA hgr.size; obtain ⟨q0,p0,q1,p1⟩ : w2.cell? ⟨w.heap.size,0,none⟩ = some (.int .i64 0) ∧ w2.frozen? ⟨w.heap.size,0,none⟩ = false ∧ w2.cell? ⟨w.heap.size,1,none⟩ = some (.slice none 0 0) ∧ w2.frozen? ⟨w.heap.size,1,none⟩ = false := ⟨gcA hgr,gfA hgr,gcA hgr,gfA hgr⟩) | (have _ := hda; (go_at_call 101; refine (s_l2Whole g _ _ raA (by omega)).mono ?_; rintro e wb ⟨f,rfl,hfb,hrd,hgr⟩; have hz0 : w.heap.size < wb.heap.size := Nat.lt_of_lt_of_le ltA hgr.size; have hz1 : wa.heap.size < wb.heap.size := Nat.lt_of_lt_of_le ltA hgr.size; obtain ⟨q0,p0,q1,p1,q2,p2,q3,p3,q4,p4⟩ : wb.cell? ⟨w.heap.size,0,none⟩ = some (.int .i64 0) ∧ wb.frozen? ⟨w.heap.size,0,none⟩ = false ∧ wb.cell? ⟨w.heap.size,1,none⟩ = some (.slice none 0 0) ∧ wb.frozen? ⟨w.heap.size,1,none⟩ = false ∧ wb.cell? ⟨wa.heap.size,0,none⟩ = some (.int .i64 d.kind) ∧ wb.frozen? ⟨wa.heap.size,0,none⟩ = false ∧ wb.cell? ⟨wa.heap.size,1,none⟩ = some (.int .i64 d.n) ∧ wb.frozen? ⟨wa.heap.size,1,none⟩ = false ∧ wb.cell? ⟨wa.heap.size,2,none⟩ = some (.int .i64 d.p) ∧ wb.frozen? ⟨wa.heap.size,2,none⟩ = false := ⟨gcA hgr,gfA hgr,gcA hgr,gfA hgr,gcA hgr,gfA hgr,gcA hgr,gfA hgr,gcA hgr,gfA hgr⟩)) | (go_at_call 101; refine (s_l2Whole g _ _ raA (by omega)).mono ?_; rintro e wa ⟨d,rfl,hda,hrd,hgr⟩; have hz0 : w.heap.size < wa.heap.size := Nat.lt_of_lt_of_le ltA hgr.size; obtain ⟨q0,p0,q1,p1⟩ : wa.cell? ⟨w.heap.size,0,none⟩ = some (.int .i64 0) ∧ wa.frozen? ⟨w.heap.size,0,none⟩ = false ∧ wa.cell? ⟨w.heap.size,1,none⟩ = some (.slice none 0 0) ∧ wa.frozen? ⟨w.heap.size,1,none⟩ = false := ⟨gcA hgr,gfA hgr,gcA hgr,gfA hgr⟩) | (have _ := hfb; (go_at_call_of 31 (Value.int IntKind.i64 2); refine (s_pick g _ _ _ raA (by omega) (by omega) (by omega)).mono ?_; rintro e wq ⟨x,rfl,hx0,hx1,hrd,hgr⟩; have hz0 : w.heap.size < wq.heap.size := Nat.lt_of_lt_of_le ltA hgr.size; have hz1 : wa.heap.size < wq.heap.size := Nat.lt_of_lt_of_le ltA hgr.size; have hz2 : wb.heap.size < wq.heap.size := Nat.lt_of_lt_of_le ltA hgr.size; obtain ⟨q0,p0,q1,p1,q2,p2,q3,p3,q4,p4,q5,p5,q6,p6,q7,p7⟩ : wq.cell? ⟨w.heap.size,0,none⟩ = some (.int .i64 0) ∧ wq.frozen? ⟨w.heap.size,0,none⟩ = false ∧ wq.cell? ⟨w.heap.size,1,none⟩ = some (.slice none 0 0) ∧ wq.frozen? ⟨w.heap.size,1,none⟩ = false ∧ wq.cell? ⟨wa.heap.size,0,none⟩ = some (.int .i64 d.kind) ∧ wq.frozen? ⟨wa.heap.size,0,none⟩ = false ∧ wq.cell? ⟨wa.heap.size,1,none⟩ = some (.int .i64 d.n) ∧ wq.frozen? ⟨wa.heap.size,1,none⟩ = false ∧ wq.cell? ⟨wa.heap.size,2,none⟩ = some (.int .i64 d.p) ∧ wq.frozen? ⟨wa.heap.size,2,none⟩ = false ∧ wq.cell? ⟨wb.heap.size,0,none⟩ = some (.int .i64 f.kind) ∧ wq.frozen? ⟨wb.heap.size,0,none⟩ = false ∧ wq.cell? ⟨wb.heap.size,1,none⟩ = some (.int .i64 f.n) ∧ wq.frozen? ⟨wb.heap.size,1,none⟩ = false ∧ wq.cell? ⟨wb.heap.size,2,none⟩ = some (.int .i64 f.p) ∧ wq.frozen? ⟨wb.heap.size,2,none⟩ = false := ⟨gcA hgr,gfA hgr,gcA hgr,gfA hgr,gcA hgr,gfA hgr,gcA hgr,gfA hgr,gcA hgr,gfA hgr,gcA hgr,gfA hgr,gcA hgr,gfA hgr,gcA hgr,gfA hgr⟩)) | (go_at_call_of 31 (Value.int IntKind.i64 2); refine (s_pick g _ _ _ raA (by omega) (by omega) (by omega)).mono ?_; rintro e w3 ⟨x,rfl,hx0,hx1,hrd,hgr⟩; have hz0 : w.heap.size < w3.heap.size := Nat.lt_of_lt_of_le ltA hgr.size; obtain ⟨q0,p0,q1,p1⟩ : w3.cell? ⟨w.heap.size,0,none⟩ = some (.int .i64 0) ∧ w3.frozen? ⟨w.heap.size,0,none⟩ = false ∧ w3.cell? ⟨w.heap.size,1,none⟩ = some (.slice none 0 0) ∧ w3.frozen? ⟨w.heap.size,1,none⟩ = false := ⟨gcA hgr,gfA hgr,gcA hgr,gfA hgr⟩))
 rotate_right 1
 ·go_cut [] (fun wc => ∃ d2 f2 : Stil.Dev,Small d2 ∧ Small f2 ∧ RdAt wc g (P + 18) ∧ w.grownBy wc (some g) ∧ ElBox wc w.heap.size 0 (.slice none 0 0) ∧ DevBox wc wa.heap.size d2 ∧ DevBox wc wb.heap.size f2)
  case first =>
   go_wp2_with (first | (have _ := hd2; (go_at_call 102; refine (s_l2Real g _ _ raA (by omega)).mono ?_; rintro e ws ⟨f2,rfl,hf2,hrd,hgr⟩; have hz0 : w.heap.size < ws.heap.size := Nat.lt_of_lt_of_le ltA hgr.size; have hz1 : wa.heap.size < ws.heap.size := Nat.lt_of_lt_of_le ltA hgr.size; have hz2 : wb.heap.size < ws.heap.size := Nat.lt_of_lt_of_le ltA hgr.size; obtain ⟨q0,p0,q1,p1,q2,p2,q3,p3,q4,p4,q5,p5,q6,p6,q7,p7⟩ : ws.cell? ⟨w.heap.size,0,none⟩ = some (.int .i64 0) ∧ ws.frozen? ⟨w.heap.size,0,none⟩ = false ∧ ws.cell? ⟨w.heap.size,1,none⟩ = some (.slice none 0 0) ∧ ws.frozen? ⟨w.heap.size,1,none⟩ = false ∧ ws.cell? ⟨wa.heap.size,0,none⟩ = some (.int .i64 d2.kind) ∧ ws.frozen? ⟨wa.heap.size,0,none⟩ = false ∧ ws.cell? ⟨wa.heap.size,1,none⟩ = some (.int .i64 d2.n) ∧ ws.frozen? ⟨wa.heap.size,1,none⟩ = false ∧ ws.cell? ⟨wa.heap.size,2,none⟩ = some (.int .i64 d2.p) ∧ ws.frozen? ⟨wa.heap.size,2,none⟩ = false ∧ ws.cell? ⟨wb.heap.size,0,none⟩ = some (.int .i64 f.kind) ∧ ws.frozen? ⟨wb.heap.size,0,none⟩ = false ∧ ws.cell? ⟨wb.heap.size,1,none⟩ = some (.int .i64 f.n) ∧ ws.frozen? ⟨wb.heap.size,1,none⟩ = false ∧ ws.cell? ⟨wb.heap.size,2,none⟩ = some (.int .i64 f.p) ∧ ws.frozen? ⟨wb.heap.size,2,none⟩ = false := ⟨gcA hgr,gfA hgr,gcA hgr,gfA hgr,gcA hgr,gfA hgr,gcA hgr,gfA hgr,gcA hgr,gfA hgr,gcA hgr,gfA hgr,gcA hgr,gfA hgr,gcA hgr,gfA hgr⟩)) | (go_at_call 102; refine (s_l2Real g _ _ raA (by omega)).mono ?_; rintro e wr ⟨d2,rfl,hd2,hrd,hgr⟩; have hz0 : w.heap.size < wr.heap.size := Nat.lt_of_lt_of_le ltA hgr.size; have hz1 : wa.heap.size < wr.heap.size := Nat.lt_of_lt_of_le ltA hgr.size; have hz2 : wb.heap.size < wr.heap.size := Nat.lt_of_lt_of_le ltA hgr.size; obtain ⟨q0,p0,q1,p1,q2,p2,q3,p3,q4,p4,q5,p5,q6,p6,q7,p7⟩ : wr.cell? ⟨w.heap.size,0,none⟩ = some (.int .i64 0) ∧ wr.frozen? ⟨w.heap.size,0,none⟩ = false ∧ wr.cell? ⟨w.heap.size,1,none⟩ = some (.slice none 0 0) ∧ wr.frozen? ⟨w.heap.size,1,none⟩ = false ∧ wr.cell? ⟨wa.heap.size,0,none⟩ = some (.int .i64 d.kind) ∧ wr.frozen? ⟨wa.heap.size,0,none⟩ = false ∧ wr.cell? ⟨wa.heap.size,1,none⟩ = some (.int .i64 d.n) ∧ wr.frozen? ⟨wa.heap.size,1,none⟩ = false ∧ wr.cell? ⟨wa.heap.size,2,none⟩ = some (.int .i64 d.p) ∧ wr.frozen? ⟨wa.heap.size,2,none⟩ = false ∧ wr.cell? ⟨wb.heap.size,0,none⟩ = some (.int .i64 f.kind) ∧ wr.frozen? ⟨wb.heap.size,0,none⟩ = false ∧ wr.cell? ⟨wb.heap.size,1,none⟩ = some (.int .i64 f.n) ∧ wr.frozen? ⟨wb.heap.size,1,none⟩ = false ∧ wr.cell? ⟨wb.heap.size,2,none⟩ = some (.int .i64 f.p) ∧ wr.frozen? ⟨wb.heap.size,2,none⟩ = false := ⟨gcA hgr,gfA hgr,gcA hgr,gfA hgr,gcA hgr,gfA hgr,gcA hgr,gfA hgr,gcA hgr,gfA hgr,gcA hgr,gfA hgr,gcA hgr,gfA hgr,gcA hgr,gfA hgr⟩))
   ·go_meet
    exact ⟨d2,f2,hd2,hf2,rlA,glA,ebA,dbA,dbA⟩
   ·go_meet
    exact ⟨d,f,hda,hfb,rlA,glA,ebA,dbA,dbA⟩
  case rest =>
   clear q0 q1 q2 q3 q4 q5 q6 q7 p0 p1 p2 p3 p4 p5 p6 p7 hrd
   obtain ⟨d2,f2,hd2,hf2,hrd,hgc,⟨hz0,q0,q1,p0,p1⟩,⟨hz1,q2,q3,q4,p2,p3,p4⟩,⟨hz2,q5,q6,q7,p5,p6,p7⟩⟩ := hcut
   go_upto_if 46 with (go_at_call_of 31 (Value.int IntKind.i64 4); refine (s_pick g _ _ _ raA (by omega) (by omega) (by omega)).mono ?_; rintro e wd ⟨x,rfl,hx0,hx1,hrd,hgr⟩; have hz0 : w.heap.size < wd.heap.size := Nat.lt_of_lt_of_le ltA hgr.size; have hz1 : wa.heap.size < wd.heap.size := Nat.lt_of_lt_of_le ltA hgr.size; have hz2 : wb.heap.size < wd.heap.size := Nat.lt_of_lt_of_le ltA hgr.size; obtain ⟨q0,p0,q1,p1,q2,p2,q3,p3,q4,p4,q5,p5,q6,p6,q7,p7⟩ : wd.cell? ⟨w.heap.size,0,none⟩ = some (.int .i64 0) ∧ wd.frozen? ⟨w.heap.size,0,none⟩ = false ∧ wd.cell? ⟨w.heap.size,1,none⟩ = some (.slice none 0 0) ∧ wd.frozen? ⟨w.heap.size,1,none⟩ = false ∧ wd.cell? ⟨wa.heap.size,0,none⟩ = some (.int .i64 d2.kind) ∧ wd.frozen? ⟨wa.heap.size,0,none⟩ = false ∧ wd.cell? ⟨wa.heap.size,1,none⟩ = some (.int .i64 d2.n) ∧ wd.frozen? ⟨wa.heap.size,1,none⟩ = false ∧ wd.cell? ⟨wa.heap.size,2,none⟩ = some (.int .i64 d2.p) ∧ wd.frozen? ⟨wa.heap.size,2,none⟩ = false ∧ wd.cell? ⟨wb.heap.size,0,none⟩ = some (.int .i64 f2.kind) ∧ wd.frozen? ⟨wb.heap.size,0,none⟩ = false ∧ wd.cell? ⟨wb.heap.size,1,none⟩ = some (.int .i64 f2.n) ∧ wd.frozen? ⟨wb.heap.size,1,none⟩ = false ∧ wd.cell? ⟨wb.heap.size,2,none⟩ = some (.int .i64 f2.p) ∧ wd.frozen? ⟨wb.heap.size,2,none⟩ = false := ⟨gcA hgr,gfA hgr,gcA hgr,gfA hgr,gcA hgr,gfA hgr,gcA hgr,gfA hgr,gcA hgr,gfA hgr,gcA hgr,gfA hgr,gcA hgr,gfA hgr,gcA hgr,gfA hgr⟩)
   go_cut [] (fun wx => ∃ f3 : Stil.Dev,Small f3 ∧ RdAt wx g (P + 19) ∧ w.grownBy wx (some g) ∧ ElBox wx w.heap.size 0 (.slice none 0 0) ∧ DevBox wx wa.heap.size d2 ∧ DevBox wx wb.heap.size f3)
   case first =>
    go_wp2
    ·go_meet
     exact ⟨d2,hd2,rlA,glA,ebA,dbA,dbA⟩
    ·go_meet
     exact ⟨f2,hf2,rlA,glA,ebA,dbA,dbA⟩
   case rest =>
    clear q0 q1 q2 q3 q4 q5 q6 q7 p0 p1 p2 p3 p4 p5 p6 p7 hrd
    obtain ⟨f3,hf3,hrd,hgx,⟨hz0,q0,q1,p0,p1⟩,⟨hz1,q2,q3,q4,p2,p3,p4⟩,⟨hz2,q5,q6,q7,p5,p6,p7⟩⟩ := hcut
    go_wp2
    go_region_with (go_at_call_of 31 (Value.int IntKind.i64 6); refine (s_pick g _ _ _ raA (by omega) (by omega) (by omega)).mono ?_; rintro e we ⟨x,rfl,hx0,hx1,hrd,hgr⟩; have hz0 : w.heap.size < we.heap.size := Nat.lt_of_lt_of_le ltA hgr.size; have hz1 : wa.heap.size < we.heap.size := Nat.lt_of_lt_of_le ltA hgr.size; have hz2 : wb.heap.size < we.heap.size := Nat.lt_of_lt_of_le ltA hgr.size; obtain ⟨q0,p0,q1,p1,q2,p2,q3,p3,q4,p4,q5,p5,q6,p6,q7,p7⟩ : we.cell? ⟨w.heap.size,0,none⟩ = some (.int .i64 0) ∧ we.frozen? ⟨w.heap.size,0,none⟩ = false ∧ we.cell? ⟨w.heap.size,1,none⟩ = some (.slice none 0 0) ∧ we.frozen? ⟨w.heap.size,1,none⟩ = false ∧ we.cell? ⟨wa.heap.size,0,none⟩ = some (.int .i64 d2.kind) ∧ we.frozen? ⟨wa.heap.size,0,none⟩ = false ∧ we.cell? ⟨wa.heap.size,1,none⟩ = some (.int .i64 d2.n) ∧ we.frozen? ⟨wa.heap.size,1,none⟩ = false ∧ we.cell? ⟨wa.heap.size,2,none⟩ = some (.int .i64 d2.p) ∧ we.frozen? ⟨wa.heap.size,2,none⟩ = false ∧ we.cell? ⟨wb.heap.size,0,none⟩ = some (.int .i64 f3.kind) ∧ we.frozen? ⟨wb.heap.size,0,none⟩ = false ∧ we.cell? ⟨wb.heap.size,1,none⟩ = some (.int .i64 f3.n) ∧ we.frozen? ⟨wb.heap.size,1,none⟩ = false ∧ we.cell? ⟨wb.heap.size,2,none⟩ = some (.int .i64 f3.p) ∧ we.frozen? ⟨wb.heap.size,2,none⟩ = false := ⟨gcA hgr,gfA hgr,gcA hgr,gfA hgr,gcA hgr,gfA hgr,gcA hgr,gfA hgr,gcA hgr,gfA hgr,gcA hgr,gfA hgr,gcA hgr,gfA hgr,gcA hgr,gfA hgr⟩)
    all_goals go_wp2
    all_goals
     refine bodyPost_ret (by simp [results,Tryz.results67,go_sem,q0,q1,hz0]; rfl) rfl ?_
     refine ⟨_,_,[d2,f3],rfl,by rw [IntKind.wrap_i64]; omega,?_,all2 hd2 hf3,by simp,rlA,glA⟩
     first | exact el_lit [d2,f3] _ (by simp) (by omega) rfl (by simp) | exact ElArgs.setAt (by omega) (ElArgs.setAt (by omega) (el_lit2 (X := wc) [d2,f3] _ ⟨hgr.os,hgr.tape,hgr.output,hgr.size,hgr.block⟩ (by omega) (by simp) (by omega) rfl (by simp)))
 ·refine bodyPost_ret (by simp [results,Tryz.results67,go_sem,q0,q1,hz0]; rfl) rfl ?_
  exact ⟨_,_,[d],rfl,by omega,el_lit [d] _ (by simp) (by omega) rfl (by simp),all1 hd,by simp,rlA,glA⟩
 ·refine bodyPost_ret (by simp [results,Tryz.results67,go_sem,q0,q1,hz0]; rfl) rfl ?_
  exact ⟨_,_,[d],rfl,by omega,el_lit [d] _ (by simp) (by omega) rfl (by simp),all1 hd,by simp,rlA,glA⟩
 ·refine bodyPost_ret (by simp [results,Tryz.results67,go_sem,q0,q1,hz0]; rfl) rfl ?_
  exact ⟨_,_,[d],rfl,by omega,el_lit [d] _ (by simp) (by omega) rfl (by simp),all1 hd,by simp,rlA,glA⟩
 ·refine bodyPost_ret (by simp [results,Tryz.results67,go_sem,q0,q1,hz0]; rfl) rfl ?_
  exact ⟨_,_,[d],rfl,by omega,el_lit [d] _ (by simp) (by omega) rfl (by simp),all1 hd,by simp,rlA,glA⟩
 ·refine bodyPost_ret (by simp [results,Tryz.results67,go_sem,q0,q1,hz0]; rfl) rfl ?_
  exact ⟨_,_,[d],rfl,by omega,el_lit [d] _ (by simp) (by omega) rfl (by simp),all1 hd,by simp,rlA,glA⟩
 ·refine bodyPost_ret (by simp [results,Tryz.results67,go_sem,q0,q1,hz0]; rfl) rfl ?_
  exact ⟨_,_,[d,f],rfl,by omega,el_lit [d,f] _ (by simp) (by omega) rfl (by simp),all2 hd hf,by simp,rlA,glA⟩
end Go.Proofs.YtenoanhonjdpjaaGreatDoor
