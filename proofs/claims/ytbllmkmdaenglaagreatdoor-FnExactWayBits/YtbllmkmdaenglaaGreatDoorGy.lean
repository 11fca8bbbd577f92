/- V0, V1, V2: texts put together. -/
import Derived.Test.YtbllmkmdaenglaaGreatDoorGx
import Derived.Test.YtbllmkmdaenglaaGreatDoorT4
import Derived.Test.YtbllmkmdaenglaaGreatDoorGq
import Derived.Test.YtbllmkmdaenglaaGreatDoorGU
import Derived.Shelf.Abstract
/- Nets and arms in memory, with room as far as they are long. -/
namespace Go.Proofs.YtbllmkmdaenglaaGreatDoor
open Go.RowKit Go.Sort Go.BigFrame
def DevsT (w : World) (v : Value) (ds : List Stil.Dev) : Prop := DevsIn (fun _ => True) w v ds
def NetsT (w : World) (v : Value) (ns : List Stil.Net) : Prop := NetsIn (fun _ => True) w v ns
def ElemsT (w : World) (v : Value) (es : List Stil.Elem) : Prop := ElemsIn (fun _ => True) w v es
def ArmsT (w : World) (v : Value) (l : List Stil.Arm) : Prop := ArmsIn (fun _ => True) w v l
def NetT (w : World) (b o : Nat) (n : Stil.Net) : Prop := NetIn (fun _ => True) w b o n
def ArmT (w : World) (b o : Nat) (n : Stil.Arm) : Prop := ArmIn (fun _ => True) w b o n
theorem DevsT.below {w w' : World} {v : Value} {ds : List Stil.Dev} (h : DevsT w v ds) (hb : Below w.heap.size w w') : DevsT w' v ds := DevsIn.keep h (KeepsIn.of_below hb)
theorem NetsT.below {w w' : World} {v : Value} {ds : List Stil.Net} (h : NetsT w v ds) (hb : Below w.heap.size w w') : NetsT w' v ds := NetsIn.keep h (KeepsIn.of_below hb)
theorem ElemsT.below {w w' : World} {v : Value} {ds : List Stil.Elem} (h : ElemsT w v ds) (hb : Below w.heap.size w w') : ElemsT w' v ds := ElemsIn.keep h (KeepsIn.of_below hb)
theorem ArmsT.below {w w' : World} {v : Value} {ds : List Stil.Arm} (h : ArmsT w v ds) (hb : Below w.heap.size w w') : ArmsT w' v ds := ArmsIn.keep h (KeepsIn.of_below hb)
theorem NetT.below {w w' : World} (hb : Below w.heap.size w w') (n : Stil.Net) (b o : Nat) (h : NetT w b o n) (hl : b < w.heap.size) : NetT w' b o n := NetIn.keep (KeepsIn.of_below hb) n b o h trivial hl
theorem ArmT.below {w w' : World} (hb : Below w.heap.size w w') (n : Stil.Arm) (b o : Nat) (h : ArmT w b o n) (hl : b < w.heap.size) : ArmT w' b o n := ArmIn.keep (KeepsIn.of_below hb) n b o h trivial hl
theorem DevsT.at {w : World} {v : Value} {ds : List Stil.Dev} (h : DevsT w v ds) : DevsAt w v ds := DevsIn.at h
theorem NetsT.at {w : World} {v : Value} {ds : List Stil.Net} (h : NetsT w v ds) : NetsAt w v ds := NetsIn.at h
theorem ElemsT.at {w : World} {v : Value} {ds : List Stil.Elem} (h : ElemsT w v ds) : ElemsAt w v ds := ElemsIn.at h
theorem ArmsT.at {w : World} {v : Value} {ds : List Stil.Arm} (h : ArmsT w v ds) : ArmsAt w v ds := ArmsIn.at h
theorem DevsT.shape {w : World} {v : Value} {ds : List Stil.Dev} (h : DevsT w v ds) : ∃ a cap, v = .slice a ds.length cap ∧ ds.length ≤ cap := by
  obtain ⟨a, cap, h1, h2, _⟩ := h
  exact ⟨a, cap, h1, h2.1⟩
theorem ElemsT.shape {w : World} {v : Value} {ds : List Stil.Elem} (h : ElemsT w v ds) : ∃ a cap, v = .slice a ds.length cap ∧ ds.length ≤ cap := by
  obtain ⟨a, cap, h1, h2, _⟩ := h
  exact ⟨a, cap, h1, h2.1⟩
theorem NetsT.shape {w : World} {v : Value} {ns : List Stil.Net} (h : NetsT w v ns) : ∃ a cap, v = .slice a ns.length cap ∧ CapOk a ns.length cap ∧ ∀ i (h : i < ns.length), ∃ b o, a = some ⟨b, o, none⟩ ∧ b < w.heap.size ∧ NetT w b (o + i * 4) ns[i] := by
  obtain ⟨a, cap, h1, h2, h3⟩ := h
  exact ⟨a, cap, h1, h2, fun i hi => by obtain ⟨b, o, e, _, hl, hn⟩ := h3 i hi; exact ⟨b, o, e, hl, hn⟩⟩
theorem ArmsT.shape {w : World} {v : Value} {ns : List Stil.Arm} (h : ArmsT w v ns) : ∃ a cap, v = .slice a ns.length cap ∧ CapOk a ns.length cap ∧ ∀ i (h : i < ns.length), ∃ b o, a = some ⟨b, o, none⟩ ∧ b < w.heap.size ∧ ArmT w b (o + i * 6) ns[i] := by
  obtain ⟨a, cap, h1, h2, h3⟩ := h
  exact ⟨a, cap, h1, h2, fun i hi => by obtain ⟨b, o, e, _, hl, hn⟩ := h3 i hi; exact ⟨b, o, e, hl, hn⟩⟩
theorem NetT.open {w : World} {b o : Nat} {n : Stil.Net} (h : NetT w b o n) : w.cell? ⟨b, o, none⟩ = some (.int .i64 n.kind) ∧ w.cell? ⟨b, o + 1, none⟩ = some (.int .i64 n.one.op) ∧
      ∃ av kv, w.cell? ⟨b, o + 2, none⟩ = some av ∧ w.cell? ⟨b, o + 3, none⟩ = some kv ∧ DevsT w av n.one.args ∧ NetsT w kv n.kids := by
  obtain ⟨h1, h2, ⟨av, h3, h4⟩, ⟨kv, h5, h6⟩⟩ := (NetIn_iff _ _ _ _ _).1 h
  exact ⟨h1, h2, av, kv, h3, h5, h4, h6⟩
theorem ArmT.open {w : World} {b o : Nat} {n : Stil.Arm} (h : ArmT w b o n) : NetT w b o n.net ∧ ∃ cv kv, w.cell? ⟨b, o + 4, none⟩ = some cv ∧ w.cell? ⟨b, o + 5, none⟩ = some kv ∧ ElemsT w cv n.coils ∧ ArmsT w kv n.kids := by
  obtain ⟨h1, ⟨cv, h3, h4⟩, ⟨kv, h5, h6⟩⟩ := (ArmIn_iff _ _ _ _ _).1 h
  exact ⟨h1, cv, kv, h3, h5, h4, h6⟩
theorem capOk_of {w : World} {base s n : Nat} {e : TypeId} {a : Option Addr} {c : Nat} {xs : List Value} (h : w.ownsRow base e s (.slice a n c) n xs) : CapOk a n c := by
  rcases h.2 with ⟨h0, h1⟩ | ⟨g, c', cur, h0, _, _, hnc, _⟩
  · simp only [Value.slice.injEq] at h0
    obtain ⟨rfl, hn, rfl⟩ := h0
    exact ⟨by omega, fun _ => rfl⟩
  · simp only [Value.slice.injEq] at h0
    obtain ⟨rfl, _, rfl⟩ := h0
    exact ⟨hnc, fun h => by cases h⟩
theorem devs_T {w : World} {base : Nat} {av : Value} {ds : List Stil.Dev} (h : w.ownsRow base 82 3 av ds.length (devsCells ds)) : DevsT w av ds := by
  obtain ⟨a, cap, rfl⟩ := slice_of_owns h
  obtain ⟨a', cap', e, hx⟩ := (DevsFrom.of_owns h).at
  simp only [Value.slice.injEq, true_and] at e
  obtain ⟨rfl, rfl⟩ := e
  refine ⟨a, cap, rfl, capOk_of h, fun i hi => ?_⟩
  obtain ⟨b, o, h1, h2, h3⟩ := hx i hi
  exact ⟨b, o, h1, trivial, h2, h3⟩
theorem MOk.T {w : World} {base : Nat} (m : MNet) (h : MOk w base m) : DevsT w m.av m.net.one.args ∧ NetsT w m.kv m.net.kids := by
  revert h
  refine mnet_ind (fun m => MOk w base m → DevsT w m.av m.net.one.args ∧ NetsT w m.kv m.net.kids) ?_ m
  intro k op ds av kv kids ih h
  rw [MOk_iff] at h
  rw [MNet.net_eq]
  refine ⟨devs_T h.1, ?_⟩
  simp only at h ⊢
  have hcap := h.2.1
  obtain ⟨a, cap, rfl⟩ := slice_of_owns h.2.1
  refine ⟨a, cap, by simp, by rw [List.length_map]; exact capOk_of hcap, fun i hi => ?_⟩
  have hi' : i < kids.length := by simpa using hi
  obtain ⟨g, cap', hv, hbase, hlt, _, hcell⟩ := ownsRow_cells h.2.1 (by omega)
  simp only [Value.slice.injEq, true_and] at hv
  obtain ⟨rfl, rfl⟩ := hv
  refine ⟨g, 0, rfl, trivial, hlt, ?_⟩
  obtain ⟨a1, a2, a3, a4⟩ := mCells_get kids i hi'
  obtain ⟨f1, f2⟩ := ih _ (List.getElem_mem hi') (h.2.2 _ (List.getElem_mem hi'))
  rw [List.getElem_map, NetIn_iff, Nat.zero_add]
  have e := MNet.net_eq kids[i]
  have e1 : kids[i].net.kind = kids[i].kind := by rw [e]
  have e2 : kids[i].net.one.op = kids[i].op := by rw [e]
  rw [e1, e2]
  exact ⟨hcell _ _ a1, hcell _ _ a2, ⟨_, hcell _ _ a3, f1⟩, ⟨_, hcell _ _ a4, f2⟩⟩
theorem elems_T {w : World} {base : Nat} {v : Value} {es : List MElem} (h1 : w.ownsRow base 46 2 v es.length (eCells es)) (h2 : ∀ m ∈ es, EOk w base m) : ElemsT w v (es.map MElem.elem) := by
  obtain ⟨a, cap, rfl⟩ := slice_of_owns h1
  refine ⟨a, cap, by simp, by rw [List.length_map]; exact capOk_of h1, fun i hi => ?_⟩
  have hi' : i < es.length := by simpa using hi
  obtain ⟨g, cap', hv, hbase, hlt, _, hcell⟩ := ownsRow_cells h1 (by omega)
  simp only [Value.slice.injEq, true_and] at hv
  obtain ⟨rfl, rfl⟩ := hv
  refine ⟨g, 0, rfl, trivial, hlt, ?_⟩
  obtain ⟨a1, a2⟩ := eCells_get es i hi'
  rw [List.getElem_map, Nat.zero_add]
  exact ⟨hcell _ _ a1, _, hcell _ _ a2, devs_T (h2 _ (List.getElem_mem hi'))⟩
theorem AOk.T {w : World} {base : Nat} (m : MArm) (h : AOk w base m) : DevsT w m.net.av m.arm.net.one.args ∧ NetsT w m.net.kv m.arm.net.kids ∧ ElemsT w m.cv m.arm.coils ∧ ArmsT w m.kv m.arm.kids := by
  revert h
  refine marm_ind (fun m => AOk w base m → DevsT w m.net.av m.arm.net.one.args ∧ NetsT w m.net.kv m.arm.net.kids ∧ ElemsT w m.cv m.arm.coils ∧ ArmsT w m.kv m.arm.kids) ?_ m
  intro n cv cs kv kids ih h
  rw [AOk_iff] at h
  rw [MArm.arm_eq]
  simp only at h ⊢
  obtain ⟨h1, ⟨h2, h3⟩, h4, h5⟩ := h
  obtain ⟨f1, f2⟩ := MOk.T n h1
  refine ⟨f1, f2, elems_T h2 h3, ?_⟩
  have hcap := h4
  obtain ⟨a, cap, rfl⟩ := slice_of_owns h4
  refine ⟨a, cap, by simp, by rw [List.length_map]; exact capOk_of hcap, fun i hi => ?_⟩
  have hi' : i < kids.length := by simpa using hi
  obtain ⟨g, cap', hv, hbase, hlt, _, hcell⟩ := ownsRow_cells h4 (by omega)
  simp only [Value.slice.injEq, true_and] at hv
  obtain ⟨rfl, rfl⟩ := hv
  refine ⟨g, 0, rfl, trivial, hlt, ?_⟩
  obtain ⟨a1, a2, a3, a4, a5, a6⟩ := aCells_get kids i hi'
  obtain ⟨g1, g2, g3, g4⟩ := ih _ (List.getElem_mem hi') (h5 _ (List.getElem_mem hi'))
  rw [List.getElem_map, ArmIn_iff, NetIn_iff, Nat.zero_add]
  have e := MArm.arm_eq kids[i]
  have e1 : kids[i].arm.net.kind = kids[i].net.kind := by rw [e]; simp only; rw [MNet.net_eq]
  have e2 : kids[i].arm.net.one.op = kids[i].net.op := by rw [e]; simp only; rw [MNet.net_eq]
  rw [e1, e2]
  exact ⟨⟨hcell _ _ a1, hcell _ _ a2, ⟨_, hcell _ _ a3, g1⟩, ⟨_, hcell _ _ a4, g2⟩⟩, ⟨_, hcell _ _ a5, g3⟩, ⟨_, hcell _ _ a6, g4⟩⟩
theorem ArmsT.take {w : World} {a : Option Addr} {c n : Nat} {l : List Stil.Arm} (h : ArmsT w (.slice a l.length c) l) (hn : n ≤ l.length) : ArmsT w (.slice a n c) (l.take n) := by
  obtain ⟨a', c2, e, hc, hx⟩ := h
  simp only [Value.slice.injEq, true_and] at e
  obtain ⟨rfl, rfl⟩ := e
  have hl : (l.take n).length = n := by rw [List.length_take, Nat.min_eq_left hn]
  refine ⟨a, c, by rw [hl], ⟨by rw [hl]; exact Nat.le_trans hn hc.1, hc.2⟩, fun i hi => ?_⟩
  rw [hl] at hi
  obtain ⟨b, o, h1, h2, h3, h4⟩ := hx i (by omega)
  exact ⟨b, o, h1, h2, h3, by rw [List.getElem_take]; exact h4⟩
end Go.Proofs.YtbllmkmdaenglaaGreatDoor
/- The program's chapter 7: the greatest of what arms need. -/
namespace Go.Proofs.YtbllmkmdaenglaaGreatDoor
open Go.RowKit Go.Sort Go.BigFrame
/-- A function of the program that answers with a number what an arm needs, wherever the arm lies. -/
def NeedA (F : Nat) (x : Stil.Arm) (f : Nat) : Prop := ∀ (av nv cv kv : Value) (w : World), DevsT w av x.net.one.args → NetsT w nv x.net.kids → ElemsT w cv x.coils → ArmsT w kv x.kids → Calls Tryz.prog F #[.agg #[.int .i64 x.net.kind, .int .i64 x.net.one.op, av, nv, cv, kv]] w fun e w' => e = .returned (.int .i64 f) ∧ Below w.heap.size w w'
def NeedN (F : Nat) (x : Stil.Net) (f : Nat) : Prop := ∀ (av nv : Value) (w : World), DevsT w av x.one.args → NetsT w nv x.kids → Calls Tryz.prog F #[.agg #[.int .i64 x.kind, .int .i64 x.one.op, av, nv]] w fun e w' => e = .returned (.int .i64 f) ∧ Below w.heap.size w w'
set_option maxHeartbeats 2000000 in
set_option maxRecDepth 100000 in
theorem i_mostA1 (x : Stil.Arm) (f F B m : Nat) (av nv cv kv : Value) (w : World) (hE : ∀ args w, (callFunc F args).run Tryz.prog w = .ok (.enter F args) w) (ih : NeedA F x f)
    (hav : DevsT w av x.net.one.args) (hnv : NetsT w nv x.net.kids) (hcv : ElemsT w cv x.coils) (hkv : ArmsT w kv x.kids) (hbx : w.cell? ⟨B, 0, none⟩ = some (.func (.func F) #[] #[])) (hB : B < w.heap.size) :
    Calls Tryz.prog 60 #[.int .i64 m, .agg #[.int .i64 x.net.kind, .int .i64 x.net.one.op, av, nv, cv, kv], .pointer (some ⟨B, 0, none⟩)] w fun e w' => e = .returned (.int .i64 (max m f : Nat)) ∧ Below w.heap.size w w' := by
  have IH : Hid (∀ W, Below w.heap.size w W → Calls Tryz.prog F #[.agg #[.int .i64 x.net.kind, .int .i64 x.net.one.op, av, nv, cv, kv]] W fun e w' => e = .returned (.int .i64 f) ∧ Below W.heap.size W w') := fun W h => ih av nv cv kv W (hav.below h) (hnv.below h) (hcv.below h) (hkv.below h)
  obtain ⟨p0, r0, rfl, _⟩ := hav.shape
  obtain ⟨p1, r1, rfl, _, _⟩ := hnv.shape
  obtain ⟨p2, r2, rfl, _⟩ := hcv.shape
  obtain ⟨p3, r3, rfl, _, _⟩ := hkv.shape
  clear ih
  go_enter Tryz.func60, Tryz.ntmps60
  go_wp2_with (refine (IH.out _ (by (repeat (first | with_reducible exact Below.refl _ _ | with_reducible assumption | with_reducible refine bl_set (by first | exact Nat.le_refl _ | (simp; done) | (simp; omega) | omega) ?_ _ | with_reducible refine bl_alloc ?_ _ | with_reducible refine bl_drewN ?_ _ | with_reducible refine bl_drew ?_ | with_reducible refine bl_grow ?_ _ _ | with_reducible refine bl_call ?_ (by assumption))))).mono ?_; rintro e w1 ⟨rfl, hb1⟩)
  all_goals go_ret
  all_goals refine ⟨ret_int ?_, by (repeat (first | with_reducible exact Below.refl _ _ | with_reducible assumption | with_reducible refine bl_set (by first | exact Nat.le_refl _ | (simp; done) | (simp; omega) | omega) ?_ _ | with_reducible refine bl_alloc ?_ _ | with_reducible refine bl_drewN ?_ _ | with_reducible refine bl_drew ?_ | with_reducible refine bl_grow ?_ _ _ | with_reducible refine bl_call ?_ (by assumption)))⟩
  all_goals (congr 1; omega)
set_option maxHeartbeats 2000000 in
set_option maxRecDepth 100000 in
theorem i_foldAI (es : List Stil.Arm) (f : Stil.Arm → Nat) (F : Nat) (hE : ∀ args w, (callFunc F args).run Tryz.prog w = .ok (.enter F args) w) (ih : ∀ x ∈ es, NeedA F x (f x))
    (B b0 : Nat) (v : Value) (w : World) (hat : ArmsT w v es) (hl : es.length ≤ 999999) (hbx : w.cell? ⟨B, 0, none⟩ = some (.func (.func F) #[] #[])) (hB : B < w.heap.size) :
    Calls Tryz.prog 59 #[v, .int .i64 b0, .func (.func 60) #[] #[.pointer (some ⟨B, 0, none⟩)]] w fun e w' => e = .returned (.int .i64 (Stil.mostOf b0 (es.map f))) ∧ Below w.heap.size w w' := by
  obtain ⟨a, cap, rfl, hcap, hc⟩ := hat.shape
  have HA : Hid (∀ i (h : i < es.length), ∃ b o, a = some ⟨b, o, none⟩ ∧ b < w.heap.size ∧ ArmT w b (o + i * 6) es[i]) := hc
  have IH : Hid (∀ x ∈ es, NeedA F x (f x)) := ih
  have HBX : Hid (w.cell? ⟨B, 0, none⟩ = some (.func (.func F) #[] #[])) := hbx
  have HE : Hid (∀ args w, (callFunc F args).run Tryz.prog w = .ok (.enter F args) w) := hE
  clear hc ih hbx hE hcap hat
  go_enter Tryz.func59, Tryz.ntmps59
  go_wp2
  go_loopw [1, 11] (fun d i wr => ∃ (j m : Nat), j ≤ es.length ∧ i = .int .i64 j ∧ d = .int .i64 m ∧ m = Stil.mostOf b0 ((es.map f).take j) ∧ Below w.heap.size w wr) (fun _ i _ => es.length - (intOf i).toNat)
  case atStart => exact ⟨0, b0, by omega, rfl, rfl, rfl, Below.refl _ _⟩
  case round =>
    obtain ⟨j, m, hj, rfl, rfl, hm, hb⟩ := hrel
    have HM : Hid (m = Stil.mostOf b0 ((es.map f).take j)) := hm
    clear hm
    by_cases hlt : j < es.length
    · obtain ⟨b, o, rfl, hbl, hn⟩ := HA.out j hlt
      obtain ⟨hna, cv, kv, x4, x5, hcv, hkv⟩ := (ArmT.below hb _ _ _ hn hbl).open
      obtain ⟨x0, x1, av, nv, x2, x3, hav, hnv⟩ := hna.open
      have HTS : Hid (Stil.mostOf b0 ((es.map f).take (j + 1)) = max (Stil.mostOf b0 ((es.map f).take j)) (f es[j])) := by
        show _ = _
        rw [Stil.mostOf_take (by rw [List.length_map]; exact hlt), List.getElem_map]
      have HI : Hid (∀ W, Below wr.heap.size wr W → Calls Tryz.prog 60 #[.int .i64 m, .agg #[.int .i64 es[j].net.kind, .int .i64 es[j].net.one.op, av, nv, cv, kv], .pointer (some ⟨B, 0, none⟩)] W fun e w' => e = .returned (.int .i64 (max m (f es[j]) : Nat)) ∧ Below W.heap.size W w') := by
        intro W hW
        have hbW := hb.trans (hW.mono hb.size)
        exact i_mostA1 es[j] (f es[j]) F B m av nv cv kv W HE.out (IH.out es[j] (List.getElem_mem hlt)) (hav.below hW) (hnv.below hW) (hcv.below hW) (hkv.below hW) ((hbW.cell (p := ⟨B, 0, none⟩) hB).trans HBX.out) (Nat.lt_of_lt_of_le hB hbW.size)
      obtain ⟨x, hx⟩ : ∃ x, x = es[j] := ⟨_, rfl⟩
      rw [← hx] at HI x0 x1 hav hnv hcv hkv HTS
      obtain ⟨p0, r0, rfl, hz6⟩ := hav.shape
      obtain ⟨p1, r1, rfl, hz7, _⟩ := hnv.shape
      obtain ⟨p2, r2, rfl, hz8⟩ := hcv.shape
      obtain ⟨p3, r3, rfl, hz9, _⟩ := hkv.shape
      obtain ⟨fx, hfx⟩ : ∃ fx, fx = f x := ⟨_, rfl⟩
      rw [← hfx] at HI HTS
      have hb0 : b < wr.heap.size := Nat.lt_of_lt_of_le hbl hb.size
      clear hz6 hz7 hz8 hz9 hna hx hn hbl hfx
      go_wp2_with (go_at_call 60; refine (HI.out _ (by (repeat (first | with_reducible exact Below.refl _ _ | with_reducible assumption | with_reducible refine bl_set (by first | exact Nat.le_refl _ | (simp; done) | (simp; omega) | omega) ?_ _ | with_reducible refine bl_alloc ?_ _ | with_reducible refine bl_drewN ?_ _ | with_reducible refine bl_drew ?_ | with_reducible refine bl_grow ?_ _ _ | with_reducible refine bl_call ?_ (by assumption))))).mono ?_; rintro e w2 ⟨rfl, hb2⟩; have hb3 : Below w.heap.size w w2 := (show Below w.heap.size w _ from hb.trans ((show Below wr.heap.size wr _ by (repeat (first | with_reducible exact Below.refl _ _ | with_reducible assumption | with_reducible refine bl_set (by first | exact Nat.le_refl _ | (simp; done) | (simp; omega) | omega) ?_ _ | with_reducible refine bl_alloc ?_ _ | with_reducible refine bl_drewN ?_ _ | with_reducible refine bl_drew ?_ | with_reducible refine bl_grow ?_ _ _ | with_reducible refine bl_call ?_ (by assumption)))).mono hb.size)).trans (hb2.mono (by have := hb.size; simp; omega)))
      refine ⟨⟨j + 1, max m fx, by omega, by go_num, rfl, ?_, hb3⟩, by simp [intOf]; omega⟩
      rw [HTS.out, ← HM.out]
    · obtain rfl : j = es.length := by omega
      have hmn := HM.out
      rw [List.take_of_length_le (by rw [List.length_map]; exact Nat.le_refl _)] at hmn
      have HM2 : Hid (m = Stil.mostOf b0 (es.map f)) := hmn
      clear hmn
      go_wp2
      go_ret
      exact ⟨ret_int (by rw [HM2.out]), hb⟩
set_option maxHeartbeats 2000000 in
set_option maxRecDepth 100000 in
theorem i_mostA (es : List Stil.Arm) (f : Stil.Arm → Nat) (F : Nat) (hE : ∀ args w, (callFunc F args).run Tryz.prog w = .ok (.enter F args) w) (ih : ∀ x ∈ es, NeedA F x (f x))
    (b0 : Nat) (v : Value) (w : World) (hat : ArmsT w v es) (hl : es.length ≤ 999999) :
    Calls Tryz.prog 34 #[v, .int .i64 b0, .func (.func F) #[] #[]] w fun e w' => e = .returned (.int .i64 (Stil.mostOf b0 (es.map f))) ∧ Below w.heap.size w w' := by
  have HF : Hid (∀ W B, Below w.heap.size w W → W.cell? ⟨B, 0, none⟩ = some (.func (.func F) #[] #[]) → B < W.heap.size → Calls Tryz.prog 59 #[v, .int .i64 b0, .func (.func 60) #[] #[.pointer (some ⟨B, 0, none⟩)]] W fun e w' => e = .returned (.int .i64 (Stil.mostOf b0 (es.map f))) ∧ Below W.heap.size W w') := fun W B h h1 h2 => i_foldAI es f F hE ih B b0 v W (hat.below h) hl h1 h2
  obtain ⟨p0, r0, rfl, hz8, _⟩ := hat.shape
  clear hz8 ih hE
  go_enter Tryz.func34, Tryz.ntmps34
  go_wp2_with (go_at_call 59; refine (HF.out _ _ (by (repeat (first | with_reducible exact Below.refl _ _ | with_reducible assumption | with_reducible refine bl_set (by first | exact Nat.le_refl _ | (simp; done) | (simp; omega) | omega) ?_ _ | with_reducible refine bl_alloc ?_ _ | with_reducible refine bl_drewN ?_ _ | with_reducible refine bl_drew ?_ | with_reducible refine bl_grow ?_ _ _ | with_reducible refine bl_call ?_ (by assumption)))) (by simp [go_sem]) (by simp)).mono ?_; rintro e w1 ⟨rfl, hb1⟩)
  go_ret
  exact ⟨rfl, by (repeat (first | with_reducible exact Below.refl _ _ | with_reducible assumption | with_reducible refine bl_set (by first | exact Nat.le_refl _ | (simp; done) | (simp; omega) | omega) ?_ _ | with_reducible refine bl_alloc ?_ _ | with_reducible refine bl_drewN ?_ _ | with_reducible refine bl_drew ?_ | with_reducible refine bl_grow ?_ _ _ | with_reducible refine bl_call ?_ (by assumption)))⟩
end Go.Proofs.YtbllmkmdaenglaaGreatDoor
/- The program's chapter 7: the greatest of what nets need. -/
namespace Go.Proofs.YtbllmkmdaenglaaGreatDoor
open Go.RowKit Go.Sort Go.BigFrame
set_option maxHeartbeats 2000000 in
set_option maxRecDepth 100000 in
theorem i_mostN1 (x : Stil.Net) (f F B m : Nat) (av nv : Value) (w : World) (hE : ∀ args w, (callFunc F args).run Tryz.prog w = .ok (.enter F args) w) (ih : NeedN F x f)
    (hav : DevsT w av x.one.args) (hnv : NetsT w nv x.kids) (hbx : w.cell? ⟨B, 0, none⟩ = some (.func (.func F) #[] #[])) (hB : B < w.heap.size) :
    Calls Tryz.prog 106 #[.int .i64 m, .agg #[.int .i64 x.kind, .int .i64 x.one.op, av, nv], .pointer (some ⟨B, 0, none⟩)] w fun e w' => e = .returned (.int .i64 (max m f : Nat)) ∧ Below w.heap.size w w' := by
  have IH : Hid (∀ W, Below w.heap.size w W → Calls Tryz.prog F #[.agg #[.int .i64 x.kind, .int .i64 x.one.op, av, nv]] W fun e w' => e = .returned (.int .i64 f) ∧ Below W.heap.size W w') := fun W h => ih av nv W (hav.below h) (hnv.below h)
  obtain ⟨p0, r0, rfl, _⟩ := hav.shape
  obtain ⟨p1, r1, rfl, _, _⟩ := hnv.shape
  clear ih
  go_enter Tryz.func106, Tryz.ntmps106
  go_wp2_with (refine (IH.out _ (by (repeat (first | with_reducible exact Below.refl _ _ | with_reducible assumption | with_reducible refine bl_set (by first | exact Nat.le_refl _ | (simp; done) | (simp; omega) | omega) ?_ _ | with_reducible refine bl_alloc ?_ _ | with_reducible refine bl_drewN ?_ _ | with_reducible refine bl_drew ?_ | with_reducible refine bl_grow ?_ _ _ | with_reducible refine bl_call ?_ (by assumption))))).mono ?_; rintro e w1 ⟨rfl, hb1⟩)
  all_goals go_ret
  all_goals refine ⟨ret_int ?_, by (repeat (first | with_reducible exact Below.refl _ _ | with_reducible assumption | with_reducible refine bl_set (by first | exact Nat.le_refl _ | (simp; done) | (simp; omega) | omega) ?_ _ | with_reducible refine bl_alloc ?_ _ | with_reducible refine bl_drewN ?_ _ | with_reducible refine bl_drew ?_ | with_reducible refine bl_grow ?_ _ _ | with_reducible refine bl_call ?_ (by assumption)))⟩
  all_goals (congr 1; omega)
set_option maxHeartbeats 2000000 in
set_option maxRecDepth 100000 in
theorem i_foldNI (es : List Stil.Net) (f : Stil.Net → Nat) (F : Nat) (hE : ∀ args w, (callFunc F args).run Tryz.prog w = .ok (.enter F args) w) (ih : ∀ x ∈ es, NeedN F x (f x))
    (B b0 : Nat) (v : Value) (w : World) (hat : NetsT w v es) (hl : es.length ≤ 999999) (hbx : w.cell? ⟨B, 0, none⟩ = some (.func (.func F) #[] #[])) (hB : B < w.heap.size) :
    Calls Tryz.prog 105 #[v, .int .i64 b0, .func (.func 106) #[] #[.pointer (some ⟨B, 0, none⟩)]] w fun e w' => e = .returned (.int .i64 (Stil.mostOf b0 (es.map f))) ∧ Below w.heap.size w w' := by
  obtain ⟨a, cap, rfl, hcap, hc⟩ := hat.shape
  have HA : Hid (∀ i (h : i < es.length), ∃ b o, a = some ⟨b, o, none⟩ ∧ b < w.heap.size ∧ NetT w b (o + i * 4) es[i]) := hc
  have IH : Hid (∀ x ∈ es, NeedN F x (f x)) := ih
  have HBX : Hid (w.cell? ⟨B, 0, none⟩ = some (.func (.func F) #[] #[])) := hbx
  have HE : Hid (∀ args w, (callFunc F args).run Tryz.prog w = .ok (.enter F args) w) := hE
  clear hc ih hbx hE hcap hat
  go_enter Tryz.func105, Tryz.ntmps105
  go_wp2
  go_loopw [1, 11] (fun d i wr => ∃ (j m : Nat), j ≤ es.length ∧ i = .int .i64 j ∧ d = .int .i64 m ∧ m = Stil.mostOf b0 ((es.map f).take j) ∧ Below w.heap.size w wr) (fun _ i _ => es.length - (intOf i).toNat)
  case atStart => exact ⟨0, b0, by omega, rfl, rfl, rfl, Below.refl _ _⟩
  case round =>
    obtain ⟨j, m, hj, rfl, rfl, hm, hb⟩ := hrel
    have HM : Hid (m = Stil.mostOf b0 ((es.map f).take j)) := hm
    clear hm
    by_cases hlt : j < es.length
    · obtain ⟨b, o, rfl, hbl, hn⟩ := HA.out j hlt
      obtain ⟨x0, x1, av, nv, x2, x3, hav, hnv⟩ := (NetT.below hb _ _ _ hn hbl).open
      have HTS : Hid (Stil.mostOf b0 ((es.map f).take (j + 1)) = max (Stil.mostOf b0 ((es.map f).take j)) (f es[j])) := by
        show _ = _
        rw [Stil.mostOf_take (by rw [List.length_map]; exact hlt), List.getElem_map]
      have HI : Hid (∀ W, Below wr.heap.size wr W → Calls Tryz.prog 106 #[.int .i64 m, .agg #[.int .i64 es[j].kind, .int .i64 es[j].one.op, av, nv], .pointer (some ⟨B, 0, none⟩)] W fun e w' => e = .returned (.int .i64 (max m (f es[j]) : Nat)) ∧ Below W.heap.size W w') := by
        intro W hW
        have hbW := hb.trans (hW.mono hb.size)
        exact i_mostN1 es[j] (f es[j]) F B m av nv W HE.out (IH.out es[j] (List.getElem_mem hlt)) (hav.below hW) (hnv.below hW) ((hbW.cell (p := ⟨B, 0, none⟩) hB).trans HBX.out) (Nat.lt_of_lt_of_le hB hbW.size)
      obtain ⟨x, hx⟩ : ∃ x, x = es[j] := ⟨_, rfl⟩
      rw [← hx] at HI x0 x1 hav hnv HTS
      obtain ⟨p0, r0, rfl, hz6⟩ := hav.shape
      obtain ⟨p1, r1, rfl, hz7, _⟩ := hnv.shape
      obtain ⟨fx, hfx⟩ : ∃ fx, fx = f x := ⟨_, rfl⟩
      rw [← hfx] at HI HTS
      have hb0 : b < wr.heap.size := Nat.lt_of_lt_of_le hbl hb.size
      clear hz6 hz7 hx hn hbl hfx
      go_wp2_with (go_at_call 106; refine (HI.out _ (by (repeat (first | with_reducible exact Below.refl _ _ | with_reducible assumption | with_reducible refine bl_set (by first | exact Nat.le_refl _ | (simp; done) | (simp; omega) | omega) ?_ _ | with_reducible refine bl_alloc ?_ _ | with_reducible refine bl_drewN ?_ _ | with_reducible refine bl_drew ?_ | with_reducible refine bl_grow ?_ _ _ | with_reducible refine bl_call ?_ (by assumption))))).mono ?_; rintro e w2 ⟨rfl, hb2⟩; have hb3 : Below w.heap.size w w2 := (show Below w.heap.size w _ from hb.trans ((show Below wr.heap.size wr _ by (repeat (first | with_reducible exact Below.refl _ _ | with_reducible assumption | with_reducible refine bl_set (by first | exact Nat.le_refl _ | (simp; done) | (simp; omega) | omega) ?_ _ | with_reducible refine bl_alloc ?_ _ | with_reducible refine bl_drewN ?_ _ | with_reducible refine bl_drew ?_ | with_reducible refine bl_grow ?_ _ _ | with_reducible refine bl_call ?_ (by assumption)))).mono hb.size)).trans (hb2.mono (by have := hb.size; simp; omega)))
      refine ⟨⟨j + 1, max m fx, by omega, by go_num, rfl, ?_, hb3⟩, by simp [intOf]; omega⟩
      rw [HTS.out, ← HM.out]
    · obtain rfl : j = es.length := by omega
      have hmn := HM.out
      rw [List.take_of_length_le (by rw [List.length_map]; exact Nat.le_refl _)] at hmn
      have HM2 : Hid (m = Stil.mostOf b0 (es.map f)) := hmn
      clear hmn
      go_wp2
      go_ret
      exact ⟨ret_int (by rw [HM2.out]), hb⟩
set_option maxHeartbeats 2000000 in
set_option maxRecDepth 100000 in
theorem i_mostN (es : List Stil.Net) (f : Stil.Net → Nat) (F : Nat) (hE : ∀ args w, (callFunc F args).run Tryz.prog w = .ok (.enter F args) w) (ih : ∀ x ∈ es, NeedN F x (f x))
    (b0 : Nat) (v : Value) (w : World) (hat : NetsT w v es) (hl : es.length ≤ 999999) :
    Calls Tryz.prog 82 #[v, .int .i64 b0, .func (.func F) #[] #[]] w fun e w' => e = .returned (.int .i64 (Stil.mostOf b0 (es.map f))) ∧ Below w.heap.size w w' := by
  have HF : Hid (∀ W B, Below w.heap.size w W → W.cell? ⟨B, 0, none⟩ = some (.func (.func F) #[] #[]) → B < W.heap.size → Calls Tryz.prog 105 #[v, .int .i64 b0, .func (.func 106) #[] #[.pointer (some ⟨B, 0, none⟩)]] W fun e w' => e = .returned (.int .i64 (Stil.mostOf b0 (es.map f))) ∧ Below W.heap.size W w') := fun W B h h1 h2 => i_foldNI es f F hE ih B b0 v W (hat.below h) hl h1 h2
  obtain ⟨p0, r0, rfl, hz8, _⟩ := hat.shape
  clear hz8 ih hE
  go_enter Tryz.func82, Tryz.ntmps82
  go_wp2_with (go_at_call 105; refine (HF.out _ _ (by (repeat (first | with_reducible exact Below.refl _ _ | with_reducible assumption | with_reducible refine bl_set (by first | exact Nat.le_refl _ | (simp; done) | (simp; omega) | omega) ?_ _ | with_reducible refine bl_alloc ?_ _ | with_reducible refine bl_drewN ?_ _ | with_reducible refine bl_drew ?_ | with_reducible refine bl_grow ?_ _ _ | with_reducible refine bl_call ?_ (by assumption)))) (by simp [go_sem]) (by simp)).mono ?_; rintro e w1 ⟨rfl, hb1⟩)
  go_ret
  exact ⟨rfl, by (repeat (first | with_reducible exact Below.refl _ _ | with_reducible assumption | with_reducible refine bl_set (by first | exact Nat.le_refl _ | (simp; done) | (simp; omega) | omega) ?_ _ | with_reducible refine bl_alloc ?_ _ | with_reducible refine bl_drewN ?_ _ | with_reducible refine bl_drew ?_ | with_reducible refine bl_grow ?_ _ _ | with_reducible refine bl_call ?_ (by assumption)))⟩
end Go.Proofs.YtbllmkmdaenglaaGreatDoor
