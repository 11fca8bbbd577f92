/- T7, T7b: texts put together. -/
import Derived.Test.YtpaljcoojkbhnaaGreatDoorGT
import Derived.Test.YtpaljcoojkbhnaaGreatDoorM25
import Derived.WalkLawsBesides
import Derived.Deep.Light
/- How lists of instructions lie in memory. -/
namespace Go.Proofs.YtpaljcoojkbhnaaGreatDoor
open Go.RowKit Go.Sort Go.BigFrame
/-- The instruction i lies at this place. -/
def InstAt (w : World) (b o : Nat) (i : Stil.Inst) : Prop := w.cell? ⟨b, o, none⟩ = some (.int .i64 i.code) ∧ w.cell? ⟨b, o + 1, none⟩ = some (.int .i64 i.one.op) ∧ ∃ av, w.cell? ⟨b, o + 2, none⟩ = some av ∧ DevsAt w av i.one.args
/-- The value v is a slice of just these instructions. -/
def InstsAt (w : World) (v : Value) (l : List Stil.Inst) : Prop := ∃ a cap, v = .slice a l.length cap ∧ ∀ i (h : i < l.length), ∃ b o, a = some ⟨b, o, none⟩ ∧ b < w.heap.size ∧ InstAt w b (o + i * 3) l[i]
theorem InstAt.below {w w' : World} {b o : Nat} {i : Stil.Inst} (h : InstAt w b o i) (hb : Below w.heap.size w w') (hlt : b < w.heap.size) : InstAt w' b o i := by
 obtain ⟨h1, h2, av, h3, h4⟩ := h
 exact ⟨by rw [hb.cell (p := ⟨b, o, none⟩) hlt]; exact h1, by rw [hb.cell (p := ⟨b, o + 1, none⟩) hlt]; exact h2, av, by rw [hb.cell (p := ⟨b, o + 2, none⟩) hlt]; exact h3, h4.below hb⟩
theorem InstsAt.below {w w' : World} {v : Value} {l : List Stil.Inst} (h : InstsAt w v l) (hb : Below w.heap.size w w') : InstsAt w' v l := by
 obtain ⟨a, cap, hv, hc⟩ := h
 refine ⟨a, cap, hv, fun i hi => ?_⟩
 obtain ⟨b, o, ha, hlt, hn⟩ := hc i hi
 exact ⟨b, o, ha, Nat.lt_of_lt_of_le hlt hb.size, hn.below hb hlt⟩
/-- The instruction lies at this place, and whatever it holds at or beyond lo. -/
def InstFrom (lo : Nat) (w : World) (b o : Nat) (i : Stil.Inst) : Prop := w.cell? ⟨b, o, none⟩ = some (.int .i64 i.code) ∧ w.cell? ⟨b, o + 1, none⟩ = some (.int .i64 i.one.op) ∧ ∃ av, w.cell? ⟨b, o + 2, none⟩ = some av ∧ DevsFrom lo w av i.one.args
def InstsFrom (lo : Nat) (w : World) (v : Value) (l : List Stil.Inst) : Prop := ∃ a cap, v = .slice a l.length cap ∧ ∀ i (h : i < l.length), ∃ b o, a = some ⟨b, o, none⟩ ∧ lo ≤ b ∧ b < w.heap.size ∧ InstFrom lo w b (o + i * 3) l[i]
theorem InstFrom.keep {lo : Nat} {w w' : World} {b o : Nat} {i : Stil.Inst} (h : InstFrom lo w b o i) (hk : KeepsUp lo w w') (hl : lo ≤ b) (hb : b < w.heap.size) : InstFrom lo w' b o i := by
 obtain ⟨h1, h2, av, h3, h4⟩ := h
 exact ⟨by rw [hk.2 _ _ hl hb]; exact h1, by rw [hk.2 _ _ hl hb]; exact h2, av, by rw [hk.2 _ _ hl hb]; exact h3, h4.keep hk⟩
theorem InstsFrom.keep {lo : Nat} {w w' : World} {v : Value} {l : List Stil.Inst} (h : InstsFrom lo w v l) (hk : KeepsUp lo w w') : InstsFrom lo w' v l := by
 obtain ⟨a, cap, hv, hc⟩ := h
 refine ⟨a, cap, hv, fun i hi => ?_⟩
 obtain ⟨b, o, ha, hl, hb, hd⟩ := hc i hi
 exact ⟨b, o, ha, hl, Nat.lt_of_lt_of_le hb hk.1, hd.keep hk hl hb⟩
theorem InstsFrom.at {lo : Nat} {w : World} {v : Value} {l : List Stil.Inst} (h : InstsFrom lo w v l) : InstsAt w v l := by
 obtain ⟨a, cap, hv, hc⟩ := h
 refine ⟨a, cap, hv, fun i hi => ?_⟩
 obtain ⟨b, o, ha, hl', hb, h1, h2, av, h3, h4⟩ := hc i hi
 exact ⟨b, o, ha, hb, h1, h2, av, h3, h4.at⟩
theorem InstFrom.set {lo : Nat} {w : World} {b o q : Nat} {i : Stil.Inst} (h : InstFrom lo w b o i) (hb : b < lo) (hq : q < o ∨ o + 3 ≤ q) (v : Value) : InstFrom lo (w.setCell ⟨b, q, none⟩ v) b o i := by
 obtain ⟨h1, h2, av, h3, h4⟩ := h
 exact ⟨(cellSetOff (by omega)).trans h1, (cellSetOff (by omega)).trans h2, av, (cellSetOff (by omega)).trans h3, h4.keep ((KeepsUp.refl _ _).set hb _)⟩
theorem inst_stored {lo : Nat} {w : World} {b o : Nat} {i : Stil.Inst} {av u0 u1 u2 : Value} (hb : b < lo) (q0 : w.cell? ⟨b, o, none⟩ = some u0) (q1 : w.cell? ⟨b, o + 1, none⟩ = some u1) (q2 : w.cell? ⟨b, o + 2, none⟩ = some u2) (hd : DevsFrom lo w av i.one.args) :
  InstFrom lo (((w.setCell ⟨b, o, none⟩ (.int .i64 i.code)).setCell ⟨b, o + 1, none⟩ (.int .i64 i.one.op)).setCell ⟨b, o + 2, none⟩ av) b o i := by
 refine ⟨(cellSetOff (by omega)).trans ((cellSetOff (by omega)).trans (cellSetAt q0)), (cellSetOff (by omega)).trans (cellSetAt ((cellSetOff (by omega)).trans q1)), av, cellSetAt ((cellSetOff (by omega)).trans ((cellSetOff (by omega)).trans q2)), hd.keep ((((KeepsUp.refl _ _).set hb _).set hb _).set hb _)⟩
theorem InstFrom.keepTop {lo : Nat} {w w' : World} {b o : Nat} {n : Stil.Inst} (h : InstFrom lo w b o n) (hk : KeepsUp lo w w') (ht : ∀ q, w'.cell? ⟨b, q, none⟩ = w.cell? ⟨b, q, none⟩) : InstFrom lo w' b o n := by
 obtain ⟨h1, h2, av, h3, h4⟩ := h
 exact ⟨(ht _).trans h1, (ht _).trans h2, av, (ht _).trans h3, h4.keep hk⟩
theorem InstFrom.upTo {lo : Nat} {w : World} {b o : Nat} {n : Stil.Inst} (h : InstFrom (lo + 1) w b o n) : InstFrom lo w b o n := by
 obtain ⟨h1, h2, av, h3, h4⟩ := h
 exact ⟨h1, h2, av, h3, h4.mono (by omega)⟩
/-- The point s lies in this block. -/
def PtAt (w : World) (b : Nat) (s : Stil.Pt) : Prop := b < w.heap.size ∧ w.cell? ⟨b, 0, none⟩ = some (.int .i64 s.bits) ∧ w.cell? ⟨b, 1, none⟩ = some (.int .i64 s.forks) ∧ w.cell? ⟨b, 2, none⟩ = some (.bool s.seen) ∧ w.cell? ⟨b, 3, none⟩ = some (.bool s.coil) ∧
 w.frozen? ⟨b, 0, none⟩ = false ∧ w.frozen? ⟨b, 1, none⟩ = false ∧ w.frozen? ⟨b, 2, none⟩ = false ∧ w.frozen? ⟨b, 3, none⟩ = false
theorem PtAt.below {w w' : World} {b : Nat} {s : Stil.Pt} (h : PtAt w b s) (hb : Below w.heap.size w w') : PtAt w' b s := by
 obtain ⟨h0, h1, h2, h3, h4, h5, h6, h7, h8⟩ := h
 exact ⟨Nat.lt_of_lt_of_le h0 hb.size, (hb.cell (p := ⟨b, 0, none⟩) h0).trans h1, (hb.cell (p := ⟨b, 1, none⟩) h0).trans h2, (hb.cell (p := ⟨b, 2, none⟩) h0).trans h3, (hb.cell (p := ⟨b, 3, none⟩) h0).trans h4,
  (hb.frozen (p := ⟨b, 0, none⟩) h0).trans h5, (hb.frozen (p := ⟨b, 1, none⟩) h0).trans h6, (hb.frozen (p := ⟨b, 2, none⟩) h0).trans h7, (hb.frozen (p := ⟨b, 3, none⟩) h0).trans h8⟩
theorem frozenSet {W : World} {p q : Addr} {v : Value} : (W.setCell p v).frozen? q = W.frozen? q := by simp [go_sem]
theorem PtAt.stored {w : World} {b : Nat} {s : Stil.Pt} (h : PtAt w b s) (t : Stil.Pt) : PtAt ((((w.setCell ⟨b, 0, none⟩ (.int .i64 t.bits)).setCell ⟨b, 1, none⟩ (.int .i64 t.forks)).setCell ⟨b, 2, none⟩ (.bool t.seen)).setCell ⟨b, 3, none⟩ (.bool t.coil)) b t := by
 obtain ⟨h0, h1, h2, h3, h4, h5, h6, h7, h8⟩ := h
 refine ⟨?_, ?_, ?_, ?_, ?_, ?_, ?_, ?_, ?_⟩
 ·exact Nat.lt_of_lt_of_le h0 (Nat.le_trans (sizeSet _ _ _) (Nat.le_trans (sizeSet _ _ _) (Nat.le_trans (sizeSet _ _ _) (sizeSet _ _ _))))
 ·exact (cellSetOff (by omega)).trans ((cellSetOff (by omega)).trans ((cellSetOff (by omega)).trans (cellSetAt h1)))
 ·exact (cellSetOff (by omega)).trans ((cellSetOff (by omega)).trans (cellSetAt ((cellSetOff (by omega)).trans h2)))
 ·exact (cellSetOff (by omega)).trans (cellSetAt ((cellSetOff (by omega)).trans ((cellSetOff (by omega)).trans h3)))
 ·exact cellSetAt ((cellSetOff (by omega)).trans ((cellSetOff (by omega)).trans ((cellSetOff (by omega)).trans h4)))
 all_goals exact frozenSet.trans (frozenSet.trans (frozenSet.trans (frozenSet.trans (by assumption))))
end Go.Proofs.YtpaljcoojkbhnaaGreatDoor
/- I8s: texts put together. -/
/- Contracts of the program's chapter 6: a step of the run. -/
namespace Go.Proofs.YtpaljcoojkbhnaaGreatDoor
open Go.RowKit Go.Sort Go.BigFrame
set_option maxHeartbeats 2000000 in
set_option maxRecDepth 100000 in
theorem i_sureStep (b f : Int) (c : Int) (w : World) (hb0 : -1000 ≤ b) (hb1 : b ≤ 1000) (hf0 : -1000 ≤ f) (hf1 : f ≤ 1000) :
  Calls Tryz.prog 128 #[.agg #[.int .i64 b, .int .i64 f], .int .i64 c] w fun e w' => e = .returned (.agg #[.int .i64 (if c = 1 then b + 1 else if c = 4 ∨ c = 5 ∨ c = 11 then b - 1 else b), .int .i64 (if c = 7 then f + 1 else if c = 9 then f - 1 else f)]) ∧ Below w.heap.size w w' := by
 have k1 : IntKind.i64.wrap (b + 1) = b + 1 := by rw [IntKind.wrap_i64]; omega
 have k2 : IntKind.i64.wrap (b - 1) = b - 1 := by rw [IntKind.wrap_i64]; omega
 have k3 : IntKind.i64.wrap (f + 1) = f + 1 := by rw [IntKind.wrap_i64]; omega
 have k4 : IntKind.i64.wrap (f - 1) = f - 1 := by rw [IntKind.wrap_i64]; omega
 obtain ⟨x, hx⟩ : ∃ x : Int, x = if c = 1 then b + 1 else if c = 4 ∨ c = 5 ∨ c = 11 then b - 1 else b := ⟨_, rfl⟩
 obtain ⟨y, hy⟩ : ∃ y : Int, y = if c = 7 then f + 1 else if c = 9 then f - 1 else f := ⟨_, rfl⟩
 have HX : Hid (x = if c = 1 then b + 1 else if c = 4 ∨ c = 5 ∨ c = 11 then b - 1 else b) := hx
 have HY : Hid (y = if c = 7 then f + 1 else if c = 9 then f - 1 else f) := hy
 rw [← hx, ← hy]
 clear hx hy hb0 hb1 hf0 hf1
 go_enter Tryz.func128, Tryz.ntmps128
 go_wp2
 all_goals refine bodyPost_ret (by simp [results, Tryz.results128, go_sem]; rfl) rfl ⟨?_, blA⟩
 all_goals (rw [HX.out, HY.out]; go_light; (try simp only [beq_iff_eq, beq_eq_false_iff_ne] at *); simp [*])
end Go.Proofs.YtpaljcoojkbhnaaGreatDoor
/- Contracts of the specification's chapters 5 and 6: ListOk, and what is wrong with an instruction. -/
set_option maxHeartbeats 4000000
set_option maxRecDepth 100000
namespace Go.Proofs.YtpaljcoojkbhnaaGreatDoor
open Go.RowKit Go.Sort Go.BigFrame
theorem s_listOk (i : Stil.Inst) (av : Value) (w : World) (hav : DevsAt w av i.one.args) (hf : i.fits) :
  Calls Tryz.prog 20 #[.agg #[.int .i64 i.code, .int .i64 i.one.op, av]] w fun e w' => e = .returned (.bool (Stil.listOk i)) ∧ Below w.heap.size w w' := by
 obtain ⟨c, op, ds⟩ := i
 simp only at hav hf ⊢
 have hla : ds.length ≤ 1048576 := hf.2.2.1
 have HC : Hid (∀ W, Below w.heap.size w W → Calls Tryz.prog 46 #[.agg #[.int .i64 op, av]] W fun e w' => e = .returned (.bool (Stil.isContact op ds)) ∧ Below W.heap.size W w') := fun W hW => s_isContact op av ds W (hav.below hW) hf.2.2.2 (by omega)
 have HO : Hid (∀ W, Below w.heap.size w W → Calls Tryz.prog 47 #[.agg #[.int .i64 op, av]] W fun e w' => e = .returned (.bool (Stil.isCoil op ds)) ∧ Below W.heap.size W w') := fun W hW => s_isCoil op av ds W (hav.below hW) hf.2.2.2 (by omega)
 have HL : Hid (Stil.listOk ⟨c, op, ds⟩ = if c < 1 ∨ 11 < c then false else if c ≤ 3 then Stil.isContact op ds else if c = 10 then Stil.isCoil op ds else (op == 0 && ds.length == 0)) := rfl
 obtain ⟨p0, r0, rfl, _⟩ := hav
 obtain ⟨R, hR⟩ : ∃ R, R = Stil.listOk ⟨c, op, ds⟩ := ⟨_, rfl⟩
 obtain ⟨q1, hq1⟩ : ∃ q, q = Stil.isContact op ds := ⟨_, rfl⟩
 obtain ⟨q2, hq2⟩ : ∃ q, q = Stil.isCoil op ds := ⟨_, rfl⟩
 obtain ⟨ln, hln⟩ : ∃ ln, ln = ds.length := ⟨_, rfl⟩
 rw [← hR] at HL ⊢
 rw [← hq1] at HL HC
 rw [← hq2] at HL HO
 rw [← hln] at HL HC HO hla ⊢
 clear hR hq1 hq2 hf hln
 by_cases h1 : c < 1 ∨ 11 < c
 ·have HX : Hid (R = false) := by show _ = _; rw [HL.out, if_pos h1]
  clear HL HC HO
  go_enter Tryz.func20, Tryz.ntmps20
  go_wp2
  all_goals first | (exfalso; omega) | (go_ret; exact ⟨ret_bool HX.out.symm, blA⟩)
 ·have HL2 : Hid (R = if c ≤ 3 then q1 else if c = 10 then q2 else (op == 0 && ln == 0)) := by show _ = _; rw [HL.out, if_neg h1]
  have c1 : ¬ c < 1 := by omega
  have c2 : ¬ 11 < c := by omega
  clear HL h1
  by_cases h3 : c ≤ 3
  ·have HX : Hid (R = q1) := by show _ = _; rw [HL2.out, if_pos h3]
   clear HL2 HO
   go_enter Tryz.func20, Tryz.ntmps20
   go_wp2_with (go_at_call 46; refine (HC.out _ blA).mono ?_; rintro e w1 ⟨rfl, hb⟩)
   go_ret
   exact ⟨ret_bool HX.out.symm, blA⟩
  ·by_cases h10 : c = 10
   ·have HX : Hid (R = q2) := by show _ = _; rw [HL2.out, if_neg h3, if_pos h10]
    subst h10
    clear HL2 HC
    go_enter Tryz.func20, Tryz.ntmps20
    go_wp2_with (go_at_call 47; refine (HO.out _ blA).mono ?_; rintro e w1 ⟨rfl, hb⟩)
    go_ret
    exact ⟨ret_bool HX.out.symm, blA⟩
   ·have HX : Hid (R = (op == 0 && ln == 0)) := by show _ = _; rw [HL2.out, if_neg h3, if_neg h10]
    have e10 : (c == 10) = false := by rw [beq_eq_false_iff_ne]; exact h10
    clear HL2 HC HO h10
    go_enter Tryz.func20, Tryz.ntmps20
    go_wp2
    all_goals go_ret
    all_goals (refine ⟨ret_bool ?_, blA⟩)
    all_goals (rw [HX.out, Bool.eq_iff_iff]; go_light; simp [*])
theorem s_needs (c : Int) (w : World) : Calls Tryz.prog 21 #[.int .i64 c] w fun e w' => e = .returned (.int .i64 (Stil.needs c)) ∧ Below w.heap.size w w' := by
 go_enter Tryz.func21, Tryz.ntmps21
 go_wp2
 all_goals go_ret
 all_goals (refine ⟨ret_int ?_, Below.refl _ _⟩)
 all_goals go_light
 all_goals (simp only [beq_iff_eq, beq_eq_false_iff_ne] at *; simp [Stil.needs, *])
end Go.Proofs.YtpaljcoojkbhnaaGreatDoor
/- Contracts of the specification's chapter 6: what is wrong with an instruction, what is known behind it. -/
namespace Go.Proofs.YtpaljcoojkbhnaaGreatDoor
open Go.RowKit Go.Sort Go.BigFrame
theorem nd1 : Stil.needs 1 = 0 := rfl
theorem lo1 : Stil.low 1 = 1 := rfl
theorem nd2 : Stil.needs 2 = 1 := rfl
theorem lo2 : Stil.low 2 = 1 := rfl
theorem nd3 : Stil.needs 3 = 1 := rfl
theorem lo3 : Stil.low 3 = 1 := rfl
theorem nd4 : Stil.needs 4 = 2 := rfl
theorem lo4 : Stil.low 4 = 1 := rfl
theorem nd5 : Stil.needs 5 = 2 := rfl
theorem lo5 : Stil.low 5 = 2 := rfl
theorem nd6 : Stil.needs 6 = 1 := rfl
theorem lo6 : Stil.low 6 = 1 := rfl
theorem nd7 : Stil.needs 7 = 1 := rfl
theorem lo7 : Stil.low 7 = 1 := rfl
theorem nd8 : Stil.needs 8 = 1 := rfl
theorem lo8 : Stil.low 8 = 1 := rfl
theorem nd9 : Stil.needs 9 = 1 := rfl
theorem lo9 : Stil.low 9 = 1 := rfl
theorem nd10 : Stil.needs 10 = 1 := rfl
theorem lo10 : Stil.low 10 = 1 := rfl
theorem nd11 : Stil.needs 11 = 1 := rfl
theorem lo11 : Stil.low 11 = 1 := rfl
set_option maxHeartbeats 4000000 in
set_option maxRecDepth 100000 in
theorem s_wrong (b f : Int) (sn cl : Bool) (i : Stil.Inst) (av : Value) (w : World) (hav : DevsAt w av i.one.args) (hf : i.fits) :
  Calls Tryz.prog 62 #[.agg #[.int .i64 b, .int .i64 f, .bool sn, .bool cl], .agg #[.int .i64 i.code, .int .i64 i.one.op, av]] w fun e w' => e = .returned (.int .i64 (Stil.wrong ⟨b, f, sn, cl⟩ i)) ∧ Below w.heap.size w w' := by
 have HK : Hid (∀ W, Below w.heap.size w W → Calls Tryz.prog 20 #[.agg #[.int .i64 i.code, .int .i64 i.one.op, av]] W fun e w' => e = .returned (.bool (Stil.listOk i)) ∧ Below W.heap.size W w') := fun W hW => s_listOk i av W (hav.below hW) hf
 obtain ⟨p0, r0, rfl, _⟩ := hav
 have hla : i.one.args.length ≤ 1048576 := hf.2.2.1
 obtain ⟨R, hR⟩ : ∃ R, R = Stil.wrong ⟨b, f, sn, cl⟩ i := ⟨_, rfl⟩
 have HR : Hid (Stil.wrong ⟨b, f, sn, cl⟩ i = R) := hR.symm
 rw [← hR]
 have HKK : Hid (Stil.listOk i = true → 1 ≤ i.code ∧ i.code ≤ 11) := Stil.ok_code
 obtain ⟨c, hc⟩ : ∃ c, c = i.code := ⟨_, rfl⟩
 obtain ⟨k, hk⟩ : ∃ k, k = Stil.listOk i := ⟨_, rfl⟩
 obtain ⟨op, hop⟩ : ∃ op, op = i.one.op := ⟨_, rfl⟩
 obtain ⟨ln, hln⟩ : ∃ ln, ln = i.one.args.length := ⟨_, rfl⟩
 have HW : Hid (R = if k = false then 2 else if b < Stil.needs c then 3 else if c = 1 ∧ b = 16 then 4 else if 7 ≤ c ∧ 1 < b then 5 else if sn = true ∧ b = Stil.low c ∧ (c = 3 ∨ c = 6 ∨ c = 5) then 6 else if c = 7 ∧ f = 8 then 7 else if (c = 8 ∨ c = 9) ∧ f = 0 then 7 else if c = 11 ∧ 0 < f then 7 else if (c = 8 ∨ c = 9 ∨ c = 11) ∧ cl = false then 8 else 0) := by
  show _ = _; rw [← HR.out, hk, hc]; rfl
 rw [← hc, ← hk] at HKK HK
 rw [← hop, ← hln] at HK
 rw [← hln] at hla
 rw [← hc, ← hop, ← hln]
 clear hR HR hc hk hop hln hf
 cases k
 ·have HX : Hid (R = 2) := by show _ = _; rw [HW.out, if_pos rfl]
  clear HW HKK
  go_enter Tryz.func62, Tryz.ntmps62
  go_wp2_with (go_at_call 20; refine (HK.out _ blA).mono ?_; rintro e w1 ⟨rfl, hb⟩)
  all_goals go_ret
  all_goals exact ⟨ret_int HX.out.symm, blA⟩
 ·obtain ⟨hc1, hc2⟩ := HKK.out rfl
  have hx : c = 1 ∨ c = 2 ∨ c = 3 ∨ c = 4 ∨ c = 5 ∨ c = 6 ∨ c = 7 ∨ c = 8 ∨ c = 9 ∨ c = 10 ∨ c = 11 := by omega
  clear HKK hc1 hc2
  rcases hx with rfl | rfl | rfl | rfl | rfl | rfl | rfl | rfl | rfl | rfl | rfl
  all_goals (rcases sn.eq_false_or_eq_true with hsn | hsn <;> rcases cl.eq_false_or_eq_true with hcl | hcl)
  all_goals (
   go_enter Tryz.func62, Tryz.ntmps62
   go_wp2_with (go_at_call 20; refine (HK.out _ blA).mono ?_; rintro e w1 ⟨rfl, hb⟩; have hz0 : w.heap.size < w1.heap.size := Nat.lt_of_lt_of_le (by first | (simp; done) | (simp; omega)) hb.size; have y0 : w1.cell? ⟨w.heap.size, 0, none⟩ = some (.int .i64 b) := (by rw [hb.cell (p := ⟨w.heap.size, 0, none⟩) (by first | (simp; done) | (simp; omega))]; simp [go_sem]); have y1 : w1.cell? ⟨w.heap.size, 1, none⟩ = some (.int .i64 f) := (by rw [hb.cell (p := ⟨w.heap.size, 1, none⟩) (by first | (simp; done) | (simp; omega))]; simp [go_sem]); have y2 : w1.cell? ⟨w.heap.size, 2, none⟩ = some (.bool sn) := (by rw [hb.cell (p := ⟨w.heap.size, 2, none⟩) (by first | (simp; done) | (simp; omega))]; first | (simp [go_sem]; done) | (simp [go_sem]; assumption)); have y3 : w1.cell? ⟨w.heap.size, 3, none⟩ = some (.bool cl) := (by rw [hb.cell (p := ⟨w.heap.size, 3, none⟩) (by first | (simp; done) | (simp; omega))]; first | (simp [go_sem]; done) | (simp [go_sem]; assumption)))
   have r0 := cell_regrown y0
   have r1 := cell_regrown y1
   have r2 := cell_regrown y2
   have r3 := cell_regrown y3
   refine wp_region_quiet_below (by kernel_rfl) (by kernel_rfl) ?_
   repeat (go_big_quiet_step ((exact Calls.regrown_of (s_needs _ _))))
   refine wpQuiet_nil ?_
   intro _ hw'
   obtain ⟨⟨dq, osq⟩, hw''⟩ := hw'
   subst hw''
   go_wp2
   all_goals go_ret
   all_goals refine ⟨ret_int ?_, blA⟩
   all_goals (rw [HW.out]; go_light; (try simp only [beq_iff_eq, beq_eq_false_iff_ne, nd1, lo1, nd2, lo2, nd3, lo3, nd4, lo4, nd5, lo5, nd6, lo6, nd7, lo7, nd8, lo8, nd9, lo9, nd10, lo10, nd11, lo11] at *); simp [*]; try omega))
end Go.Proofs.YtpaljcoojkbhnaaGreatDoor
/- S7c, S7d: texts put together. -/
set_option maxHeartbeats 4000000
set_option maxRecDepth 100000
/- Contracts of the specification's chapter 6: what is known behind an instruction; SureCheck. -/
namespace Go.Proofs.YtpaljcoojkbhnaaGreatDoor
open Go.RowKit Go.Sort Go.BigFrame
theorem s_next (s : Stil.Pt) (c : Int) (w : World) (g : s.good) (h1 : 1 ≤ c) (h2 : c ≤ 11) :
  Calls Tryz.prog 63 #[.agg #[.int .i64 s.bits, .int .i64 s.forks, .bool s.seen, .bool s.coil], .int .i64 c] w fun e w' => e = .returned (.agg #[.int .i64 (Stil.next s c).bits, .int .i64 (Stil.next s c).forks, .bool (Stil.next s c).seen, .bool (Stil.next s c).coil]) ∧ Below w.heap.size w w' := by
 obtain ⟨b, f, sn, cl⟩ := s
 obtain ⟨b0, b1, f0, f1, _⟩ := g
 simp only at b0 b1 f0 f1 ⊢
 have hx : c = 1 ∨ c = 2 ∨ c = 3 ∨ c = 4 ∨ c = 5 ∨ c = 6 ∨ c = 7 ∨ c = 8 ∨ c = 9 ∨ c = 10 ∨ c = 11 := by omega
 have k1 : IntKind.i64.wrap (b + 1) = b + 1 := by rw [IntKind.wrap_i64]; omega
 have k2 : IntKind.i64.wrap (b - 1) = b - 1 := by rw [IntKind.wrap_i64]; omega
 have k3 : IntKind.i64.wrap (f + 1) = f + 1 := by rw [IntKind.wrap_i64]; omega
 have k4 : IntKind.i64.wrap (f - 1) = f - 1 := by rw [IntKind.wrap_i64]; omega
 clear h1 h2 b0 b1 f0 f1
 rcases hx with rfl | rfl | rfl | rfl | rfl | rfl | rfl | rfl | rfl | rfl | rfl
 all_goals cases sn
 all_goals (
  go_enter Tryz.func63, Tryz.ntmps63
  go_wp2
  refine bodyPost_ret (by simp [results, Tryz.results63, go_sem]; rfl) rfl ⟨?_, blA⟩
  simp [Stil.next, Stil.pt0])
theorem s_sureCheck (l : List Stil.Inst) (v : Value) (w : World) (hat : InstsAt w v l) (hl : l.length ≤ 1048576) (hft : ∀ x ∈ l, x.fits) :
  Calls Tryz.prog 35 #[v] w fun e w' => e = .returned (.agg #[.int .i64 (Stil.sureCheck l).1, .int .i64 (Stil.sureCheck l).2]) ∧ Below w.heap.size w w' := by
 have HF : Hid (∀ x ∈ l, x.fits) := hft
 obtain ⟨a, cap, rfl, hc⟩ := hat
 have HC : Hid (∀ i (h : i < l.length), ∃ b o, a = some ⟨b, o, none⟩ ∧ b < w.heap.size ∧ InstAt w b (o + i * 3) l[i]) := hc
 obtain ⟨ln, hln⟩ : ∃ ln, ln = l.length := ⟨_, rfl⟩
 have HLN : Hid (ln = l.length) := hln
 have HR : Hid (Stil.sureCheck l = if 1000 < ln then (1, 0) else Stil.sureFrom Stil.pt0 0 l) := by show _ = _; rw [hln]; rfl
 rw [← hln] at hl ⊢
 obtain ⟨R, hR⟩ : ∃ R, R = Stil.sureCheck l := ⟨_, rfl⟩
 rw [← hR] at HR ⊢
 clear hc hft hln hR
 by_cases h1 : 1000 < ln
 ·have HX : Hid (R = (1, 0)) := by show _ = _; rw [HR.out, if_pos h1]
  go_enter Tryz.func35, Tryz.ntmps35
  go_wp2
  refine bodyPost_ret (v := .agg #[.int .i64 1, .int .i64 0]) (by simp [results, Tryz.results35, go_sem]) rfl ⟨by rw [HX.out]; rfl, blA⟩
 ·have HX : Hid (R = Stil.sureFrom Stil.pt0 0 l) := by show _ = _; rw [HR.out, if_neg h1]
  clear HR
  go_enter Tryz.func35, Tryz.ntmps35
  go_wp2
  go_loopw [4] (fun i wr => ∃ (j : Nat) (s : Stil.Pt), j ≤ ln ∧ i = .int .i64 j ∧ s.good ∧ R = Stil.sureFrom s j (l.drop j) ∧ PtAt wr (w.heap.size + 1) s ∧ Below (w.heap.size + 1) (w.alloc (.cells #[.int .i64 0, .int .i64 0] 71)) wr) (fun i _ => ln - (intOf i).toNat)
  case atStart =>
   refine ⟨0, Stil.pt0, by omega, rfl, Stil.good0, by rw [HX.out]; rfl, ?_, ?_⟩
   ·refine ⟨by simp, ?_, ?_, ?_, ?_, ?_, ?_, ?_, ?_⟩
    all_goals simp [go_sem, Stil.pt0]
   ·simpa using below_alloc (w.alloc (.cells #[.int .i64 0, .int .i64 0] 71)) _
  case round =>
   clear HX
   obtain ⟨j, s, hj, rfl, hg, hfr, hpt, hB⟩ := hrel
   have HP : Hid (R = Stil.sureFrom s j (l.drop j)) := hfr
   have HG : Hid (s.good) := hg
   obtain ⟨hz1, p0, p1, p2, p3, z0, z1, z2, z3⟩ := hpt
   clear hfr hg
   have hz : w.heap.size < wr.heap.size := by have := hB.size; simp at this; omega
   have c0 : wr.cell? ⟨w.heap.size, 0, none⟩ = some (.int .i64 0) := clA hB
   have f0 : wr.frozen? ⟨w.heap.size, 0, none⟩ = false := frA hB
   have c1 : wr.cell? ⟨w.heap.size, 1, none⟩ = some (.int .i64 0) := clA hB
   have f1 : wr.frozen? ⟨w.heap.size, 1, none⟩ = false := frA hB
   have hbw : Below w.heap.size w wr := (below_alloc _ _).trans (hB.mono (by omega))
   by_cases hlt : j < ln
   ·have hlt' : j < l.length := by have := HLN.out; omega
    obtain ⟨b, o, rfl, hbl, hn⟩ := HC.out j hlt'
    obtain ⟨x0, x1, kav, x2, hav⟩ := hn.below hbw hbl
    have HI : Hid (∀ W, Below wr.heap.size wr W → Calls Tryz.prog 62 #[.agg #[.int .i64 s.bits, .int .i64 s.forks, .bool s.seen, .bool s.coil], .agg #[.int .i64 l[j].code, .int .i64 l[j].one.op, kav]] W fun e w' => e = .returned (.int .i64 (Stil.wrong s l[j])) ∧ Below W.heap.size W w') := fun W hW => s_wrong s.bits s.forks s.seen s.coil l[j] kav W (hav.below hW) (HF.out _ (List.getElem_mem hlt'))
    have HS : Hid (R = if 0 < Stil.wrong s l[j] then (Stil.wrong s l[j], j) else Stil.sureFrom (Stil.next s l[j].code) (j + 1) (l.drop (j + 1))) := by show _ = _; rw [HP.out, Stil.sureFrom_drop l s j hlt']
    have hbd := Stil.wrong_bound s l[j]
    have HGN : Hid (Stil.wrong s l[j] = 0 → (Stil.next s l[j].code).good ∧ 1 ≤ l[j].code ∧ l[j].code ≤ 11) := fun h => ⟨Stil.good_next HG.out h, Stil.ok_code (Stil.wrong_zero h).1⟩
    have HNX : Hid (Stil.wrong s l[j] = 0 → ∀ W, Calls Tryz.prog 63 #[.agg #[.int .i64 s.bits, .int .i64 s.forks, .bool s.seen, .bool s.coil], .int .i64 l[j].code] W fun e w' => e = .returned (.agg #[.int .i64 (Stil.next s l[j].code).bits, .int .i64 (Stil.next s l[j].code).forks, .bool (Stil.next s l[j].code).seen, .bool (Stil.next s l[j].code).coil]) ∧ Below W.heap.size W w') := fun h W => s_next s l[j].code W HG.out (HGN.out h).2.1 (HGN.out h).2.2
    obtain ⟨q, hq⟩ : ∃ q, q = Stil.wrong s l[j] := ⟨_, rfl⟩
    obtain ⟨x, hx⟩ : ∃ x, x = l[j] := ⟨_, rfl⟩
    rw [← hq] at HI HS hbd HGN HNX
    rw [← hx] at HI HS HGN HNX x0 x1 hav
    obtain ⟨t0, u0, rfl, _⟩ := hav
    clear hq hx hn HP
    have rr0 := cell_regrown p0
    have rr1 := cell_regrown p1
    have rr2 := cell_regrown p2
    have rr3 := cell_regrown p3
    have rx0 := cell_regrown x0
    have rx1 := cell_regrown x1
    have rx2 := cell_regrown x2
    by_cases hpos : 0 < q
    ·have HX : Hid (R = (q, j)) := by show _ = _; rw [HS.out, if_pos hpos]
     clear HS HGN HNX
     go_wp2
     refine wp_region_quiet_below (by kernel_rfl) (by kernel_rfl) ?_
     repeat (go_big_quiet_step ((exact Calls.regrown_of (HI.out _ blB))))
     refine wpQuiet_nil ?_
     intro _ hw'
     obtain ⟨⟨dq, osq⟩, hw''⟩ := hw'
     subst hw''
     clear rr0 rr1 rr2 rr3 rx0 rx1 rx2
     have hb2 := below_regrown wr dq osq
     obtain ⟨w2, hw2⟩ : ∃ w2, w2 = grow (redrawn wr dq) osq := ⟨_, rfl⟩
     rw [← hw2] at hb2 ⊢
     clear hw2
     have hz2 : w.heap.size < w2.heap.size := Nat.lt_of_lt_of_le hz hb2.size
     have hz3 : w.heap.size + 1 < w2.heap.size := Nat.lt_of_lt_of_le hz1 hb2.size
     have c0 := (hb2.cell (p := ⟨w.heap.size, 0, none⟩) hz).trans c0
     have c1 := (hb2.cell (p := ⟨w.heap.size, 1, none⟩) hz).trans c1
     have f0 := (hb2.frozen (p := ⟨w.heap.size, 0, none⟩) hz).trans f0
     have f1 := (hb2.frozen (p := ⟨w.heap.size, 1, none⟩) hz).trans f1
     have p0 := (hb2.cell (p := ⟨w.heap.size + 1, 0, none⟩) hz1).trans p0
     have p1 := (hb2.cell (p := ⟨w.heap.size + 1, 1, none⟩) hz1).trans p1
     have p2 := (hb2.cell (p := ⟨w.heap.size + 1, 2, none⟩) hz1).trans p2
     have p3 := (hb2.cell (p := ⟨w.heap.size + 1, 3, none⟩) hz1).trans p3
     have z0 := (hb2.frozen (p := ⟨w.heap.size + 1, 0, none⟩) hz1).trans z0
     have z1 := (hb2.frozen (p := ⟨w.heap.size + 1, 1, none⟩) hz1).trans z1
     have z2 := (hb2.frozen (p := ⟨w.heap.size + 1, 2, none⟩) hz1).trans z2
     have z3 := (hb2.frozen (p := ⟨w.heap.size + 1, 3, none⟩) hz1).trans z3
     have x0 := (hb2.cell (p := ⟨b, o + j * 3, none⟩) (Nat.lt_of_lt_of_le hbl hbw.size)).trans x0
     have hbl2 : b < w2.heap.size := Nat.lt_of_lt_of_le hbl (Nat.le_trans hbw.size hb2.size)
     have hbw2 : Below w.heap.size w w2 := hbw.trans (hb2.mono hbw.size)
     go_wp2
     refine bodyPost_ret (v := .agg #[.int .i64 q, .int .i64 j]) (by simp [results, Tryz.results35, go_sem, c0, c1]) rfl ⟨by rw [HX.out], blA⟩
    ·have hq0 : q = 0 := by omega
     have HX : Hid (R = Stil.sureFrom (Stil.next s x.code) (j + 1) (l.drop (j + 1))) := by show _ = _; rw [HS.out, if_neg hpos]
     have HG2 : Hid (Stil.next s x.code).good := (HGN.out hq0).1
     have HN2 : Hid (∀ W, Calls Tryz.prog 63 #[.agg #[.int .i64 s.bits, .int .i64 s.forks, .bool s.seen, .bool s.coil], .int .i64 x.code] W fun e w' => e = .returned (.agg #[.int .i64 (Stil.next s x.code).bits, .int .i64 (Stil.next s x.code).forks, .bool (Stil.next s x.code).seen, .bool (Stil.next s x.code).coil]) ∧ Below W.heap.size W w') := HNX.out hq0
     subst hq0
     clear HS HGN HNX hpos hbd
     go_wp2
     refine wp_region_quiet_below (by kernel_rfl) (by kernel_rfl) ?_
     repeat (go_big_quiet_step ((exact Calls.regrown_of (HI.out _ blB))))
     refine wpQuiet_nil ?_
     intro _ hw'
     obtain ⟨⟨dq, osq⟩, hw''⟩ := hw'
     subst hw''
     clear rr0 rr1 rr2 rr3 rx0 rx1 rx2
     have hb2 := below_regrown wr dq osq
     obtain ⟨w2, hw2⟩ : ∃ w2, w2 = grow (redrawn wr dq) osq := ⟨_, rfl⟩
     rw [← hw2] at hb2 ⊢
     clear hw2
     have hz2 : w.heap.size < w2.heap.size := Nat.lt_of_lt_of_le hz hb2.size
     have hz3 : w.heap.size + 1 < w2.heap.size := Nat.lt_of_lt_of_le hz1 hb2.size
     have c0 := (hb2.cell (p := ⟨w.heap.size, 0, none⟩) hz).trans c0
     have c1 := (hb2.cell (p := ⟨w.heap.size, 1, none⟩) hz).trans c1
     have f0 := (hb2.frozen (p := ⟨w.heap.size, 0, none⟩) hz).trans f0
     have f1 := (hb2.frozen (p := ⟨w.heap.size, 1, none⟩) hz).trans f1
     have p0 := (hb2.cell (p := ⟨w.heap.size + 1, 0, none⟩) hz1).trans p0
     have p1 := (hb2.cell (p := ⟨w.heap.size + 1, 1, none⟩) hz1).trans p1
     have p2 := (hb2.cell (p := ⟨w.heap.size + 1, 2, none⟩) hz1).trans p2
     have p3 := (hb2.cell (p := ⟨w.heap.size + 1, 3, none⟩) hz1).trans p3
     have z0 := (hb2.frozen (p := ⟨w.heap.size + 1, 0, none⟩) hz1).trans z0
     have z1 := (hb2.frozen (p := ⟨w.heap.size + 1, 1, none⟩) hz1).trans z1
     have z2 := (hb2.frozen (p := ⟨w.heap.size + 1, 2, none⟩) hz1).trans z2
     have z3 := (hb2.frozen (p := ⟨w.heap.size + 1, 3, none⟩) hz1).trans z3
     have x0 := (hb2.cell (p := ⟨b, o + j * 3, none⟩) (Nat.lt_of_lt_of_le hbl hbw.size)).trans x0
     have hbl2 : b < w2.heap.size := Nat.lt_of_lt_of_le hbl (Nat.le_trans hbw.size hb2.size)
     have hbw2 : Below w.heap.size w w2 := hbw.trans (hb2.mono hbw.size)
     go_wp2
     go_region_with (go_at_call 63; refine (HN2.out _).mono ?_; rintro e w3 ⟨rfl, hb3⟩; have pt3 : PtAt w3 (w.heap.size + 1) s := PtAt.below ⟨hz3, p0, p1, p2, p3, z0, z1, z2, z3⟩ blB; obtain ⟨hz4, g0, g1, g2, g3, y0, y1, y2, y3⟩ := pt3)
     all_goals try go_wp2
     all_goals (
      have hB3 : Below (w.heap.size + 1) (w.alloc (.cells #[.int .i64 0, .int .i64 0] 71)) w3 := (hB.trans (hb2.mono (by omega))).trans ((((Below.refl w2.heap.size w2).drew).trans hb3).mono (by omega))
      exact ⟨⟨j + 1, Stil.next s x.code, by omega, by go_num, HG2.out, HX.out, PtAt.stored ⟨hz4, g0, g1, g2, g3, y0, y1, y2, y3⟩ _, (((hB3.setCell (Nat.le_refl _) _).setCell (Nat.le_refl _) _).setCell (Nat.le_refl _) _).setCell (Nat.le_refl _) _⟩, by simp [intOf]; omega⟩)
   ·have HX : Hid (R = if 0 < s.bits then (9, j) else (0, 0)) := by show _ = _; rw [HP.out, Stil.sureFrom_end l s j (by have := HLN.out; omega)]
    obtain rfl : j = ln := by omega
    clear HP
    by_cases hb0 : 0 < s.bits
    ·have HX2 : Hid (R = (9, j)) := by show _ = _; rw [HX.out, if_pos hb0]
     clear HX
     go_wp2
     refine bodyPost_ret (v := .agg #[.int .i64 9, .int .i64 j]) (by simp [results, Tryz.results35, go_sem, c0, c1]) rfl ⟨by rw [HX2.out], blA⟩
    ·have HX2 : Hid (R = (0, 0)) := by show _ = _; rw [HX.out, if_neg hb0]
     clear HX
     go_wp2
     refine bodyPost_ret (v := .agg #[.int .i64 0, .int .i64 0]) (by simp [results, Tryz.results35, go_sem, c0, c1]) rfl ⟨by rw [HX2.out]; rfl, blA⟩
end Go.Proofs.YtpaljcoojkbhnaaGreatDoor
