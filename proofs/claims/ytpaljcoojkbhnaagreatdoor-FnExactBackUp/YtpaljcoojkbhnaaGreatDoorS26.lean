/- The specification's chapter 8: the arm that a reader comes to. -/
import Derived.Test.YtpaljcoojkbhnaaGreatDoorS24
import Derived.Test.YtpaljcoojkbhnaaGreatDoorS25
namespace Go.Proofs.YtpaljcoojkbhnaaGreatDoor
open Go.RowKit Go.Sort Go.BigFrame
theorem gbelow8 {a b c : World} {r : Option Nat} (h : Below a.heap.size a b) (k : b.grownBy c r) : a.grownBy c r :=
 ⟨k.os.trans h.os, k.tape.trans h.tape, k.output.trans h.output, Nat.le_trans h.size k.size, fun j hj hn => (k.block j (Nat.lt_of_lt_of_le hj h.size) hn).trans (h.block j hj)⟩
theorem arm_ext8 {A : Stil.Arm} {n : Stil.Net} {c : List Stil.Elem} {k : List Stil.Arm} (h1 : A.net = n) (h2 : A.coils = c) (h3 : A.kids = k) : A = ⟨n, c, k⟩ := by
 subst h1 h2 h3
 cases A
 rfl
theorem fork_len {N : Nat} : ∀ {ks : List Stil.Arm} {l r : List Stil.Inst}, Stil.ForkR (Stil.ArmR N [Stil.netZero]) ks l r → ks.length ≤ l.length
 | [], _, _, h => by simp [Stil.ForkR] at h
 | _ :: _, [], _, h => by simp [Stil.ForkR] at h
 | y :: ks, i :: l, r, h => by
  rw [Stil.ForkR] at h
  split at h
  ·rename_i e
   rw [e]; simp
  ·obtain ⟨_, m, h1, h2⟩ := h
   have h3 := fork_len h2
   have h4 := h1.suffix.length_le
   simp only [List.length_cons]
   omega
theorem fork_code {P : List Stil.Inst → Stil.Arm → List Stil.Inst → Prop} {ks : List Stil.Arm} {i : Stil.Inst} {l r : List Stil.Inst} (h : Stil.ForkR P ks (i :: l) r) : ∃ y ks', ks = y :: ks' ∧ (ks' = [] ∧ i.code = 9 ∧ P l y r ∨ ks' ≠ [] ∧ (i.code = 7 ∨ i.code = 8) ∧ ∃ m, P l y m ∧ Stil.ForkR P ks' m r) := by
 cases ks with
 | nil => simp [Stil.ForkR] at h
 | cons y ks' =>
  refine ⟨y, ks', rfl, ?_⟩
  rw [Stil.ForkR] at h
  split at h
  ·rename_i e
   exact .inl ⟨e, h⟩
  ·rename_i e
   exact .inr ⟨e, h⟩
set_option maxHeartbeats 8000000 in
set_option maxRecDepth 100000 in
theorem s_arm : ∀ (N : Nat) (root : Bool) (L l r : List Stil.Inst) (x : Stil.Arm) (a : Option Addr) (cap : Nat) (w0 w : World), Rd8 w0 w a cap L l → InstsAt w0 (.slice a L.length cap) L → L.length ≤ 1000 → (∀ i ∈ L, i.fits) → Stil.ArmR N (if root = true then [] else [Stil.netZero]) l x r →
  Calls Tryz.prog 37 #[.pointer (some ⟨w0.heap.size, 0, none⟩), .bool root] w fun e w' => ArmRet w' w.heap.size x e ∧ Rd8 w0 w' a cap L r ∧ w.grownBy w' (some w0.heap.size) := by
 intro N
 induction N with
 | zero =>
  intro root L l r x a cap w0 w _ _ _ _ h
  exact h.elim
 | succ N ih =>
  intro root L l r x a cap w0 w hr hat hl hft h
  obtain ⟨l1, l2, hN, hC, hK⟩ := h
  have HAT : Hid (InstsAt w0 (.slice a L.length cap) L) := hat
  have HF : Hid (∀ i ∈ L, i.fits) := hft
  have hltP := hr.lt
  have HNET : Hid (∀ W, Below w.heap.size w W → Calls Tryz.prog 65 #[.pointer (some ⟨w0.heap.size, 0, none⟩), .bool root] W fun e w' => NetRet w' W.heap.size x.net e ∧ Rd8 w0 w' a cap L l1 ∧ W.grownBy w' (some w0.heap.size)) := by
   intro W h
   cases root with
   | true => exact s_netR L l l1 x.net a cap w0 W (hr.below h hltP) HAT.out hl HF.out hN
   | false => exact s_netK L l l1 x.net a cap w0 W (hr.below h hltP) HAT.out hl HF.out hN
  have HI : Hid (∀ (l r : List Stil.Inst) (y : Stil.Arm) (W : World), Stil.ArmR N [Stil.netZero] l y r → Rd8 w0 W a cap L l → Calls Tryz.prog 37 #[.pointer (some ⟨w0.heap.size, 0, none⟩), .bool false] W fun e w' => ArmRet w' W.heap.size y e ∧ Rd8 w0 w' a cap L r ∧ W.grownBy w' (some w0.heap.size)) := fun l r y W h hr => ih false L l r y a cap w0 W hr HAT.out hl HF.out h
  have hll : l1.length ≤ 1000 := by have := hN.suffix.1.length_le; have := hr.suf.length_le; omega
  have hcl : x.coils.length ≤ 1000 := by have := hC.suffix.2.2; omega
  obtain ⟨xn, xcs, xks⟩ := x
  simp only at HNET hC hK hcl
  have hkl : xks.length ≤ 1000 := by
   have h2 := hC.suffix.2.2
   rcases hK with ⟨_, e, _⟩ | ⟨_, _, y, e, _⟩ | ⟨_, h⟩
   ·rw [e]; simp
   ·rw [e]; simp
   ·have h3 := fork_len h; omega
  have HC : Hid (Stil.CoilR l1 xcs l2) := hC
  have HK : Hid (Stil.KidsR (Stil.ArmR N [Stil.netZero]) xks l2 r) := hK
  clear ih hat hft hr hN hC hK
  go_enter Tryz.func37, Tryz.ntmps37
  go_wp2_with (go_at_call 65; refine (HNET.out _ blA).mono ?_; rintro e w1 ⟨⟨k0, op0, ds0, a0, c0, a2, c2, ms0, rfl, hmo, hmn⟩, hrd1, hg1⟩; simp only [World.size_alloc] at hmo; have HMO : Hid (MOwn w1 (w.heap.size + 1) (MNet.mk k0 op0 ds0 (.slice a0 ds0.length c0) (.slice a2 ms0.length c2) ms0)) := hmo; have HMN : Hid ((MNet.mk k0 op0 ds0 (.slice a0 ds0.length c0) (.slice a2 ms0.length c2) ms0).net = xn) := hmn; have HR1 : Hid (Rd8 w0 w1 a cap L l1) := hrd1; have HG1 : Hid (w.grownBy w1 (some w0.heap.size)) := gbelow8 (below_alloc _ _) hg1; have HZ1 : Hid (B6 w1 w.heap.size (.int .i64 0) (.int .i64 0) (.slice none 0 0) (.slice none 0 0) (.slice none 0 0) (.slice none 0 0)) := (B6.new w _ _ _ _ _ _ _).grown hg1 (fun e => by injection e with e; omega); clear hmo hmn hrd1 hg1)
  have HA0 : Hid (AS w (w1.alloc (.cells #[.int .i64 k0, .int .i64 op0, .slice a0 ds0.length c0, .slice a2 ms0.length c2, .slice none 0 0, .slice none 0 0] 80)) w0.heap.size w1.heap.size (MArm.mk ⟨k0, op0, ds0, .slice a0 ds0.length c0, .slice a2 ms0.length c2, ms0⟩ (.slice none 0 0) [] (.slice none 0 0) [])) := AS.new HMO.out HZ1.out HG1.out
  go_loopw [] (fun wr => ∃ (l' : List Stil.Inst) (cs' : List Stil.Elem) (m : MArm), AS w wr w0.heap.size w1.heap.size m ∧ m.arm.net = xn ∧ m.arm.kids = [] ∧ m.arm.coils ++ cs' = xcs ∧ Stil.CoilR l' cs' l2 ∧ Rd8 w0 wr a cap L l') (fun wr => L.length - posOf wr w0.heap.size)
  case atStart =>
   refine ⟨l1, xcs, _, HA0.out, ?_, ?_, ?_, HC.out, HR1.out.below (below_alloc _ _) HR1.out.lt⟩
   ·rw [MArm.arm_eq]; exact HMN.out
   ·rw [MArm.arm_eq]; rfl
   ·rw [MArm.arm_eq]; rfl
  case round =>
   clear HA0 HMO HMN HR1 HG1 HZ1 HNET HC
   obtain ⟨l', cs', m, has, hmn, hmk, hmc, hcr, hrd⟩ := hrel
   cases l' with
   | nil => exact hcr.elim
   | cons i r' =>
    have HCO : Hid (∀ W, Below wr.heap.size wr W → Calls Tryz.prog 66 #[.pointer (some ⟨w0.heap.size, 0, none⟩)] W fun e w' => e = .returned (.int .i64 i.code) ∧ Below W.heap.size W w') := fun W h => s_code L r' i a cap w0 W (hrd.below h hrd.lt) HAT.out hl
    have HPS : Hid (L.length - posOf wr w0.heap.size = r'.length + 1) := hrd.pos
    obtain ⟨k1, o1, d1, a1, c1, b1, e1, n1, f1, g1, s1, h1, j1, ks1, rfl⟩ := marm_form m has.own.1
    have HAS0 : Hid (AS w wr w0.heap.size w1.heap.size (MArm.mk ⟨k1, o1, d1, .slice a1 d1.length c1, .slice b1 n1.length e1, n1⟩ (.slice f1 s1.length g1) s1 (.slice h1 ks1.length j1) ks1)) := has
    have HRD : Hid (Rd8 w0 wr a cap L (i :: r')) := hrd
    have HMN : Hid ((MArm.mk ⟨k1, o1, d1, .slice a1 d1.length c1, .slice b1 n1.length e1, n1⟩ (.slice f1 s1.length g1) s1 (.slice h1 ks1.length j1) ks1).arm.net = xn) := hmn
    have HMK : Hid ((MArm.mk ⟨k1, o1, d1, .slice a1 d1.length c1, .slice b1 n1.length e1, n1⟩ (.slice f1 s1.length g1) s1 (.slice h1 ks1.length j1) ks1).arm.kids = []) := hmk
    have HMC : Hid ((MArm.mk ⟨k1, o1, d1, .slice a1 d1.length c1, .slice b1 n1.length e1, n1⟩ (.slice f1 s1.length g1) s1 (.slice h1 ks1.length j1) ks1).arm.coils ++ cs' = xcs) := hmc
    have hB1 := has.hB
    by_cases h10 : i.code = 10
    ·rw [Stil.CoilR, if_pos h10] at hcr
     obtain ⟨cs2, rfl, hcr⟩ := hcr
     have HCR : Hid (Stil.CoilR r' cs2 l2) := hcr
     obtain ⟨b, o, J, av, rfl, hb, hJ, hJ1, hJ2, -, x1, x2, hav⟩ := hrd.inst HAT.out
     have hfi : i.fits := HF.out i (hrd.suf.subset (by simp))
     have HCP : Hid (∀ W, Below wr.heap.size wr W → Calls Tryz.prog 48 #[.agg #[.int .i64 i.one.op, av]] W fun e w' => ∃ ac cc, e = .returned (.agg #[.int .i64 i.one.op, .slice ac i.one.args.length cc]) ∧ w'.ownsRow wr.heap.size 117 3 (.slice ac i.one.args.length cc) i.one.args.length (devsCells i.one.args) ∧ Below wr.heap.size wr w') := fun W h => by
      refine (s_copy i.one av W (hav.below h) hfi.2.2.1).mono ?_
      rintro e w' ⟨ac, cc, he, ho, hb⟩
      exact ⟨ac, cc, he, Joins.ownsRow_le ho h.size, h.trans (hb.mono h.size)⟩
     have hsl : s1.length ≤ 1000 := by
      have h2 := congrArg List.length hmc
      rw [MArm.arm_eq] at h2
      simp only [List.length_append, List.length_map, List.length_cons] at h2
      omega
     have hl2 : s1.length + [MElem.mk i.one.op i.one.args (.slice none 0 0)].length ≤ 1000000 := by simp only [List.length_singleton]; omega
     have c0 := hrd.c0
     have c1' := hrd.c1
     rw [← hJ1] at c1'
     obtain ⟨ta, ua, rfl, -⟩ := hav
     have hBk : w1.heap.size < wr.heap.size := has.box.1
     have hvm : Value.slice f1 s1.length g1 ∈ (MArm.mk ⟨k1, o1, d1, .slice a1 d1.length c1, .slice b1 n1.length e1, n1⟩ (.slice f1 s1.length g1) s1 (.slice h1 ks1.length j1) ks1).vals := by rw [MArm.vals_eq]; simp
     have HKB : Hid ((Value.slice f1 s1.length g1).ownBlock ≠ some w1.heap.size) := has.off _ hvm
     have HKW : Hid (∀ q, (Value.slice f1 s1.length g1).ownBlock = some q → w.heap.size + 1 ≤ q) := fun q hq => (has.own.1.lt _ _ hvm q hq).1
     have HBK : Hid (w.heap.size + 1 ≤ wr.heap.size) := by show _ ≤ _; omega
     have HXC : Hid (∀ W, Below wr.heap.size wr W → (W.cell? ⟨w0.heap.size, 0, none⟩ = some (.slice (some ⟨b, o, none⟩) L.length cap) ∧ W.cell? ⟨w0.heap.size, 1, none⟩ = some (.int .i64 (J : Int)) ∧ W.cell? ⟨b, o + J * 3 + 1, none⟩ = some (.int .i64 i.one.op) ∧ W.cell? ⟨b, o + J * 3 + 2, none⟩ = some (.slice ta i.one.args.length ua)) ∧ (w0.heap.size < W.heap.size ∧ b < W.heap.size ∧ w1.heap.size < W.heap.size) ∧ W.cell? ⟨w1.heap.size, 4, none⟩ = some (.slice f1 s1.length g1) ∧ W.frozen? ⟨w1.heap.size, 4, none⟩ = false) := fun W h => by
      have hbw : b < wr.heap.size := Nat.lt_trans hb hrd.lt
      have hx : ∀ q o' u, q < wr.heap.size → wr.cell? ⟨q, o', none⟩ = some u → W.cell? ⟨q, o', none⟩ = some u := fun q o' u hq e => (h.cell (p := ⟨q, o', none⟩) hq).trans e
      exact ⟨⟨hx _ _ _ hrd.lt c0, hx _ _ _ hrd.lt c1', hx _ _ _ hbw x1, hx _ _ _ hbw x2⟩, ⟨Nat.lt_of_lt_of_le hrd.lt h.size, Nat.lt_of_lt_of_le hbw h.size, Nat.lt_of_lt_of_le hBk h.size⟩, hx _ _ _ hBk has.box.2.1.2.2.2.2.1, (h.frozen (p := ⟨w1.heap.size, 4, none⟩) hBk).trans (has.box.2.2 4 (by omega))⟩
     have HXG : Hid (∀ w7, Below wr.heap.size wr w7 → ∀ ac cc w6, (w7.alloc (.cells #[.int .i64 i.one.op, .slice ac i.one.args.length cc] 26)).grownBy w6 (Value.slice f1 s1.length g1).ownBlock → (w6.cell? ⟨w0.heap.size, 0, none⟩ = some (.slice (some ⟨b, o, none⟩) L.length cap) ∧ w6.cell? ⟨w0.heap.size, 1, none⟩ = some (.int .i64 (J : Int)) ∧ w6.cell? ⟨b, o + J * 3 + 1, none⟩ = some (.int .i64 i.one.op) ∧ w6.cell? ⟨b, o + J * 3 + 2, none⟩ = some (.slice ta i.one.args.length ua)) ∧ w6.cell? ⟨w1.heap.size, 4, none⟩ = some (.slice f1 s1.length g1) ∧ w6.frozen? ⟨w1.heap.size, 4, none⟩ = false ∧ w0.heap.size ≠ w1.heap.size ∧ b ≠ w1.heap.size ∧ w6.frozen? ⟨w0.heap.size, 1, none⟩ = false) := fun w7 h ac cc w6 hg => by
      obtain ⟨⟨q0, q1, q2, q3⟩, ⟨z0, z1, z2⟩, q4, q5⟩ := HXC.out w7 h
      have hkw := HKW.out
      have hx : ∀ q o' u, q < w7.heap.size → (Value.slice f1 s1.length g1).ownBlock ≠ some q → w7.cell? ⟨q, o', none⟩ = some u → w6.cell? ⟨q, o', none⟩ = some u := fun q o' u hq hne e => (grownO_cell hg (by simp; omega) hne).trans ((celA hq).trans e)
      have hbP : b < w0.heap.size := hb
      exact ⟨⟨hx _ _ _ z0 (fun e => by have := hkw _ e; omega) q0, hx _ _ _ z0 (fun e => by have := hkw _ e; omega) q1, hx _ _ _ z1 (fun e => by have := hkw _ e; omega) q2, hx _ _ _ z1 (fun e => by have := hkw _ e; omega) q3⟩, hx _ _ _ z2 HKB.out q4, (grownO_frozen hg (by simp; omega) HKB.out).trans (((below_alloc w7 (.cells #[.int .i64 i.one.op, .slice ac i.one.args.length cc] 26)).frozen (p := ⟨w1.heap.size, 4, none⟩) z2).trans q5), by omega, by omega, (grownO_frozen hg (by simp; omega) (fun e => by have := hkw _ e; omega)).trans (((below_alloc w7 (.cells #[.int .i64 i.one.op, .slice ac i.one.args.length cc] 26)).frozen (p := ⟨w0.heap.size, 1, none⟩) z0).trans ((h.frozen (p := ⟨w0.heap.size, 1, none⟩) HRD.out.lt).trans HRD.out.f1))⟩
     have HEND : Hid (∀ (w7 w6 : World) (ac : Option Addr) (cc : Nat) (a6 : Option Addr) (c6 : Nat), Below wr.heap.size wr w7 → w7.ownsRow wr.heap.size 117 3 (.slice ac i.one.args.length cc) i.one.args.length (devsCells i.one.args) → ERow w6 (w.heap.size + 1) (.slice a6 (s1.length + 1) c6) (s1 ++ [(MElem.mk i.one.op i.one.args (.slice ac i.one.args.length cc))]) → (w7.alloc (.cells #[.int .i64 i.one.op, .slice ac i.one.args.length cc] 26)).grownBy w6 (Value.slice f1 s1.length g1).ownBlock → ((Value.slice a6 (s1.length + 1) c6).ownBlock = (Value.slice f1 s1.length g1).ownBlock ∨ (Value.slice a6 (s1.length + 1) c6).ownBlock = some (w7.alloc (.cells #[.int .i64 i.one.op, .slice ac i.one.args.length cc] 26)).heap.size) →
       ∃ m : MArm, AS w ((w6.setCell ⟨w1.heap.size, 4, none⟩ (.slice a6 (s1.length + 1) c6)).setCell ⟨w0.heap.size, 1, none⟩ (.int .i64 ((J : Int) + 1))) w0.heap.size w1.heap.size m ∧ m.arm.net = xn ∧ m.arm.kids = [] ∧ m.arm.coils ++ cs2 = xcs ∧ Rd8 w0 ((w6.setCell ⟨w1.heap.size, 4, none⟩ (.slice a6 (s1.length + 1) c6)).setCell ⟨w0.heap.size, 1, none⟩ (.int .i64 ((J : Int) + 1))) (some ⟨b, o, none⟩) cap L r') := fun w7 w6 ac cc a6 c6 h7 hoc hr6 hg6 hat6 => by
      have hkw := HKW.out
      refine ⟨_, (AS.coilEnd (c := (MElem.mk i.one.op i.one.args (.slice ac i.one.args.length cc))) (cv' := .slice a6 (s1.length + 1) c6) HAS0.out hltP (grown_of h7 _) (fun q hq => (hoc.lt q hq).1) hr6 hg6 hat6).grown hltP (grown_set (World.grownBy.refl _ _) _ _), ?_, ?_, ?_, ((((HRD.out.below h7 HRD.out.lt).below (below_alloc _ _) (by have := HRD.out.lt; have := h7.size; omega)).grown hg6 (fun q e => by have := hkw q e; omega)).setB (by omega) _).next hJ2⟩
      ·have h2 := HMN.out
       rw [MArm.arm_eq] at h2 ⊢
       exact h2
      ·have h2 := HMK.out
       rw [MArm.arm_eq] at h2 ⊢
       exact h2
      ·have h2 := HMC.out
       rw [MArm.arm_eq] at h2 ⊢
       simp only [List.map_append, List.append_assoc] at h2 ⊢
       exact h2
     have hwj : IntKind.i64.wrap ((J : Int) + 1) = (J : Int) + 1 := by rw [IntKind.wrap_i64]; omega
     have HJ2 : Hid (J + 1 = L.length - r'.length) := hJ2
     clear hcr hfi hJ1 hJ2 hmn hmk hmc hrd has hvm hsl x1 x2 c0 c1' hb
     go_upto_region 3 with (go_at_call 66; refine (HCO.out _ blA).mono ?_; rintro e w5 ⟨rfl, hb5⟩; have hBW5 : Below wr.heap.size wr w5 := blA; obtain ⟨⟨p0, p1, p2, p3⟩, ⟨z0, z1, z2⟩, y4, f4⟩ := HXC.out w5 hBW5)
     have HCP5 : Hid (∀ W, Below w5.heap.size w5 W → Calls Tryz.prog 48 #[.agg #[.int .i64 i.one.op, .slice ta i.one.args.length ua]] W fun e w' => ∃ ac cc, e = .returned (.agg #[.int .i64 i.one.op, .slice ac i.one.args.length cc]) ∧ w'.ownsRow wr.heap.size 117 3 (.slice ac i.one.args.length cc) i.one.args.length (devsCells i.one.args) ∧ Below wr.heap.size wr w') := fun W h => HCP.out W (hBW5.trans (h.mono hBW5.size))
     go_region_law (first | (refine step_raw_elems rfl _ _ rfl (w.heap.size + 1) f1 g1 s1 [(MElem.mk i.one.op i.one.args (.slice ac i.one.args.length cc))] (some ⟨w7.heap.size, 0, none⟩) 1 rfl rfl ((((HAS0.out.below hltP HB7.out).below hltP (below_alloc _ _)).own).crow) (fun _ => ⟨_, rfl, by exact cells2e rfl⟩) (fun m hm => by rw [List.mem_singleton.1 hm]; exact ownsRow_below (Joins.ownsRow_le HOC.out HBK.out) (below_alloc _ _)) (HAS0.out.own.crow.apart (w1 := w7) (b1 := wr.heap.size) (fun m hm => by rw [List.mem_singleton.1 hm]; exact HOC.out) (Nat.le_refl _) (List.pairwise_singleton _ _)) hl2 (by have := HB7.out.size; have := HBK.out; simp; omega) ?_; intro a6 c6 w6 hmr6 hgr6 hat6; have HM6 : Hid (ERow w6 (w.heap.size + 1) (.slice a6 (s1.length + 1) c6) (s1 ++ [(MElem.mk i.one.op i.one.args (.slice ac i.one.args.length cc))])) := hmr6; have HG6 : Hid ((w7.alloc (.cells #[.int .i64 i.one.op, .slice ac i.one.args.length cc] 26)).grownBy w6 (Value.slice f1 s1.length g1).ownBlock) := hgr6; have HT6 : Hid ((Value.slice a6 (s1.length + 1) c6).ownBlock = (Value.slice f1 s1.length g1).ownBlock ∨ (Value.slice a6 (s1.length + 1) c6).ownBlock = some (w7.alloc (.cells #[.int .i64 i.one.op, .slice ac i.one.args.length cc] 26)).heap.size) := hat6; obtain ⟨⟨-, q61, -, -⟩, t4, u4, nB0, nB1, u61⟩ := HX6.out w6 hgr6; clear hmr6 hgr6 hat6) | (go_simp; go_at_call 48; refine (HCP5.out _ (by exact (Below.refl _ _).drew)).mono ?_; rintro e w7 ⟨ac, cc, rfl, hoc, hb7⟩; have HOC : Hid (w7.ownsRow wr.heap.size 117 3 (.slice ac i.one.args.length cc) i.one.args.length (devsCells i.one.args)) := hoc; have HB7 : Hid (Below wr.heap.size wr w7) := hb7; obtain ⟨-, ⟨z70, z71, z72⟩, y47, f47⟩ := HXC.out w7 hb7; have HX6 : Hid (∀ w6, (w7.alloc (.cells #[.int .i64 i.one.op, .slice ac i.one.args.length cc] 26)).grownBy w6 (Value.slice f1 s1.length g1).ownBlock → (w6.cell? ⟨w0.heap.size, 0, none⟩ = some (.slice (some ⟨b, o, none⟩) L.length cap) ∧ w6.cell? ⟨w0.heap.size, 1, none⟩ = some (.int .i64 (J : Int)) ∧ w6.cell? ⟨b, o + J * 3 + 1, none⟩ = some (.int .i64 i.one.op) ∧ w6.cell? ⟨b, o + J * 3 + 2, none⟩ = some (.slice ta i.one.args.length ua)) ∧ w6.cell? ⟨w1.heap.size, 4, none⟩ = some (.slice f1 s1.length g1) ∧ w6.frozen? ⟨w1.heap.size, 4, none⟩ = false ∧ w0.heap.size ≠ w1.heap.size ∧ b ≠ w1.heap.size ∧ w6.frozen? ⟨w0.heap.size, 1, none⟩ = false) := HXG.out w7 hb7 ac cc; clear hoc hb7))
     all_goals
      go_wp2
      obtain ⟨m2, g1', g2', g3', g4', g5'⟩ := HEND.out w7 w6 ac cc a6 c6 HB7.out HOC.out HM6.out HG6.out HT6.out
      exact ⟨⟨r', cs2, m2, g1', g2', g3', g4', HCR.out, g5'⟩, by rw [g5'.pos, HPS.out]; omega⟩
    ·rw [Stil.CoilR, if_neg h10] at hcr
     obtain ⟨rfl, rfl⟩ := hcr
     have hma : (MArm.mk ⟨k1, o1, d1, .slice a1 d1.length c1, .slice b1 n1.length e1, n1⟩ (.slice f1 s1.length g1) s1 (.slice h1 ks1.length j1) ks1).arm = ⟨xn, xcs, []⟩ := arm_ext8 HMN.out (by have h2 := HMC.out; rw [List.append_nil] at h2; exact h2) HMK.out
     have HMA : Hid ((MArm.mk ⟨k1, o1, d1, .slice a1 d1.length c1, .slice b1 n1.length e1, n1⟩ (.slice f1 s1.length g1) s1 (.slice h1 ks1.length j1) ks1).arm = ⟨xn, xcs, []⟩) := hma
     clear hma hmn hmk hmc HMN HMK HMC HPS hrd has
     rcases HK.out with ⟨hc, rfl, rfl⟩ | ⟨hc1, hc7, y, rfl, hy⟩ | ⟨hc7, hf⟩
     ·have hc : i.code = 8 ∨ i.code = 9 ∨ i.code = 11 := hc
      have h7 : ¬ i.code < 7 := by omega
      have h77 : ¬ i.code = 7 := by omega
      clear HK HI
      go_upto_region 13 with (go_at_call 66; refine (HCO.out _ blA).mono ?_; rintro e w5 ⟨rfl, hb5⟩; have hBW5 : Below wr.heap.size wr w5 := blA)
      have has := HAS0.out.below hltP hBW5
      have hrd := HRD.out.below hBW5 HRD.out.lt
      clear HAS0 HRD HCO hBW5
      obtain ⟨_, ⟨y0, y1, y2, y3, y4, y5⟩, _⟩ := has.box
      obtain ⟨_, ⟨t0, t1, t2, t3, t4, t5⟩, hfz⟩ := has.res
      have f0 := hfz 0 (by omega)
      have f1' := hfz 1 (by omega)
      have f2 := hfz 2 (by omega)
      have f3 := hfz 3 (by omega)
      have f4 := hfz 4 (by omega)
      have f5 := hfz 5 (by omega)
      have HAE : Hid (AS w w5 w0.heap.size w1.heap.size (MArm.mk ⟨k1, o1, d1, .slice a1 d1.length c1, .slice b1 n1.length e1, n1⟩ (.slice f1 s1.length g1) s1 (.slice h1 ks1.length j1) ks1)) := has
      have HRE : Hid (Rd8 w0 w5 a cap L (i :: r')) := hrd
      clear has hrd hfz
      simp only at y0 y1 y2 y3 y4 y5
      go_wp2
      refine bodyPost_ret (v := .agg #[.int .i64 k1, .int .i64 o1, .slice a1 d1.length c1, .slice b1 n1.length e1, .slice f1 s1.length g1, .slice h1 ks1.length j1]) (by simp [results, Tryz.results37, go_sem, t0, t1, t2, t3, t4, t5]) rfl ?_
      exact ⟨⟨_, _, _, _, _, _, _, _, _, _, _, _, _, _, rfl, (HAE.out.ret _ _ _ _ _ _).1, HMA.out⟩, HRE.out.below (HAE.out.ret _ _ _ _ _ _).2.1 hltP, (HAE.out.ret _ _ _ _ _ _).2.2⟩
     ·have hc1 : 1 ≤ i.code := hc1
      have hc7 : i.code < 7 := hc7
      have hks0 : ks1.length = 0 := by
       have h2 := congrArg (fun a : Stil.Arm => a.kids.length) HMA.out
       rw [MArm.arm_eq] at h2
       simpa using h2
      go_upto_region 6 with (go_at_call 66; refine (HCO.out _ blA).mono ?_; rintro e w5 ⟨rfl, hb5⟩; have hBW5 : Below wr.heap.size wr w5 := blA)
      obtain ⟨wk, hwk⟩ : ∃ wk, wk = w5 := ⟨_, rfl⟩
      have HAS : Hid (AS w wk w0.heap.size w1.heap.size (MArm.mk ⟨k1, o1, d1, .slice a1 d1.length c1, .slice b1 n1.length e1, n1⟩ (.slice f1 s1.length g1) s1 (.slice h1 ks1.length j1) ks1)) := by rw [hwk]; exact HAS0.out.below hltP hBW5
      have HRK : Hid (Rd8 w0 wk a cap L (i :: r')) := by rw [hwk]; exact HRD.out.below hBW5 HRD.out.lt
      rw [← hwk]
      have HY : Hid (Stil.ArmR N [Stil.netZero] (i :: r') y r) := hy
      clear hwk hBW5 hb5 HAS0 HRD HCO hy HK
      have hBk : w1.heap.size < wk.heap.size := HAS.out.box.1
      have y5 : wk.cell? ⟨w1.heap.size, 5, none⟩ = some (.slice h1 ks1.length j1) := HAS.out.box.2.1.2.2.2.2.2
      have HF5 : Hid (wk.frozen? ⟨w1.heap.size, 5, none⟩ = false) := HAS.out.box.2.2 5 (by omega)
      have hvm : Value.slice h1 ks1.length j1 ∈ (MArm.mk ⟨k1, o1, d1, .slice a1 d1.length c1, .slice b1 n1.length e1, n1⟩ (.slice f1 s1.length g1) s1 (.slice h1 ks1.length j1) ks1).vals := by rw [MArm.vals_eq]; simp
      have HKB : Hid ((Value.slice h1 ks1.length j1).ownBlock ≠ some w1.heap.size) := HAS.out.off _ hvm
      have HBK : Hid (w.heap.size + 1 ≤ wk.heap.size) := by have := HAS.out.hB; show _ ≤ _; omega
      have hl2 : ks1.length + [(MArm.mk ⟨k1, o1, d1, .slice a1 d1.length c1, .slice b1 n1.length e1, n1⟩ (.slice f1 s1.length g1) s1 (.slice h1 ks1.length j1) ks1)].length ≤ 1000000 := by simp only [List.length_singleton]; omega
      have HIK : Hid (∀ W, Below wk.heap.size wk W → Calls Tryz.prog 37 #[.pointer (some ⟨w0.heap.size, 0, none⟩), .bool false] W fun e w' => ArmRet w' wk.heap.size y e ∧ Rd8 w0 w' a cap L r ∧ wk.grownBy w' (some w0.heap.size)) := fun W h => by
       refine (HI.out (i :: r') r y W HY.out (HRK.out.below h HRK.out.lt)).mono ?_
       rintro e w' ⟨⟨mk, mop, mds, xa, ya, mns, xb, yb, mcs, xc, yc, mks, xd, yd, he, hmo, hmn⟩, h2, h3⟩
       exact ⟨⟨mk, mop, mds, xa, ya, mns, xb, yb, mcs, xc, yc, mks, xd, yd, he, hmo.le h.size, hmn⟩, h2, gbelow8 h h3⟩
      clear hvm
      clear hks0
      go_region_law (first | (refine step_raw_arms rfl _ _ rfl (w.heap.size + 1) h1 j1 ks1 [(MArm.mk ⟨mk, mop, mds, .slice xa mds.length ya, .slice xb mns.length yb, mns⟩ (.slice xc mcs.length yc) mcs (.slice xd mks.length yd) mks)] (some ⟨w5.heap.size, 0, none⟩) 1 rfl rfl ((HS5.out.below hltP (below_alloc _ _)).own.krow) (fun _ => ⟨_, rfl, by exact cells6a⟩) (fun m hm => by rw [List.mem_singleton.1 hm]; exact ((HMO.out.1.le HBK.out).below (below_alloc _ _))) (HAS.out.own.krow.apart (w1 := w5) (b1 := wk.heap.size) (fun m hm => by rw [List.mem_singleton.1 hm]; exact HMO.out.1) (Nat.le_refl _) (by rw [aVals_one]; exact HMO.out.2)) hl2 (by have := HG5.out.size; have := HBK.out; simp; omega) ?_; intro a6 c6 w6 hmr6 hgr6 hat6; have HM6 : Hid (ARow w6 (w.heap.size + 1) (.slice a6 (ks1.length + 1) c6) (ks1 ++ [(MArm.mk ⟨mk, mop, mds, .slice xa mds.length ya, .slice xb mns.length yb, mns⟩ (.slice xc mcs.length yc) mcs (.slice xd mks.length yd) mks)])) := hmr6; have HG6 : Hid ((w5.alloc (.cells #[.int .i64 mk, .int .i64 mop, .slice xa mds.length ya, .slice xb mns.length yb, .slice xc mcs.length yc, .slice xd mks.length yd] 80)).grownBy w6 (Value.slice h1 ks1.length j1).ownBlock) := hgr6; have HT6 : Hid ((Value.slice a6 (ks1.length + 1) c6).ownBlock = (Value.slice h1 ks1.length j1).ownBlock ∨ (Value.slice a6 (ks1.length + 1) c6).ownBlock = some (w5.alloc (.cells #[.int .i64 mk, .int .i64 mop, .slice xa mds.length ya, .slice xb mns.length yb, .slice xc mcs.length yc, .slice xd mks.length yd] 80)).heap.size) := hat6; have hBa : w1.heap.size < (w5.alloc (.cells #[.int .i64 mk, .int .i64 mop, .slice xa mds.length ya, .slice xb mns.length yb, .slice xc mcs.length yc, .slice xd mks.length yd] 80)).heap.size := (by simp; omega); have t5 : w6.cell? ⟨w1.heap.size, 5, none⟩ = some (.slice h1 ks1.length j1) := (grownO_cell hgr6 hBa HKB.out).trans ((celA hBs5).trans y55); have u5 : w6.frozen? ⟨w1.heap.size, 5, none⟩ = false := (grownO_frozen hgr6 hBa HKB.out).trans (((below_alloc w5 (.cells #[.int .i64 mk, .int .i64 mop, .slice xa mds.length ya, .slice xb mns.length yb, .slice xc mcs.length yc, .slice xd mks.length yd] 80)).frozen (p := ⟨w1.heap.size, 5, none⟩) hBs5).trans HU5.out); clear hmr6 hgr6 hat6 hBa) | (go_simp; go_at_call 37; refine (HIK.out _ (by exact (Below.refl _ _).drew)).mono ?_; rintro e w5 ⟨⟨mk, mop, mds, xa, ya, mns, xb, yb, mcs, xc, yc, mks, xd, yd, rfl, hmo, hmn⟩, hrd5, hg5⟩; have HMO : Hid (AOwn w5 wk.heap.size (MArm.mk ⟨mk, mop, mds, .slice xa mds.length ya, .slice xb mns.length yb, mns⟩ (.slice xc mcs.length yc) mcs (.slice xd mks.length yd) mks)) := hmo; have HMN : Hid ((MArm.mk ⟨mk, mop, mds, .slice xa mds.length ya, .slice xb mns.length yb, mns⟩ (.slice xc mcs.length yc) mcs (.slice xd mks.length yd) mks).arm = y) := hmn; have HG5 : Hid (wk.grownBy w5 (some w0.heap.size)) := hg5; have HR5 : Hid (Rd8 w0 w5 a cap L r) := hrd5; have HS5 : Hid (AS w w5 w0.heap.size w1.heap.size (MArm.mk ⟨k1, o1, d1, .slice a1 d1.length c1, .slice b1 n1.length e1, n1⟩ (.slice f1 s1.length g1) s1 (.slice h1 ks1.length j1) ks1)) := HAS.out.grown hltP hg5; have hBs5 : w1.heap.size < w5.heap.size := Nat.lt_of_lt_of_le hBk hg5.size; have y55 : w5.cell? ⟨w1.heap.size, 5, none⟩ = some (.slice h1 ks1.length j1) := HS5.out.box.2.1.2.2.2.2.2; have HU5 : Hid (w5.frozen? ⟨w1.heap.size, 5, none⟩ = false) := HS5.out.box.2.2 5 (by omega); clear hmo hmn hrd5 hg5))
      all_goals
       go_upto_region 13 with fail
       obtain ⟨wz, hwz⟩ : ∃ wz, wz = w6.setCell ⟨w1.heap.size, 5, none⟩ (.slice a6 (ks1.length + 1) c6) := ⟨_, rfl⟩
       obtain ⟨m3, has3, hma3, hrd3⟩ : ∃ m3 : MArm, AS w wz w0.heap.size w1.heap.size m3 ∧ m3.arm = ⟨xn, xcs, [y]⟩ ∧ Rd8 w0 wz a cap L r := by
        rw [hwz]
        refine ⟨_, AS.kidEnd HAS.out hltP HG5.out HMO.out HM6.out HG6.out HT6.out, ?_, (((HR5.out.below (below_alloc _ _) HR5.out.lt).grown HG6.out (fun q e => by have := (HAS.out.own.1.lt _ _ (by rw [MArm.vals_eq]; simp) q e).1; omega)).setB (by omega) _)⟩
        have h2 := HMA.out
        rw [MArm.arm_eq] at h2 ⊢
        simp only [Stil.Arm.mk.injEq] at h2 ⊢
        refine ⟨h2.1, h2.2.1, ?_⟩
        rw [List.map_append, h2.2.2, List.map_singleton, HMN.out]
        rfl
       rw [← hwz]
       clear hwz t5 u5 HM6 HG6 HT6 HMO HMN HG5 HR5 HS5 hBs5 y55 HU5 HAS HRK HIK HKB HBK HF5 y5 hBk hl2 HMA HY
       obtain ⟨kz, oz, dz, az, cz, bz, ez, nz, fz, gz, sz, hz, jz, ksz, rfl⟩ := marm_form m3 has3.own.1
       have has := has3
       have hrd := hrd3
       have HMA : Hid ((MArm.mk ⟨kz, oz, dz, .slice az dz.length cz, .slice bz nz.length ez, nz⟩ (.slice fz sz.length gz) sz (.slice hz ksz.length jz) ksz).arm = ⟨xn, xcs, [y]⟩) := hma3
       clear has3 hrd3 hma3
       obtain ⟨_, ⟨y0, y1, y2, y3, y4, y5⟩, _⟩ := has.box
       obtain ⟨_, ⟨t0, t1, t2, t3, t4, t5⟩, hfz⟩ := has.res
       have f0 := hfz 0 (by omega)
       have f1' := hfz 1 (by omega)
       have f2 := hfz 2 (by omega)
       have f3 := hfz 3 (by omega)
       have f4 := hfz 4 (by omega)
       have f5 := hfz 5 (by omega)
       have HAE : Hid (AS w wz w0.heap.size w1.heap.size (MArm.mk ⟨kz, oz, dz, .slice az dz.length cz, .slice bz nz.length ez, nz⟩ (.slice fz sz.length gz) sz (.slice hz ksz.length jz) ksz)) := has
       have HRE : Hid (Rd8 w0 wz a cap L r) := hrd
       clear has hrd hfz
       simp only at y0 y1 y2 y3 y4 y5
       go_wp2
       refine bodyPost_ret (v := .agg #[.int .i64 kz, .int .i64 oz, .slice az dz.length cz, .slice bz nz.length ez, .slice fz sz.length gz, .slice hz ksz.length jz]) (by simp [results, Tryz.results37, go_sem, t0, t1, t2, t3, t4, t5]) rfl ?_
       exact ⟨⟨_, _, _, _, _, _, _, _, _, _, _, _, _, _, rfl, (HAE.out.ret _ _ _ _ _ _).1, HMA.out⟩, HRE.out.below (HAE.out.ret _ _ _ _ _ _).2.1 hltP, (HAE.out.ret _ _ _ _ _ _).2.2⟩
     ·have hc7 : i.code = 7 := hc7
      have h7 : ¬ i.code < 7 := by omega
      have HFK : Hid (Stil.ForkR (Stil.ArmR N [Stil.netZero]) xks (i :: r') r) := hf
      clear hf HK
      go_wp2_with (go_at_call 66; refine (HCO.out _ blA).mono ?_; rintro e w5 ⟨rfl, hb5⟩; have hBW5 : Below wr.heap.size wr w5 := blA)
      go_loopw [] (fun wq => ∃ (l' : List Stil.Inst) (ks' : List Stil.Arm) (m : MArm), AS w wq w0.heap.size w1.heap.size m ∧ m.arm.net = xn ∧ m.arm.coils = xcs ∧ m.arm.kids ++ ks' = xks ∧ Stil.ForkR (Stil.ArmR N [Stil.netZero]) ks' l' r ∧ Rd8 w0 wq a cap L l') (fun wq => L.length - posOf wq w0.heap.size)
      case atStart =>
       exact ⟨i :: r', xks, (MArm.mk ⟨k1, o1, d1, .slice a1 d1.length c1, .slice b1 n1.length e1, n1⟩ (.slice f1 s1.length g1) s1 (.slice h1 ks1.length j1) ks1), HAS0.out.below hltP hBW5, by rw [HMA.out], by rw [HMA.out], by rw [HMA.out]; rfl, HFK.out, HRD.out.below hBW5 HRD.out.lt⟩
      case round =>
       clear HAS0 HRD HCO HMA HFK hc7 h7 h10 hBW5 hB1 h1 j1 ks1 f1 g1 s1 b1 e1 n1 a1 c1 d1 k1 o1
       obtain ⟨l', ks', m, has, hmn, hmc, hmk, hfk, hrd⟩ := hrel
       cases l' with
       | nil => exact absurd hfk (by cases ks' <;> simp [Stil.ForkR])
       | cons i2 r2 =>
        obtain ⟨y, ks2, rfl, hcase⟩ := fork_code hfk
        have HCO : Hid (∀ W, Below wr.heap.size wr W → Calls Tryz.prog 66 #[.pointer (some ⟨w0.heap.size, 0, none⟩)] W fun e w' => e = .returned (.int .i64 i2.code) ∧ Below W.heap.size W w') := fun W h => s_code L r2 i2 a cap w0 W (hrd.below h hrd.lt) HAT.out hl
        have HPS : Hid (L.length - posOf wr w0.heap.size = r2.length + 1) := hrd.pos
        obtain ⟨k1, o1, d1, a1, c1, b1, e1, n1, f1, g1, s1, h1, j1, ks1, rfl⟩ := marm_form m has.own.1
        have hB1 := has.hB
        have hkk : ks1.length ≤ 1000 := by
         have h2 := congrArg List.length hmk
         rw [MArm.arm_eq] at h2
         simp only [List.length_append, List.length_map, List.length_cons] at h2
         omega
        obtain ⟨J, hJ1, hJ2, hJ, -⟩ := suffix_at hrd.suf
        have c1' := hrd.c1
        rw [← hJ1] at c1'
        have HXC : Hid (∀ W, Below wr.heap.size wr W → W.cell? ⟨w0.heap.size, 1, none⟩ = some (.int .i64 (J : Int)) ∧ W.frozen? ⟨w0.heap.size, 1, none⟩ = false) := fun W h => ⟨(h.cell (p := ⟨w0.heap.size, 1, none⟩) hrd.lt).trans c1', (h.frozen (p := ⟨w0.heap.size, 1, none⟩) hrd.lt).trans hrd.f1⟩
        have HGO : Hid (∀ W, Below wr.heap.size wr W → AS w (W.setCell ⟨w0.heap.size, 1, none⟩ (.int .i64 ((J : Int) + 1))) w0.heap.size w1.heap.size (MArm.mk ⟨k1, o1, d1, .slice a1 d1.length c1, .slice b1 n1.length e1, n1⟩ (.slice f1 s1.length g1) s1 (.slice h1 ks1.length j1) ks1) ∧ Rd8 w0 (W.setCell ⟨w0.heap.size, 1, none⟩ (.int .i64 ((J : Int) + 1))) a cap L r2) := fun W h => ⟨(has.below hltP h).grown hltP (grown_set (World.grownBy.refl _ _) _ _), (hrd.below h hrd.lt).next hJ2⟩
        have hwj : IntKind.i64.wrap ((J : Int) + 1) = (J : Int) + 1 := by rw [IntKind.wrap_i64]; omega
        have HMN0 : Hid ((MArm.mk ⟨k1, o1, d1, .slice a1 d1.length c1, .slice b1 n1.length e1, n1⟩ (.slice f1 s1.length g1) s1 (.slice h1 ks1.length j1) ks1).arm.net = xn) := hmn
        have HMC0 : Hid ((MArm.mk ⟨k1, o1, d1, .slice a1 d1.length c1, .slice b1 n1.length e1, n1⟩ (.slice f1 s1.length g1) s1 (.slice h1 ks1.length j1) ks1).arm.coils = xcs) := hmc
        have HMK0 : Hid ((MArm.mk ⟨k1, o1, d1, .slice a1 d1.length c1, .slice b1 n1.length e1, n1⟩ (.slice f1 s1.length g1) s1 (.slice h1 ks1.length j1) ks1).arm.kids ++ y :: ks2 = xks) := hmk
        clear hmn hmc hmk hfk hJ1 hJ2 c1' hrd has
        rcases hcase with ⟨rfl, h9, hy⟩ | ⟨hne, h78, lm, hy, hf2⟩
        ·have HY : Hid (Stil.ArmR N [Stil.netZero] r2 y r) := hy
         clear hy
         go_upto_region 12 with (go_at_call 66; refine (HCO.out _ blA).mono ?_; rintro e w5 ⟨rfl, hb5⟩; have hBW5 : Below wr.heap.size wr w5 := blA; obtain ⟨p1, q1⟩ := HXC.out w5 hBW5)
         obtain ⟨wk, hwk⟩ : ∃ wk, wk = w5.setCell ⟨w0.heap.size, 1, none⟩ (.int .i64 ((J : Int) + 1)) := ⟨_, rfl⟩
         have HAS : Hid (AS w wk w0.heap.size w1.heap.size (MArm.mk ⟨k1, o1, d1, .slice a1 d1.length c1, .slice b1 n1.length e1, n1⟩ (.slice f1 s1.length g1) s1 (.slice h1 ks1.length j1) ks1)) := by rw [hwk]; exact (HGO.out w5 hBW5).1
         have HRK : Hid (Rd8 w0 wk a cap L r2) := by rw [hwk]; exact (HGO.out w5 hBW5).2
         rw [← hwk]
         clear hwk hBW5 hb5 HCO HXC HGO p1 q1 HPS
         have hBk : w1.heap.size < wk.heap.size := HAS.out.box.1
         have y5 : wk.cell? ⟨w1.heap.size, 5, none⟩ = some (.slice h1 ks1.length j1) := HAS.out.box.2.1.2.2.2.2.2
         have HF5 : Hid (wk.frozen? ⟨w1.heap.size, 5, none⟩ = false) := HAS.out.box.2.2 5 (by omega)
         have hvm : Value.slice h1 ks1.length j1 ∈ (MArm.mk ⟨k1, o1, d1, .slice a1 d1.length c1, .slice b1 n1.length e1, n1⟩ (.slice f1 s1.length g1) s1 (.slice h1 ks1.length j1) ks1).vals := by rw [MArm.vals_eq]; simp
         have HKB : Hid ((Value.slice h1 ks1.length j1).ownBlock ≠ some w1.heap.size) := HAS.out.off _ hvm
         have HBK : Hid (w.heap.size + 1 ≤ wk.heap.size) := by have := HAS.out.hB; show _ ≤ _; omega
         have hl2 : ks1.length + [(MArm.mk ⟨k1, o1, d1, .slice a1 d1.length c1, .slice b1 n1.length e1, n1⟩ (.slice f1 s1.length g1) s1 (.slice h1 ks1.length j1) ks1)].length ≤ 1000000 := by simp only [List.length_singleton]; omega
         have HIK : Hid (∀ W, Below wk.heap.size wk W → Calls Tryz.prog 37 #[.pointer (some ⟨w0.heap.size, 0, none⟩), .bool false] W fun e w' => ArmRet w' wk.heap.size y e ∧ Rd8 w0 w' a cap L r ∧ wk.grownBy w' (some w0.heap.size)) := fun W h => by
          refine (HI.out r2 r y W HY.out (HRK.out.below h HRK.out.lt)).mono ?_
          rintro e w' ⟨⟨mk, mop, mds, xa, ya, mns, xb, yb, mcs, xc, yc, mks, xd, yd, he, hmo, hmn⟩, h2, h3⟩
          exact ⟨⟨mk, mop, mds, xa, ya, mns, xb, yb, mcs, xc, yc, mks, xd, yd, he, hmo.le h.size, hmn⟩, h2, gbelow8 h h3⟩
         clear hvm
         go_region_law (first | (refine step_raw_arms rfl _ _ rfl (w.heap.size + 1) h1 j1 ks1 [(MArm.mk ⟨mk, mop, mds, .slice xa mds.length ya, .slice xb mns.length yb, mns⟩ (.slice xc mcs.length yc) mcs (.slice xd mks.length yd) mks)] (some ⟨w5.heap.size, 0, none⟩) 1 rfl rfl ((HS5.out.below hltP (below_alloc _ _)).own.krow) (fun _ => ⟨_, rfl, by exact cells6a⟩) (fun m hm => by rw [List.mem_singleton.1 hm]; exact ((HMO.out.1.le HBK.out).below (below_alloc _ _))) (HAS.out.own.krow.apart (w1 := w5) (b1 := wk.heap.size) (fun m hm => by rw [List.mem_singleton.1 hm]; exact HMO.out.1) (Nat.le_refl _) (by rw [aVals_one]; exact HMO.out.2)) hl2 (by have := HG5.out.size; have := HBK.out; simp; omega) ?_; intro a6 c6 w6 hmr6 hgr6 hat6; have HM6 : Hid (ARow w6 (w.heap.size + 1) (.slice a6 (ks1.length + 1) c6) (ks1 ++ [(MArm.mk ⟨mk, mop, mds, .slice xa mds.length ya, .slice xb mns.length yb, mns⟩ (.slice xc mcs.length yc) mcs (.slice xd mks.length yd) mks)])) := hmr6; have HG6 : Hid ((w5.alloc (.cells #[.int .i64 mk, .int .i64 mop, .slice xa mds.length ya, .slice xb mns.length yb, .slice xc mcs.length yc, .slice xd mks.length yd] 80)).grownBy w6 (Value.slice h1 ks1.length j1).ownBlock) := hgr6; have HT6 : Hid ((Value.slice a6 (ks1.length + 1) c6).ownBlock = (Value.slice h1 ks1.length j1).ownBlock ∨ (Value.slice a6 (ks1.length + 1) c6).ownBlock = some (w5.alloc (.cells #[.int .i64 mk, .int .i64 mop, .slice xa mds.length ya, .slice xb mns.length yb, .slice xc mcs.length yc, .slice xd mks.length yd] 80)).heap.size) := hat6; have hBa : w1.heap.size < (w5.alloc (.cells #[.int .i64 mk, .int .i64 mop, .slice xa mds.length ya, .slice xb mns.length yb, .slice xc mcs.length yc, .slice xd mks.length yd] 80)).heap.size := (by simp; omega); have t5 : w6.cell? ⟨w1.heap.size, 5, none⟩ = some (.slice h1 ks1.length j1) := (grownO_cell hgr6 hBa HKB.out).trans ((celA hBs5).trans y55); have u5 : w6.frozen? ⟨w1.heap.size, 5, none⟩ = false := (grownO_frozen hgr6 hBa HKB.out).trans (((below_alloc w5 (.cells #[.int .i64 mk, .int .i64 mop, .slice xa mds.length ya, .slice xb mns.length yb, .slice xc mcs.length yc, .slice xd mks.length yd] 80)).frozen (p := ⟨w1.heap.size, 5, none⟩) hBs5).trans HU5.out); clear hmr6 hgr6 hat6 hBa) | (go_simp; go_at_call 37; refine (HIK.out _ (by exact (Below.refl _ _).drew)).mono ?_; rintro e w5 ⟨⟨mk, mop, mds, xa, ya, mns, xb, yb, mcs, xc, yc, mks, xd, yd, rfl, hmo, hmn⟩, hrd5, hg5⟩; have HMO : Hid (AOwn w5 wk.heap.size (MArm.mk ⟨mk, mop, mds, .slice xa mds.length ya, .slice xb mns.length yb, mns⟩ (.slice xc mcs.length yc) mcs (.slice xd mks.length yd) mks)) := hmo; have HMN : Hid ((MArm.mk ⟨mk, mop, mds, .slice xa mds.length ya, .slice xb mns.length yb, mns⟩ (.slice xc mcs.length yc) mcs (.slice xd mks.length yd) mks).arm = y) := hmn; have HG5 : Hid (wk.grownBy w5 (some w0.heap.size)) := hg5; have HR5 : Hid (Rd8 w0 w5 a cap L r) := hrd5; have HS5 : Hid (AS w w5 w0.heap.size w1.heap.size (MArm.mk ⟨k1, o1, d1, .slice a1 d1.length c1, .slice b1 n1.length e1, n1⟩ (.slice f1 s1.length g1) s1 (.slice h1 ks1.length j1) ks1)) := HAS.out.grown hltP hg5; have hBs5 : w1.heap.size < w5.heap.size := Nat.lt_of_lt_of_le hBk hg5.size; have y55 : w5.cell? ⟨w1.heap.size, 5, none⟩ = some (.slice h1 ks1.length j1) := HS5.out.box.2.1.2.2.2.2.2; have HU5 : Hid (w5.frozen? ⟨w1.heap.size, 5, none⟩ = false) := HS5.out.box.2.2 5 (by omega); clear hmo hmn hrd5 hg5))
         all_goals
          go_upto_region 13 with fail
          obtain ⟨wz, hwz⟩ : ∃ wz, wz = w6.setCell ⟨w1.heap.size, 5, none⟩ (.slice a6 (ks1.length + 1) c6) := ⟨_, rfl⟩
          obtain ⟨m3, has3, hma3, hrd3⟩ : ∃ m3 : MArm, AS w wz w0.heap.size w1.heap.size m3 ∧ m3.arm = ⟨xn, xcs, xks⟩ ∧ Rd8 w0 wz a cap L r := by
           rw [hwz]
           refine ⟨_, AS.kidEnd HAS.out hltP HG5.out HMO.out HM6.out HG6.out HT6.out, ?_, (((HR5.out.below (below_alloc _ _) HR5.out.lt).grown HG6.out (fun q e => by have := (HAS.out.own.1.lt _ _ (by rw [MArm.vals_eq]; simp) q e).1; omega)).setB (by omega) _)⟩
           refine arm_ext8 ?_ ?_ ?_
           ·have h2 := HMN0.out
            rw [MArm.arm_eq] at h2 ⊢
            exact h2
           ·have h2 := HMC0.out
            rw [MArm.arm_eq] at h2 ⊢
            exact h2
           ·have h2 := HMK0.out
            rw [MArm.arm_eq] at h2 ⊢
            simp only [List.map_append] at h2 ⊢
            rw [List.map_singleton, HMN.out]
            exact h2
          rw [← hwz]
          clear hwz t5 u5 HM6 HG6 HT6 HMO HMN HG5 HR5 HS5 hBs5 y55 HU5 HAS HRK HIK HKB HBK HF5 y5 hBk hl2 HMN0 HMC0 HMK0 HY
          obtain ⟨kz, oz, dz, az, cz, bz, ez, nz, fz, gz, sz, hz, jz, ksz, rfl⟩ := marm_form m3 has3.own.1
          have has := has3
          have hrd := hrd3
          have HMA : Hid ((MArm.mk ⟨kz, oz, dz, .slice az dz.length cz, .slice bz nz.length ez, nz⟩ (.slice fz sz.length gz) sz (.slice hz ksz.length jz) ksz).arm = ⟨xn, xcs, xks⟩) := hma3
          clear has3 hrd3 hma3
          obtain ⟨_, ⟨y0, y1, y2, y3, y4, y5⟩, _⟩ := has.box
          obtain ⟨_, ⟨t0, t1, t2, t3, t4, t5⟩, hfz⟩ := has.res
          have f0 := hfz 0 (by omega)
          have f1' := hfz 1 (by omega)
          have f2 := hfz 2 (by omega)
          have f3 := hfz 3 (by omega)
          have f4 := hfz 4 (by omega)
          have f5 := hfz 5 (by omega)
          have HAE : Hid (AS w wz w0.heap.size w1.heap.size (MArm.mk ⟨kz, oz, dz, .slice az dz.length cz, .slice bz nz.length ez, nz⟩ (.slice fz sz.length gz) sz (.slice hz ksz.length jz) ksz)) := has
          have HRE : Hid (Rd8 w0 wz a cap L r) := hrd
          clear has hrd hfz
          simp only at y0 y1 y2 y3 y4 y5
          go_wp2
          refine bodyPost_ret (v := .agg #[.int .i64 kz, .int .i64 oz, .slice az dz.length cz, .slice bz nz.length ez, .slice fz sz.length gz, .slice hz ksz.length jz]) (by simp [results, Tryz.results37, go_sem, t0, t1, t2, t3, t4, t5]) rfl ?_
          exact ⟨⟨_, _, _, _, _, _, _, _, _, _, _, _, _, _, rfl, (HAE.out.ret _ _ _ _ _ _).1, HMA.out⟩, HRE.out.below (HAE.out.ret _ _ _ _ _ _).2.1 hltP, (HAE.out.ret _ _ _ _ _ _).2.2⟩
        ·have HY : Hid (Stil.ArmR N [Stil.netZero] r2 y lm) := hy
         have HF2 : Hid (Stil.ForkR (Stil.ArmR N [Stil.netZero]) ks2 lm r) := hf2
         have h9 : ¬ i2.code = 9 := by omega
         clear hy hf2
         go_upto_region 10 with (go_at_call 66; refine (HCO.out _ blA).mono ?_; rintro e w5 ⟨rfl, hb5⟩; have hBW5 : Below wr.heap.size wr w5 := blA; obtain ⟨p1, q1⟩ := HXC.out w5 hBW5)
         obtain ⟨wk, hwk⟩ : ∃ wk, wk = w5.setCell ⟨w0.heap.size, 1, none⟩ (.int .i64 ((J : Int) + 1)) := ⟨_, rfl⟩
         have HAS : Hid (AS w wk w0.heap.size w1.heap.size (MArm.mk ⟨k1, o1, d1, .slice a1 d1.length c1, .slice b1 n1.length e1, n1⟩ (.slice f1 s1.length g1) s1 (.slice h1 ks1.length j1) ks1)) := by rw [hwk]; exact (HGO.out w5 hBW5).1
         have HRK : Hid (Rd8 w0 wk a cap L r2) := by rw [hwk]; exact (HGO.out w5 hBW5).2
         rw [← hwk]
         clear hwk hBW5 hb5 HCO HXC HGO p1 q1
         have hBk : w1.heap.size < wk.heap.size := HAS.out.box.1
         have y5 : wk.cell? ⟨w1.heap.size, 5, none⟩ = some (.slice h1 ks1.length j1) := HAS.out.box.2.1.2.2.2.2.2
         have HF5 : Hid (wk.frozen? ⟨w1.heap.size, 5, none⟩ = false) := HAS.out.box.2.2 5 (by omega)
         have hvm : Value.slice h1 ks1.length j1 ∈ (MArm.mk ⟨k1, o1, d1, .slice a1 d1.length c1, .slice b1 n1.length e1, n1⟩ (.slice f1 s1.length g1) s1 (.slice h1 ks1.length j1) ks1).vals := by rw [MArm.vals_eq]; simp
         have HKB : Hid ((Value.slice h1 ks1.length j1).ownBlock ≠ some w1.heap.size) := HAS.out.off _ hvm
         have HBK : Hid (w.heap.size + 1 ≤ wk.heap.size) := by have := HAS.out.hB; show _ ≤ _; omega
         have hl2 : ks1.length + [(MArm.mk ⟨k1, o1, d1, .slice a1 d1.length c1, .slice b1 n1.length e1, n1⟩ (.slice f1 s1.length g1) s1 (.slice h1 ks1.length j1) ks1)].length ≤ 1000000 := by simp only [List.length_singleton]; omega
         have HIK : Hid (∀ W, Below wk.heap.size wk W → Calls Tryz.prog 37 #[.pointer (some ⟨w0.heap.size, 0, none⟩), .bool false] W fun e w' => ArmRet w' wk.heap.size y e ∧ Rd8 w0 w' a cap L lm ∧ wk.grownBy w' (some w0.heap.size)) := fun W h => by
          refine (HI.out r2 lm y W HY.out (HRK.out.below h HRK.out.lt)).mono ?_
          rintro e w' ⟨⟨mk, mop, mds, xa, ya, mns, xb, yb, mcs, xc, yc, mks, xd, yd, he, hmo, hmn⟩, h2, h3⟩
          exact ⟨⟨mk, mop, mds, xa, ya, mns, xb, yb, mcs, xc, yc, mks, xd, yd, he, hmo.le h.size, hmn⟩, h2, gbelow8 h h3⟩
         clear hvm
         go_region_law (first | (refine step_raw_arms rfl _ _ rfl (w.heap.size + 1) h1 j1 ks1 [(MArm.mk ⟨mk, mop, mds, .slice xa mds.length ya, .slice xb mns.length yb, mns⟩ (.slice xc mcs.length yc) mcs (.slice xd mks.length yd) mks)] (some ⟨w5.heap.size, 0, none⟩) 1 rfl rfl ((HS5.out.below hltP (below_alloc _ _)).own.krow) (fun _ => ⟨_, rfl, by exact cells6a⟩) (fun m hm => by rw [List.mem_singleton.1 hm]; exact ((HMO.out.1.le HBK.out).below (below_alloc _ _))) (HAS.out.own.krow.apart (w1 := w5) (b1 := wk.heap.size) (fun m hm => by rw [List.mem_singleton.1 hm]; exact HMO.out.1) (Nat.le_refl _) (by rw [aVals_one]; exact HMO.out.2)) hl2 (by have := HG5.out.size; have := HBK.out; simp; omega) ?_; intro a6 c6 w6 hmr6 hgr6 hat6; have HM6 : Hid (ARow w6 (w.heap.size + 1) (.slice a6 (ks1.length + 1) c6) (ks1 ++ [(MArm.mk ⟨mk, mop, mds, .slice xa mds.length ya, .slice xb mns.length yb, mns⟩ (.slice xc mcs.length yc) mcs (.slice xd mks.length yd) mks)])) := hmr6; have HG6 : Hid ((w5.alloc (.cells #[.int .i64 mk, .int .i64 mop, .slice xa mds.length ya, .slice xb mns.length yb, .slice xc mcs.length yc, .slice xd mks.length yd] 80)).grownBy w6 (Value.slice h1 ks1.length j1).ownBlock) := hgr6; have HT6 : Hid ((Value.slice a6 (ks1.length + 1) c6).ownBlock = (Value.slice h1 ks1.length j1).ownBlock ∨ (Value.slice a6 (ks1.length + 1) c6).ownBlock = some (w5.alloc (.cells #[.int .i64 mk, .int .i64 mop, .slice xa mds.length ya, .slice xb mns.length yb, .slice xc mcs.length yc, .slice xd mks.length yd] 80)).heap.size) := hat6; have hBa : w1.heap.size < (w5.alloc (.cells #[.int .i64 mk, .int .i64 mop, .slice xa mds.length ya, .slice xb mns.length yb, .slice xc mcs.length yc, .slice xd mks.length yd] 80)).heap.size := (by simp; omega); have t5 : w6.cell? ⟨w1.heap.size, 5, none⟩ = some (.slice h1 ks1.length j1) := (grownO_cell hgr6 hBa HKB.out).trans ((celA hBs5).trans y55); have u5 : w6.frozen? ⟨w1.heap.size, 5, none⟩ = false := (grownO_frozen hgr6 hBa HKB.out).trans (((below_alloc w5 (.cells #[.int .i64 mk, .int .i64 mop, .slice xa mds.length ya, .slice xb mns.length yb, .slice xc mcs.length yc, .slice xd mks.length yd] 80)).frozen (p := ⟨w1.heap.size, 5, none⟩) hBs5).trans HU5.out); clear hmr6 hgr6 hat6 hBa) | (go_simp; go_at_call 37; refine (HIK.out _ (by exact (Below.refl _ _).drew)).mono ?_; rintro e w5 ⟨⟨mk, mop, mds, xa, ya, mns, xb, yb, mcs, xc, yc, mks, xd, yd, rfl, hmo, hmn⟩, hrd5, hg5⟩; have HMO : Hid (AOwn w5 wk.heap.size (MArm.mk ⟨mk, mop, mds, .slice xa mds.length ya, .slice xb mns.length yb, mns⟩ (.slice xc mcs.length yc) mcs (.slice xd mks.length yd) mks)) := hmo; have HMN : Hid ((MArm.mk ⟨mk, mop, mds, .slice xa mds.length ya, .slice xb mns.length yb, mns⟩ (.slice xc mcs.length yc) mcs (.slice xd mks.length yd) mks).arm = y) := hmn; have HG5 : Hid (wk.grownBy w5 (some w0.heap.size)) := hg5; have HR5 : Hid (Rd8 w0 w5 a cap L lm) := hrd5; have HS5 : Hid (AS w w5 w0.heap.size w1.heap.size (MArm.mk ⟨k1, o1, d1, .slice a1 d1.length c1, .slice b1 n1.length e1, n1⟩ (.slice f1 s1.length g1) s1 (.slice h1 ks1.length j1) ks1)) := HAS.out.grown hltP hg5; have hBs5 : w1.heap.size < w5.heap.size := Nat.lt_of_lt_of_le hBk hg5.size; have y55 : w5.cell? ⟨w1.heap.size, 5, none⟩ = some (.slice h1 ks1.length j1) := HS5.out.box.2.1.2.2.2.2.2; have HU5 : Hid (w5.frozen? ⟨w1.heap.size, 5, none⟩ = false) := HS5.out.box.2.2 5 (by omega); clear hmo hmn hrd5 hg5))
         all_goals
          go_wp2
          have hlm := HY.out.suffix.length_le
          have hrz : Rd8 w0 (w6.setCell ⟨w1.heap.size, 5, none⟩ (.slice a6 (ks1.length + 1) c6)) a cap L lm := (((HR5.out.below (below_alloc _ _) HR5.out.lt).grown HG6.out (fun q e => by have := (HAS.out.own.1.lt _ _ (by rw [MArm.vals_eq]; simp) q e).1; omega)).setB (by omega) _)
          refine ⟨⟨lm, ks2, _, AS.kidEnd HAS.out hltP HG5.out HMO.out HM6.out HG6.out HT6.out, ?_, ?_, ?_, HF2.out, hrz⟩, by rw [hrz.pos, HPS.out]; omega⟩
          ·have h2 := HMN0.out
           rw [MArm.arm_eq] at h2 ⊢
           exact h2
          ·have h2 := HMC0.out
           rw [MArm.arm_eq] at h2 ⊢
           exact h2
          ·have h2 := HMK0.out
           rw [MArm.arm_eq] at h2 ⊢
           simp only [List.map_append, List.append_assoc] at h2 ⊢
           rw [List.map_singleton, HMN.out]
           exact h2
end Go.Proofs.YtpaljcoojkbhnaaGreatDoor
