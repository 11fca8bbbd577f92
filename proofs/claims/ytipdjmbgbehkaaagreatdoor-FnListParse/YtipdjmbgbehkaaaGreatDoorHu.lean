/- S15, S16: texts put together. -/
import Derived.Test.YtipdjmbgbehkaaaGreatDoorHr
import Derived.Test.YtipdjmbgbehkaaaGreatDoorS7
import Derived.Test.YtipdjmbgbehkaaaGreatDoorM30
import Derived.Lib.QuietBelow
import Derived.BigQuiet
set_option maxHeartbeats 4000000
set_option maxRecDepth 100000
/- Contracts of the specification's chapter 5: ListLine, ListText, ListSame of two lists that are one. -/
namespace Go.Proofs.YtipdjmbgbehkaaaGreatDoor
open Go.RowKit Go.Sort Go.BigFrame
theorem s_listLine (i : Stil.Inst) (av : Value) (w : World) (hav : DevsAt w av i.one.args) (hf : i.fits) :
  Calls Tryz.prog 19 #[.agg #[.int .i64 i.code, .int .i64 i.one.op, av]] w fun e w' => e = .returned (.string ⟨(Stil.lineText i).toArray⟩) ∧ Below w.heap.size w w' := by
 have HOK : Hid (∀ W, Below w.heap.size w W → Calls Tryz.prog 10 #[.agg #[.int .i64 i.code, .int .i64 i.one.op, av]] W fun e w' => e = .returned (.bool (Stil.listOk i)) ∧ Below W.heap.size W w') := fun W h => s_listOk i av W (hav.below h) hf
 have HTX : Hid (∀ W, Below w.heap.size w W → Calls Tryz.prog 50 #[.agg #[.int .i64 i.one.op, av]] W fun e w' => e = .returned (.string ⟨i.one.text.toArray⟩) ∧ Below W.heap.size W w') := fun W h => s_elemText i.one.op av i.one.args W (hav.below h) hf.2.2.2 (by have := hf.2.2.1; omega)
 have hav2 := hav
 obtain ⟨p0, k0, hv, _⟩ := hav2
 have HLT : Hid (Stil.lineText i = if Stil.listOk i then (if Stil.noElem i.one then Stil.lwordOf i.code else Stil.lwordOf i.code ++ 32 :: i.one.text) else []) := rfl
 have HCO : Hid (Stil.listOk i = true → ∀ W, Calls Tryz.prog 49 #[.int .i64 i.code] W fun e w' => e = .returned (.string ⟨(Stil.lwordOf i.code).toArray⟩) ∧ Below W.heap.size W w') := by
  intro hok W
  have hc := Stil.ok_code hok
  have e : ((i.code.toNat : Nat) : Int) = i.code := by omega
  have := s_listWord i.code.toNat W (by omega) (by omega)
  rw [e] at this
  exact this
 have HFO : Hid (Stil.listOk i = true → (Stil.noElem i.one = true ∧ ¬ i.code ≤ 3 ∧ i.code ≠ 10) ∨ (Stil.noElem i.one = false ∧ (i.code ≤ 3 ∨ i.code = 10))) := by
  intro hok
  rcases Stil.ok_forms hok with h | ⟨h1, _, h2⟩
  ·exact .inl h
  ·exact .inr ⟨h1, h2⟩
 have htl : i.one.text.length ≤ 100 := Stil.text_short i.one.op i.one.args
 have hwl := (Stil.word_high i.code).1
 obtain ⟨tx, htx⟩ : ∃ t, t = i.one.text := ⟨_, rfl⟩
 obtain ⟨lw, hlw2⟩ : ∃ t, t = Stil.lwordOf i.code := ⟨_, rfl⟩
 obtain ⟨R, hR⟩ : ∃ R, R = Stil.lineText i := ⟨_, rfl⟩
 rw [← htx] at HTX HLT htl
 rw [← hlw2] at HLT HCO hwl
 rw [← hR] at HLT ⊢
 obtain ⟨c, op, ds⟩ := i
 simp only at HOK HTX HCO HFO hv ⊢
 subst hv
 clear hav hf htx hlw2 hR
 cases hok : Stil.listOk ⟨c, op, ds⟩
 ·have HR : Hid (R = []) := by show _ = _; rw [HLT.out, hok]; rfl
  rw [hok] at HOK
  clear HLT HCO hok HTX HFO
  go_enter Tryz.func19, Tryz.ntmps19
  go_wp2_with (go_at_call 10; refine (HOK.out _ blA).mono ?_; rintro e w1 ⟨rfl, hb1⟩)
  go_ret
  exact ⟨ret_string (by rw [HR.out]), blA⟩
 ·have HC2 : Hid (∀ W, Calls Tryz.prog 49 #[.int .i64 c] W fun e w' => e = .returned (.string ⟨lw.toArray⟩) ∧ Below W.heap.size W w') := HCO.out hok
  rcases HFO.out hok with ⟨hn, h3, h10⟩ | ⟨hn, hcc⟩
  ·have HR : Hid (R = lw) := by show _ = _; rw [HLT.out, hok, hn]; rfl
   have e10 : (c == 10) = false := beq_eq_false_iff_ne.2 h10
   rw [hok] at HOK
   clear HLT HCO hok HTX HFO hn h10
   go_enter Tryz.func19, Tryz.ntmps19
   go_wp2_with (first | (go_at_call 10; refine (HOK.out _ blA).mono ?_; rintro e w1 ⟨rfl, hb1⟩; obtain ⟨hc1, hf1⟩ := bcell hb1; have hz0 : w.heap.size < w1.heap.size := Nat.lt_of_lt_of_le (by simp) hb1.size) | (go_at_call 49; refine (HC2.out _).mono ?_; rintro e w3 ⟨rfl, hb3⟩))
   go_ret
   exact ⟨ret_string (by rw [HR.out]), blA⟩
  ·have HR : Hid (R = lw ++ 32 :: tx) := by show _ = _; rw [HLT.out, hok, hn]; rfl
   rw [hok] at HOK
   have hcd : c ≤ 3 ∨ (¬ c ≤ 3 ∧ (c == 10) = true) := by
    rcases hcc with h | rfl
    ·exact .inl h
    ·exact .inr ⟨by decide, rfl⟩
   clear HLT HCO hok HFO hn hcc
   rcases hcd with h3 | ⟨h3, h10⟩
   all_goals
    go_enter Tryz.func19, Tryz.ntmps19
    go_upto_region 4 with (go_at_call 10; refine (HOK.out _ blA).mono ?_; rintro e w1 ⟨rfl, hb1⟩; obtain ⟨hc1, hf1⟩ := bcell hb1; have hz0 : w.heap.size < w1.heap.size := Nat.lt_of_lt_of_le (by simp) hb1.size)
    have q0 : w1.cell? ⟨w.heap.size, 0, none⟩ = some (.int .i64 c) := by rw [hc1 _ _ (by simp)]; simp [go_sem]
    have q1 : w1.cell? ⟨w.heap.size, 1, none⟩ = some (.int .i64 op) := by rw [hc1 _ _ (by simp)]; simp [go_sem]
    have q2 : w1.cell? ⟨w.heap.size, 2, none⟩ = some (.slice p0 ds.length k0) := by rw [hc1 _ _ (by simp)]; simp [go_sem]
    have hbw : Below w.heap.size w w1 := blA
    have r0 := cell_regrown q0
    have r1 := cell_regrown q1
    have r2 := cell_regrown q2
    clear hc1 hf1
    refine wp_region_quiet_below (by kernel_rfl) (by kernel_rfl) ?_
    repeat (go_big_quiet_step ((first | exact Calls.regrown_of (HC2.out _) | exact Calls.regrown_of (HTX.out _ (hbw.trans ((below_regrown _ _ _).mono hbw.size))))))
    refine wpQuiet_nil ?_
    intro _ hw'
    obtain ⟨⟨dq, osq⟩, hw''⟩ := hw'
    subst hw''
    go_wp2
    go_ret
    exact ⟨ret_string (by rw [HR.out]; rw [ba_app2, ba_app]; simp), hbw.trans ((below_regrown _ _ _).mono hbw.size)⟩
theorem ba_app3 (a b : List UInt8) (x : UInt8) : (((⟨a.toArray⟩ : ByteArray) ++ (⟨b.toArray⟩ : ByteArray)) ++ (⟨#[x]⟩ : ByteArray)) = ⟨(a ++ (b ++ [x])).toArray⟩ := by
 rw [ba_app a b, ba_app2 (a ++ b) x, List.append_assoc]
theorem lines_next (l : List Stil.Inst) (j : Nat) (h : j < l.length) : Stil.linesText (l.take (j + 1)) = Stil.linesText (l.take j) ++ (Stil.lineText l[j] ++ [10]) := by
 rw [List.take_succ_eq_append_getElem h]
 unfold Stil.linesText
 rw [List.map_append, List.flatten_append]
 simp
theorem s_listText (l : List Stil.Inst) (v : Value) (w : World) (hat : InstsAt w v l) (hl : l.length ≤ 1048576) (hft : ∀ x ∈ l, x.fits) :
  Calls Tryz.prog 9 #[v] w fun e w' => e = .returned (.string ⟨(Stil.listText l).toArray⟩) ∧ Below w.heap.size w w' := by
 have HF : Hid (∀ x ∈ l, x.fits) := hft
 obtain ⟨a, cap, rfl, hc⟩ := hat
 have HC : Hid (∀ i (h : i < l.length), ∃ b o, a = some ⟨b, o, none⟩ ∧ b < w.heap.size ∧ InstAt w b (o + i * 3) l[i]) := hc
 clear hc hft
 by_cases hbig : 1000 < l.length
 ·have HT : Hid (Stil.listText l = []) := by show _ = _; unfold Stil.listText; rw [if_pos (.inl hbig)]
  clear HC HF
  obtain ⟨n, hn⟩ : ∃ n, n = l.length := ⟨_, rfl⟩
  rw [← hn] at hbig hl ⊢
  clear hn
  go_enter Tryz.func9, Tryz.ntmps9
  go_wp2
  go_ret
  exact ⟨ret_string (by rw [HT.out]), Below.refl _ _⟩
 obtain ⟨T, hT⟩ : ∃ T, T = Stil.listText l := ⟨_, rfl⟩
 have HTT : Hid (T = if 1000 < l.length ∨ ∃ i ∈ l, Stil.listOk i = false then [] else Stil.linesText l) := hT
 rw [← hT]
 obtain ⟨n, hn⟩ : ∃ n, n = l.length := ⟨_, rfl⟩
 have HN : Hid (n = l.length) := hn
 rw [← hn] at hbig hl ⊢
 clear hn hT
 have hnb : ¬ (1000 : Int) < (n : Int) := by omega
 go_enter Tryz.func9, Tryz.ntmps9
 go_wp2
 go_loopw [3, 4] (fun s i wr => ∃ j : Nat, j ≤ n ∧ i = .int .i64 (j : Int) ∧ (∀ k (h : k < l.length), k < j → Stil.listOk l[k] = true) ∧ s = .string ⟨(Stil.linesText (l.take j)).toArray⟩ ∧ Below w.heap.size w wr) (fun _ i _ => n - (intOf i).toNat)
 case atStart => exact ⟨0, Nat.zero_le _, rfl, fun k _ hk => absurd hk (Nat.not_lt_zero _), rfl, Below.refl _ _⟩
 case round =>
  obtain ⟨j, hj, rfl, hok, rfl, hB⟩ := hrel
  have HOK : Hid (∀ k (h : k < l.length), k < j → Stil.listOk l[k] = true) := hok
  have hzr := hB.size
  clear hok
  by_cases hlt : j < n
  ·have hlt' : j < l.length := by have := HN.out; omega
   obtain ⟨b, o, rfl, hbl, hn0⟩ := HC.out j hlt'
   obtain ⟨x0, x1, kav, x2, hav⟩ := hn0.below hB hbl
   have hfx := HF.out _ (List.getElem_mem hlt')
   have HLI : Hid (∀ W, Below wr.heap.size wr W → Calls Tryz.prog 19 #[.agg #[.int .i64 l[j].code, .int .i64 l[j].one.op, kav]] W fun e w' => e = .returned (.string ⟨(Stil.lineText l[j]).toArray⟩) ∧ Below W.heap.size W w') := fun W h => s_listLine l[j] kav W (hav.below h) hfx
   have HKI : Hid (∀ W, Below wr.heap.size wr W → Calls Tryz.prog 10 #[.agg #[.int .i64 l[j].code, .int .i64 l[j].one.op, kav]] W fun e w' => e = .returned (.bool (Stil.listOk l[j])) ∧ Below W.heap.size W w') := fun W h => s_listOk l[j] kav W (hav.below h) hfx
   have hsn := lines_next l j hlt'
   have hsh := Stil.line_short l[j]
   have hln := Stil.lines_len (l.take j)
   have hoj : Stil.listOk l[j] = false → T = [] := fun h => by rw [HTT.out, if_pos (.inr ⟨l[j], List.getElem_mem hlt', h⟩)]
   have HON : Hid (Stil.listOk l[j] = true → ∀ k (h : k < l.length), k < j + 1 → Stil.listOk l[k] = true) := by
    intro h k hk hkj
    by_cases e : k < j
    ·exact HOK.out k hk e
    ·obtain rfl : k = j := by omega
     exact h
   have htl : (l.take j).length ≤ 1000 := by rw [List.length_take]; omega
   obtain ⟨I, hI⟩ : ∃ I, I = l[j] := ⟨_, rfl⟩
   have HX2 : Hid (wr.cell? ⟨b, o + j * 3 + 2, none⟩ = some kav) := x2
   rw [← hI] at x0 x1 HLI HKI hsn hsh hoj HON
   obtain ⟨t0, u0, rfl, _⟩ := hav
   obtain ⟨na, hna⟩ : ∃ n, n = l[j].one.args.length := ⟨_, rfl⟩
   rw [← hna] at x2 HLI HKI
   obtain ⟨X, hX⟩ : ∃ X, X = Stil.lineText I := ⟨_, rfl⟩
   rw [← hX] at HLI hsn hsh
   obtain ⟨P0, hP0⟩ : ∃ P, P = Stil.linesText (l.take j) := ⟨_, rfl⟩
   rw [← hP0] at hsn hln ⊢
   have HSN : Hid (Stil.linesText (l.take (j + 1)) = P0 ++ (X ++ [10])) := hsn
   have hpl : P0.length ≤ 50000 := by omega
   obtain ⟨ok, hok⟩ : ∃ k, k = Stil.listOk I := ⟨_, rfl⟩
   rw [← hok] at hoj HON HKI
   have HRE : Hid (∀ W, Below wr.heap.size wr W → W.cell? ⟨b, o + j * 3, none⟩ = some (.int .i64 I.code) ∧ W.cell? ⟨b, o + j * 3 + 1, none⟩ = some (.int .i64 I.one.op) ∧ W.cell? ⟨b, o + j * 3 + 2, none⟩ = some (.slice t0 na u0)) := fun W h => ⟨(h.cell (World.block_lt_of_cell? _ _ x0)).trans x0, (h.cell (World.block_lt_of_cell? _ _ x1)).trans x1, (h.cell (World.block_lt_of_cell? _ _ x2)).trans x2⟩
   clear hI hX hP0 hsn hok hfx hn0 HOK hln htl HX2 hna
   have hwj : IntKind.i64.wrap ((j : Int) + 1) = (j : Int) + 1 := by rw [IntKind.wrap_i64]; omega
   cases ok
   ·have HE : Hid (T = []) := hoj rfl
    clear hoj HON HSN HLI
    go_wp2_with (go_at_call 10; refine (HKI.out _ blA).mono ?_; rintro e w3 ⟨rfl, hb3⟩)
    go_ret
    exact ⟨ret_string (by rw [HE.out]), bl_call hB blA⟩
   ·have HO2 : Hid (∀ k (h : k < l.length), k < j + 1 → Stil.listOk l[k] = true) := HON.out rfl
    clear hoj HON
    go_wp2_with (first | (go_at_call 10; refine (HKI.out _ blA).mono ?_; rintro e w3 ⟨rfl, hb3⟩; clear x0 x1 x2; obtain ⟨x0, x1, x2⟩ := HRE.out w3 blA) | (go_at_call 19; refine (HLI.out _ blA).mono ?_; rintro e w4 ⟨rfl, hb4⟩))
    refine ⟨⟨j + 1, by omega, by simp, HO2.out, ?_, bl_call hB blA⟩, by simp [intOf]; omega⟩
    rw [HSN.out, ba_app3]
  ·obtain rfl : j = n := by omega
   have HE : Hid (T = Stil.linesText (l.take j)) := by
    show _ = _
    rw [HTT.out, if_neg, HN.out, List.take_length]
    rintro (h | ⟨i, hi, h⟩)
    ·have := HN.out; omega
    ·obtain ⟨k, hk, rfl⟩ := List.getElem_of_mem hi
     rw [HOK.out k hk (by have := HN.out; omega)] at h
     cases h
   clear HTT HOK
   go_wp2
   go_ret
   exact ⟨ret_string (by rw [HE.out]), hB⟩
theorem s_listSame (l : List Stil.Inst) (v u : Value) (w : World) (hat : InstsAt w v l) (hau : InstsAt w u l) (hl : l.length ≤ 1048576) (hft : ∀ x ∈ l, x.fits) :
  Calls Tryz.prog 15 #[v, u] w fun e w' => e = .returned (.bool true) ∧ Below w.heap.size w w' := by
 obtain ⟨a, cap, rfl, hc⟩ := hat
 obtain ⟨a2, cap2, rfl, hc2⟩ := hau
 have HC : Hid (∀ i (h : i < l.length), ∃ b o, a = some ⟨b, o, none⟩ ∧ b < w.heap.size ∧ InstAt w b (o + i * 3) l[i]) := hc
 have HC2 : Hid (∀ i (h : i < l.length), ∃ b o, a2 = some ⟨b, o, none⟩ ∧ b < w.heap.size ∧ InstAt w b (o + i * 3) l[i]) := hc2
 have HF : Hid (∀ x ∈ l, x.fits) := hft
 clear hc hc2 hft
 obtain ⟨n, hn⟩ : ∃ n, n = l.length := ⟨_, rfl⟩
 have HN : Hid (n = l.length) := hn
 rw [← hn] at hl ⊢
 clear hn
 go_enter Tryz.func15, Tryz.ntmps15
 go_wp2
 go_loopw [5] (fun i wr => ∃ j : Nat, j ≤ n ∧ i = .int .i64 (j : Int) ∧ Below w.heap.size w wr) (fun i _ => n - (intOf i).toNat)
 case atStart => exact ⟨0, Nat.zero_le _, rfl, Below.refl _ _⟩
 case round =>
  obtain ⟨j, hj, rfl, hB⟩ := hrel
  by_cases hlt : j < n
  ·have hlt' : j < l.length := by have := HN.out; omega
   obtain ⟨b, o, rfl, hbl, hn0⟩ := HC.out j hlt'
   obtain ⟨b2, o2, rfl, hbl2, hn2⟩ := HC2.out j hlt'
   obtain ⟨x0, x1, kav, x2, hav⟩ := hn0.below hB hbl
   obtain ⟨y0, y1, kbv, y2, hbv⟩ := hn2.below hB hbl2
   have hfx := (HF.out _ (List.getElem_mem hlt')).2.2.1
   obtain ⟨I, hI⟩ : ∃ I, I = l[j] := ⟨_, rfl⟩
   rw [← hI] at x0 x1 y0 y1 hav hbv hfx
   obtain ⟨ta, tc, rfl, hta⟩ := hav
   obtain ⟨sa, sc, rfl, hsa⟩ := hbv
   have HTA : Hid (∀ i (h : i < I.one.args.length), ∃ b o, ta = some ⟨b, o, none⟩ ∧ b < wr.heap.size ∧ DevAt wr b (o + i * 3) I.one.args[i]) := hta
   have HSA : Hid (∀ i (h : i < I.one.args.length), ∃ b o, sa = some ⟨b, o, none⟩ ∧ b < wr.heap.size ∧ DevAt wr b (o + i * 3) I.one.args[i]) := hsa
   obtain ⟨m, hm⟩ : ∃ m, m = I.one.args.length := ⟨_, rfl⟩
   have HM : Hid (m = I.one.args.length) := hm
   rw [← hm] at x2 y2 hfx
   clear hI hta hsa hm hn0 hn2
   have hwj : IntKind.i64.wrap ((j : Int) + 1) = (j : Int) + 1 := by rw [IntKind.wrap_i64]; omega
   have r0 := cell_regrown x0
   have r1 := cell_regrown x1
   have r2 := cell_regrown x2
   have s0 := cell_regrown y0
   have s1 := cell_regrown y1
   have s2 := cell_regrown y2
   go_upto_region 6 with fail
   refine wp_region_quiet_below (by kernel_rfl) (by kernel_rfl) ?_
   repeat (go_big_quiet_step ((fail)))
   refine wpQuiet_nil ?_
   intro _ hw'
   obtain ⟨⟨dq, osq⟩, hw''⟩ := hw'
   subst hw''
   obtain ⟨V, hV⟩ : ∃ V, V = grow (redrawn wr dq) osq := ⟨_, rfl⟩
   have hbV : Below wr.heap.size wr V := by rw [hV]; exact below_regrown _ _ _
   dsimp only
   rw [← hV]
   have HRE : Hid (∀ W, Below V.heap.size V W → W.cell? ⟨b, o + j * 3, none⟩ = some (.int .i64 I.code) ∧ W.cell? ⟨b, o + j * 3 + 1, none⟩ = some (.int .i64 I.one.op) ∧ W.cell? ⟨b, o + j * 3 + 2, none⟩ = some (.slice ta m tc) ∧ W.cell? ⟨b2, o2 + j * 3, none⟩ = some (.int .i64 I.code) ∧ W.cell? ⟨b2, o2 + j * 3 + 1, none⟩ = some (.int .i64 I.one.op) ∧ W.cell? ⟨b2, o2 + j * 3 + 2, none⟩ = some (.slice sa m sc)) := fun W h => by
    have hw := bl_call hbV h
    exact ⟨(hw.cell (World.block_lt_of_cell? _ _ x0)).trans x0, (hw.cell (World.block_lt_of_cell? _ _ x1)).trans x1, (hw.cell (World.block_lt_of_cell? _ _ x2)).trans x2, (hw.cell (World.block_lt_of_cell? _ _ y0)).trans y0, (hw.cell (World.block_lt_of_cell? _ _ y1)).trans y1, (hw.cell (World.block_lt_of_cell? _ _ y2)).trans y2⟩
   have HTV : Hid (∀ W, Below V.heap.size V W → ∀ i (h : i < I.one.args.length), ∃ b o, ta = some ⟨b, o, none⟩ ∧ b < W.heap.size ∧ DevAt W b (o + i * 3) I.one.args[i]) := fun W h i hi => by
    have hw := bl_call hbV h
    obtain ⟨b, o, h1, h2, h3⟩ := HTA.out i hi
    exact ⟨b, o, h1, Nat.lt_of_lt_of_le h2 hw.size, h3.below hw h2⟩
   have HSV : Hid (∀ W, Below V.heap.size V W → ∀ i (h : i < I.one.args.length), ∃ b o, sa = some ⟨b, o, none⟩ ∧ b < W.heap.size ∧ DevAt W b (o + i * 3) I.one.args[i]) := fun W h i hi => by
    have hw := bl_call hbV h
    obtain ⟨b, o, h1, h2, h3⟩ := HSA.out i hi
    exact ⟨b, o, h1, Nat.lt_of_lt_of_le h2 hw.size, h3.below hw h2⟩
   have hBV : Below w.heap.size w V := bl_call hB hbV
   clear hV x0 x1 x2 y0 y1 y2 r0 r1 r2 s0 s1 s2 HTA HSA hbV hB
   go_wp2
   obtain ⟨wo, hwo⟩ : ∃ wo : World, wo = wr := ⟨wr, rfl⟩
   subst hwo
   go_loopw [6] (fun i wr => ∃ q : Nat, q ≤ m ∧ i = .int .i64 (q : Int) ∧ Below V.heap.size V wr) (fun i _ => m - (intOf i).toNat)
   case atStart => exact ⟨0, Nat.zero_le _, rfl, Below.refl _ _⟩
   case round =>
    obtain ⟨q, hq, rfl, hQ⟩ := hrel
    obtain ⟨x0, x1, x2, y0, y1, y2⟩ := HRE.out wr hQ
    by_cases hqm : q < m
    ·have hqm' : q < I.one.args.length := by have := HM.out; omega
     obtain ⟨c1, o3, rfl, hc1, d0, d1, d2⟩ := HTV.out wr hQ q hqm'
     obtain ⟨c2, o4, rfl, hc2, e0, e1, e2⟩ := HSV.out wr hQ q hqm'
     obtain ⟨D, hD⟩ : ∃ D, D = I.one.args[q] := ⟨_, rfl⟩
     rw [← hD] at d0 d1 d2 e0 e1 e2
     clear hD
     have hwq : IntKind.i64.wrap ((q : Int) + 1) = (q : Int) + 1 := by rw [IntKind.wrap_i64]; omega
     have r0 := cell_regrown x0
     have r1 := cell_regrown x1
     have r2 := cell_regrown x2
     have s0 := cell_regrown y0
     have s1 := cell_regrown y1
     have s2 := cell_regrown y2
     have t0 := cell_regrown d0
     have t1 := cell_regrown d1
     have t2 := cell_regrown d2
     have u0 := cell_regrown e0
     have u1 := cell_regrown e1
     have u2 := cell_regrown e2
     go_upto_region 11 with fail
     refine wp_region_quiet_below (by kernel_rfl) (by kernel_rfl) ?_
     repeat (go_big_quiet_step ((fail)))
     refine wpQuiet_nil ?_
     intro _ hw'
     obtain ⟨⟨dq, osq⟩, hw''⟩ := hw'
     subst hw''
     go_wp2
     exact ⟨⟨q + 1, by omega, by simp, bl_call hQ (below_regrown _ _ _)⟩, by simp [intOf]; omega⟩
    ·obtain rfl : q = m := by omega
     go_wp2
     exact ⟨⟨j + 1, by omega, by simp, hBV.trans (hQ.mono hBV.size)⟩, by simp [intOf]; omega⟩
  ·obtain rfl : j = n := by omega
   go_wp2
   go_ret
   exact ⟨rfl, hB⟩
end Go.Proofs.YtipdjmbgbehkaaaGreatDoor
