/- I17, I18: texts put together. -/
import Derived.Test.YtipdjmbgbehkaaaGreatDoorHs
import Derived.Test.YtipdjmbgbehkaaaGreatDoorM30
import Derived.Test.YtipdjmbgbehkaaaGreatDoorHo
set_option maxHeartbeats 4000000
set_option maxRecDepth 100000
/- Contracts of the program's chapter 5: ListText, over a strings.Builder. -/
namespace Go.Proofs.YtipdjmbgbehkaaaGreatDoor
open Go.RowKit Go.Sort Go.BigFrame
theorem b_size : (Tryz.prog.info? 51).map (·.size) = some 2 := by kernel_rfl
theorem b_lies : liesAt Tryz.prog Tryz.prog.depth 51 (2 / Tryz.prog.cellsOf 51) 0 51 1 = true := by kernel_rfl
theorem b_byte : (Tryz.prog.info? 5).map (fun i => (i.zero, i.size, i.bytes)) = some (some (.int .u8 0), 1, 1) := by kernel_rfl
theorem b_used (b : Nat) (w : World) (h0 : w.cell? ⟨b, 0, none⟩ = some (.pointer (some ⟨b, 0, none⟩))) :
  Calls Tryz.prog 56 #[.pointer (some ⟨b, 0, none⟩)] w fun e w' => e = .returned (.tuple #[]) ∧ w' = w := by
 obtain ⟨j, hj, _⟩ := Option.map_eq_some_iff.1 b_size
 go_enter Tryz.func56, Tryz.ntmps56
 go_wp2
 rw [Lib.run_neq_ptr_same w _ Tryz.underlying49 hj]
 go_wp2
 go_end0
 exact ⟨rfl, rfl⟩
theorem b_fresh (b : Nat) (w : World) (h0 : w.cell? ⟨b, 0, none⟩ = some (.pointer none)) (hsh : w.shape? b = some (51, 2)) (hfz : w.frozen? ⟨b, 0, none⟩ = false) :
  Calls Tryz.prog 56 #[.pointer (some ⟨b, 0, none⟩)] w fun e w' => e = .returned (.tuple #[]) ∧ w' = w.setCell ⟨b, 0, none⟩ (.pointer (some ⟨b, 0, none⟩)) := by
 obtain ⟨j, hj, hjs⟩ := Option.map_eq_some_iff.1 b_size
 go_enter Tryz.func56, Tryz.ntmps56
 go_wp2
 rw [Lib.run_to_unsafe w ⟨b, 0, none⟩ Tryz.underlying49 Tryz.underlying113 hj (by rw [hjs]; decide) hsh (Nat.zero_lt_succ 1)]
 simp only [Result.andThen]
 rw [Oper.upon_value]
 go_wp2
 rw [run_callFunc_extern Tryz.func83 (by kernel_rfl) (by kernel_rfl) (by kernel_rfl) (e := Extern.AbiNoEscape.same) (by kernel_rfl)]
 rw [Lib.run_noEscape]
 simp only [Result.andThen]
 rw [Oper.upon_value]
 go_wp2
 rw [Lib.run_from_unsafe w ⟨b, 0, none⟩ Tryz.underlying113 Tryz.underlying49 hj hsh b_lies]
 simp only [Result.andThen]
 rw [Oper.upon_value]
 go_wp2
 go_end0
 exact ⟨rfl, rfl⟩
theorem b_check (B b : Nat) (bs : List Value) (w : World) (h : Lib.IsBuilderF 51 5 B b bs w) :
  Calls Tryz.prog 56 #[.pointer (some ⟨b, 0, none⟩)] w fun e w' => e = .returned (.tuple #[]) ∧ (Lib.BuilderAtF 51 5 B b (.pointer (some ⟨b, 0, none⟩)) bs w' ∧ Below B w w') := by
 rcases h with h | h
 ·refine (b_fresh b w h.cell0 h.shape h.frozen0).mono ?_
  rintro e w' ⟨rfl, rfl⟩
  exact ⟨rfl, h.used _, (Below.refl B w).setCell (p := ⟨b, 0, none⟩) h.1 _⟩
 ·refine (b_used b w h.cell0).mono ?_
  rintro e w' ⟨rfl, rfl⟩
  exact ⟨rfl, h, Below.refl B _⟩
theorem b_write (B b : Nat) (bs : List Value) (s : ByteArray) (w : World) (h : Lib.IsBuilderF 51 5 B b bs w) (hlen : bs.length + s.size ≤ 140737488355328) (hBw : B ≤ w.heap.size) :
  Calls Tryz.prog 27 #[.pointer (some ⟨b, 0, none⟩), .string s] w fun e w' => e = .returned (.tuple #[.int .i64 s.size, .nilIface]) ∧ (Lib.BuilderAtF 51 5 B b (.pointer (some ⟨b, 0, none⟩)) (bs ++ Lib.strCells s) w' ∧ Below B w w') := by
 obtain ⟨i0, hi, hz0, hz1, hz2⟩ := info_parts b_byte
 go_enter Tryz.func27, Tryz.ntmps27
 go_wp2_with (go_at_call 56; refine (b_check B b bs _ h).mono ?_)
 rintro e w1 ⟨rfl, h1, hb1⟩
 obtain ⟨hB, v, hbk, hown, hne⟩ := h1
 have c0 : w1.cell? ⟨b, 0, none⟩ = some (.pointer (some ⟨b, 0, none⟩)) := by rw [Lib.cell_of_heap hbk]; rfl
 have c1 : w1.cell? ⟨b, 1, none⟩ = some v := by rw [Lib.cell_of_heap hbk]; rfl
 go_wp2_with (at_builtin; refine Lib.wpList_append_own_stringF _ rfl _ _ 22 9 rfl B 5 i0 Tryz.underlying22 Tryz.underlying9 hi hz0 hz1 hz2 _ _ _ rfl hown s rfl ?c3 ?c4 ?c5 ?_)
 case c3 => unfold maxLen; omega
 case c4 => omega
 case c5 => have := hb1.size; omega
 intro v' w2 hown' hgrow _
 have hlt : b < w1.heap.size := by
  rcases Nat.lt_or_ge b w1.heap.size with h' | h'
  ·exact h'
  ·simp [Array.getElem?_eq_none h'] at hbk
 have hb2 : w2.heap[b]? = some (.cells #[.pointer (some ⟨b, 0, none⟩), v] 51 (0, 0)) := by
  rw [hgrow.block b hlt (fun e => hne e.symm)]
  exact hbk
 have d0 : w2.cell? ⟨b, 0, none⟩ = some (.pointer (some ⟨b, 0, none⟩)) := by rw [Lib.cell_of_heap hb2]; rfl
 have d1 : w2.cell? ⟨b, 1, none⟩ = some v := by rw [Lib.cell_of_heap hb2]; rfl
 have f1 : w2.frozen? ⟨b, 1, none⟩ = false := Lib.frozen_of_heap hb2 1
 obtain ⟨ao, n', cap, rfl⟩ : ∃ ao n' cap, v' = .slice ao n' cap := by
  rcases hown'.2 with ⟨hv, _⟩ | ⟨g, cap, cur, fz, hv, _⟩
  ·exact ⟨_, _, _, hv⟩
  ·exact ⟨_, _, _, hv⟩
 go_wp2
 go_ret2
 refine ⟨rfl, ?_, ?_⟩
 ·exact Lib.BuilderAtF.put (T := 51) (e := 5) hB hb2 (bs' := bs ++ Lib.strCells s) (by simpa [Lib.strCells_length] using hown') (by decide)
 ·exact (hb1.grown hgrow (by have := hb1.size; omega) (fun k hk => (hown.lt k hk).1)).setCell (p := ⟨b, 1, none⟩) hB _
theorem builder_below {B b : Nat} {bs : List Value} {W W' : World} (h : Lib.IsBuilderF 51 5 B b bs W) (hb : Below W.heap.size W W') : Lib.IsBuilderF 51 5 B b bs W' := by
 have one : ∀ p, Lib.BuilderAtF 51 5 B b p bs W → Lib.BuilderAtF 51 5 B b p bs W' := by
  rintro p ⟨h1, v, h2, h3, h4⟩
  have hlt : b < W.heap.size := (Array.getElem?_eq_some_iff.1 h2).1
  refine ⟨h1, v, by rw [hb.block b hlt]; exact h2, ⟨h3.1, ?_⟩, h4⟩
  rcases h3.2 with h | ⟨g, cap, cur, fz, hv, hg, hh, hr⟩
  ·exact .inl h
  ·exact .inr ⟨g, cap, cur, fz, hv, hg, by rw [hb.block g (Array.getElem?_eq_some_iff.1 hh).1]; exact hh, hr⟩
 rcases h with h | h
 ·exact .inl (one _ h)
 ·exact .inr (one _ h)
theorem builder_new (w : World) : Lib.IsBuilderF 51 5 w.heap.size w.heap.size [] (w.alloc (.cells #[.pointer none, .slice none 0 0] 51)) := by
 refine .inl ⟨Nat.le_refl _, .slice none 0 0, (by show (w.heap.push _)[w.heap.size]? = some _; simp), World.ownsRowF_nil _ _ _ _, by simp [Value.ownBlock]⟩
theorem lines_snoc (l : List Stil.Inst) (j : Nat) (h : j < l.length) : Stil.linesText (l.take (j + 1)) = Stil.linesText (l.take j) ++ (Stil.lineText l[j] ++ [10]) := by
 rw [List.take_succ_eq_append_getElem h]
 unfold Stil.linesText
 rw [List.map_append, List.flatten_append]
 simp
theorem i_listText (l : List Stil.Inst) (v : Value) (w : World) (hr : RowsAt w) (hw : WordsAt w) (hlw : LWordsAt w) (hpw : PowAt w) (hat : InstsAt w v l) (hl : l.length ≤ 1048576) (hft : ∀ x ∈ l, x.fits) :
  Calls Tryz.prog 8 #[v] w fun e w' => e = .returned (.string ⟨(Stil.listText l).toArray⟩) ∧ Below w.heap.size w w' := by
 have HLL : Hid (∀ W, Below w.heap.size w W → ∀ (x : Stil.Inst) (av : Value), DevsAt W av x.one.args → x.fits → Calls Tryz.prog 17 #[.agg #[.int .i64 x.code, .int .i64 x.one.op, av]] W fun e w' => e = .returned (.string ⟨(Stil.lineText x).toArray⟩) ∧ Below W.heap.size W w') := fun W h x av hd hx => i_listLine x av W (hr.below h) (hw.below h) (hlw.below h) (hpw.below h) hd hx
 have HF : Hid (∀ x ∈ l, x.fits) := hft
 obtain ⟨a, cap, rfl, hc⟩ := hat
 have HC : Hid (∀ i (h : i < l.length), ∃ b o, a = some ⟨b, o, none⟩ ∧ b < w.heap.size ∧ InstAt w b (o + i * 3) l[i]) := hc
 clear hc hft hr hw hlw hpw
 by_cases hbig : 1000 < l.length
 ·have HT : Hid (Stil.listText l = []) := by show _ = _; unfold Stil.listText; rw [if_pos (.inl hbig)]
  clear HC HF HLL
  obtain ⟨n, hn⟩ : ∃ n, n = l.length := ⟨_, rfl⟩
  rw [← hn] at hbig hl ⊢
  clear hn
  go_enter Tryz.func8, Tryz.ntmps8
  go_wp2
  go_ret
  exact ⟨ret_string (by rw [HT.out]), Below.refl _ _⟩
 obtain ⟨T, hT⟩ : ∃ T, T = Stil.listText l := ⟨_, rfl⟩
 have HTT : Hid (T = if 1000 < l.length ∨ ∃ i ∈ l, Stil.listOk i = false then [] else Stil.linesText l) := hT
 rw [← hT]
 obtain ⟨n, hn⟩ : ∃ n, n = l.length := ⟨_, rfl⟩
 have HN : Hid (n = l.length) := hn
 rw [← hn] at hbig hl ⊢
 clear hn hT
 have hnb : ¬ (1000 : Int) < (n : Int) := by omega
 go_enter Tryz.func8, Tryz.ntmps8
 go_wp2
 go_loopw [12] (fun i wr => ∃ j : Nat, j ≤ n ∧ i = .int .i64 (j : Int) ∧ (∀ k (h : k < l.length), k < j → Stil.listOk l[k] = true) ∧ Lib.IsBuilderF 51 5 w.heap.size w.heap.size (Lib.byteCells (Stil.linesText (l.take j))) wr ∧ Below w.heap.size w wr) (fun i _ => n - (intOf i).toNat)
 case atStart => exact ⟨0, Nat.zero_le _, rfl, fun k _ hk => absurd hk (Nat.not_lt_zero _), builder_new w, below_alloc _ _⟩
 case round =>
  obtain ⟨j, hj, rfl, hok, hbd, hB⟩ := hrel
  have HBD : Hid (Lib.IsBuilderF 51 5 w.heap.size w.heap.size (Lib.byteCells (Stil.linesText (l.take j))) wr) := hbd
  have HOK : Hid (∀ k (h : k < l.length), k < j → Stil.listOk l[k] = true) := hok
  have hzr := hB.size
  clear hbd hok
  by_cases hlt : j < n
  ·have hlt' : j < l.length := by have := HN.out; omega
   obtain ⟨b, o, rfl, hbl, hn0⟩ := HC.out j hlt'
   obtain ⟨x0, x1, kav, x2, hav⟩ := hn0.below hB hbl
   have hfx := HF.out _ (List.getElem_mem hlt')
   have HLI : Hid (∀ W, Below wr.heap.size wr W → Calls Tryz.prog 17 #[.agg #[.int .i64 l[j].code, .int .i64 l[j].one.op, kav]] W fun e w' => e = .returned (.string ⟨(Stil.lineText l[j]).toArray⟩) ∧ Below W.heap.size W w') := fun W h => HLL.out W (bl_call hB h) l[j] kav (hav.below h) hfx
   have hsn := lines_snoc l j hlt'
   have hsh := Stil.line_short l[j]
   have hem := Stil.line_empty l[j]
   have hln := Stil.lines_len (l.take j)
   have hoj : Stil.listOk l[j] = false → T = [] := fun h => by rw [HTT.out, if_pos (.inr ⟨l[j], List.getElem_mem hlt', h⟩)]
   have HON : Hid (Stil.listOk l[j] = true → ∀ k (h : k < l.length), k < j + 1 → Stil.listOk l[k] = true) := by
    intro h k hk hkj
    by_cases e : k < j
    ·exact HOK.out k hk e
    ·obtain rfl : k = j := by omega
     exact h
   have htl : (l.take j).length ≤ 1000 := by rw [List.length_take]; omega
   obtain ⟨I, hI⟩ : ∃ I, I = l[j] := ⟨_, rfl⟩
   rw [← hI] at x0 x1 HLI hsn hsh hem hoj HON
   obtain ⟨t0, u0, rfl, _⟩ := hav
   obtain ⟨X, hX⟩ : ∃ X, X = Stil.lineText I := ⟨_, rfl⟩
   rw [← hX] at HLI hsn hsh hem
   obtain ⟨P0, hP0⟩ : ∃ P, P = Stil.linesText (l.take j) := ⟨_, rfl⟩
   rw [← hP0] at HBD hsn hln
   have HSN : Hid (Stil.linesText (l.take (j + 1)) = P0 ++ (X ++ [10])) := hsn
   have hpl : P0.length ≤ 50000 := by omega
   obtain ⟨ok, hok⟩ : ∃ k, k = Stil.listOk I := ⟨_, rfl⟩
   rw [← hok] at hem hoj HON
   clear hI hX hP0 hsn hok hfx hn0 HOK hln htl
   have hwj : IntKind.i64.wrap ((j : Int) + 1) = (j : Int) + 1 := by rw [IntKind.wrap_i64]; omega
   have hbr : b < wr.heap.size := Nat.lt_of_lt_of_le hbl hzr
   cases ok
   ·have HE : Hid (T = []) := hoj rfl
    have hxe : X = [] := by
     cases X with
     | nil => rfl
     | cons _ _ => simp at hem
    subst hxe
    clear hoj HON hem HSN
    go_wp2_with (go_at_call 17; refine (HLI.out _ blA).mono ?_; rintro e w3 ⟨rfl, hb3⟩)
    go_ret
    exact ⟨ret_string (by rw [HE.out]), bl_call hB blA⟩
   ·have hxe : X.isEmpty = false := by rw [hem]; rfl
    have HO2 : Hid (∀ k (h : k < l.length), k < j + 1 → Stil.listOk l[k] = true) := HON.out rfl
    clear hoj HON hem
    go_wp2_with (first | (go_at_call 17; refine (HLI.out _ blA).mono ?_; rintro e w3 ⟨rfl, hb3⟩) | (go_at_call 27; refine (b_write w.heap.size w.heap.size _ _ _ (builder_below HBD.out (show Below wr.heap.size wr w3 from blA)) (by simp [Lib.byteCells, ByteArray.size]; omega) (by have := hb3.size; simp at this; omega)).mono ?_; rintro e w4 ⟨rfl, hbd4, hb4⟩))
    refine ⟨⟨j + 1, by omega, by simp, HO2.out, .inr ?_, ?_⟩, by simp [intOf]; omega⟩
    ·rw [HSN.out]
     have e : Lib.byteCells (P0 ++ (X ++ [10])) = Lib.byteCells P0 ++ Lib.strCells ((⟨X.toArray⟩ : ByteArray) ++ ⟨#[10]⟩) := by
      rw [ba_app2, Lib.strCells_eq]
      simp [Lib.byteCells]
     rw [e]
     exact hbd4
    ·exact (bl_call hB (show Below wr.heap.size wr w3 from blA)).trans hb4
  ·obtain rfl : j = n := by omega
   have HE : Hid (T = Stil.linesText (l.take j)) := by
    show _ = _
    rw [HTT.out, if_neg, HN.out, List.take_length]
    rintro (h | ⟨i, hi, h⟩)
    ·have := HN.out; omega
    ·obtain ⟨k, hk, rfl⟩ := List.getElem_of_mem hi
     rw [HOK.out k hk (by have := HN.out; omega)] at h
     cases h
   clear HTT HOK
   go_wp2_with (go_at_call 28; refine (Tryz.Builder_String_any_k w.heap.size w.heap.size _ _ HBD.out hzr).mono ?_; rintro e w4 ⟨rfl, _, hb4, _⟩)
   go_ret
   exact ⟨ret_string (by rw [HE.out]), hB.trans hb4⟩
open Classical in
theorem i_listSame (es fs : List Stil.Inst) (v u : Value) (w : World) (hat : InstsAt w v es) (hau : InstsAt w u fs) (hf : ∀ x ∈ es, x.fits) (hg : ∀ x ∈ fs, x.fits) (hl : es.length ≤ 1048576) (hm : fs.length ≤ 1048576) :
  Calls Tryz.prog 12 #[v, u] w fun e w' => e = .returned (.bool (decide (es = fs))) ∧ Below w.heap.size w w' := by
 have H : Hid (∀ W, Below w.heap.size w W → Calls Tryz.prog 33 #[v, u, .func (.func 34) #[] #[]] W fun e w' => e = .returned (.bool (decide (es = fs))) ∧ Below W.heap.size W w') := fun W h => i_eqfInsts es fs (fun x hx y hy => i_instSame x y (hf x hx) (hg y hy)) v u W (hat.below h) (hau.below h) hl hm
 obtain ⟨a1, c1, rfl, -⟩ := hat
 obtain ⟨a2, c2, rfl, -⟩ := hau
 go_enter Tryz.func12, Tryz.ntmps12
 go_wp2_with (go_at_call 33; refine (H.out _ blA).mono ?_; rintro e w1 ⟨rfl, hb⟩)
 go_ret
 exact ⟨rfl, blA⟩
end Go.Proofs.YtipdjmbgbehkaaaGreatDoor
