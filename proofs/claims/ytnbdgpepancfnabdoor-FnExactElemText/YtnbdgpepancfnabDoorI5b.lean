/- Contracts of the program's chapter 2: ElemText. -/
import Derived.Test.YtnbdgpepancfnabDoorI5a
import Derived.Test.YtnbdgpepancfnabDoorI3g
import Derived.Test.YtnbdgpepancfnabDoorS2j
namespace Go.Proofs.YtnbdgpepancfnabDoor
open Go.RowKit Go.Sort Go.BigFrame
theorem join_bound : ∀ (xs : List (List UInt8)) (sep : List UInt8), xs.length ≤ 3 → (∀ x ∈ xs, x.length ≤ 60) → sep.length ≤ 100 → (Lib.join xs sep).length ≤ 1000
  | [], _, _, _, _ => by simp [Lib.join_nil]
  | [a], _, _, h, _ => by rw [Lib.join_one]; have := h a (by simp); omega
  | [a, b], sep, _, h, hs => by
    rw [Lib.join_cons]; simp [Lib.joinTail]
    have h1 := h a (by simp); have h2 := h b (by simp); omega
  | [a, b, c], sep, _, h, hs => by
    rw [Lib.join_cons]; simp [Lib.joinTail]
    have h1 := h a (by simp); have h2 := h b (by simp); have h3 := h c (by simp); omega
  | _ :: _ :: _ :: _ :: _, _, h, _, _ => by simp at h
set_option maxHeartbeats 1000000 in
set_option maxRecDepth 100000 in
theorem i_elemText_go (op : Int) (v : Value) (ds : List Stil.Dev) (f : List UInt8 → List (List UInt8) → List UInt8) (w : World) (hr : RowsAt w) (hw : WordsAt w) (hpw : PowAt w) (hat : DevsAt w v ds) (hfit : ∀ d ∈ ds, d.fits)
    (hok : (Stil.isContact op ds || Stil.isCoil op ds) = true) (h0 : 0 < ds.length) (h3 : ds.length ≤ 3) (hwf : WriteFn (rowOf op).2.1 f) (hnz : (rowOf op).2.1 ≠ 0) (hword : (rowOf op).1.length ≤ 100) :
    Calls Tryd.prog 11 #[.agg #[.int .i64 op, v]] w fun e w' => e = .returned (.string ⟨(f (rowOf op).1 (ds.map Stil.Dev.text)).toArray⟩) ∧ Below w.heap.size w w' := by
  obtain ⟨i0, hi, hz0, hz1, hz9⟩ := info_parts info_string
  have HC : Hid (∀ W, Below w.heap.size w W → Calls Tryd.prog 26 #[.agg #[.int .i64 op, v]] W fun e w' => e = .returned (.bool (Stil.isContact op ds)) ∧ Below W.heap.size W w') := fun W h => i_isContact op v ds W (hr.below h) (hat.below h) hfit (by omega)
  have HO : Hid (∀ W, Below w.heap.size w W → Calls Tryd.prog 8 #[.agg #[.int .i64 op, v]] W fun e w' => e = .returned (.bool (Stil.isCoil op ds)) ∧ Below W.heap.size W w') := fun W h => i_isCoil op v ds W (hr.below h) (hat.below h) hfit (by omega)
  have HT : Hid (∀ W, Below w.heap.size w W → ∀ d ∈ ds, Calls Tryd.prog 27 #[.agg #[.int .i64 d.kind, .int .i64 d.n, .int .i64 d.p]] W fun e w' => e = .returned (.string ⟨d.text.toArray⟩) ∧ Below W.heap.size W w') := fun W h d hd => i_devText d.kind d.n d.p W (hr.below h) (hw.below h) (hpw.below h) (hfit d hd).2.1.1 (hfit d hd).2.1.2
  have HTL : Hid (∀ d ∈ ds, d.text.length ≤ 60) := fun d hd => devText_len d.kind d.n d.p (hfit d hd).2.1.1 (hfit d hd).2.1.2
  have HRow : Hid (∀ W, Calls Tryd.prog 28 #[.int .i64 op] W fun e w' => e = .returned (rowVal (rowOf op)) ∧ Below W.heap.size W w') := fun W => i_rowOf op W
  have HW : Hid (∀ (word : List UInt8) (v : Value) (xs : List (List UInt8)) (w : World), StrsAt w v xs → word.length ≤ 100 → xs.length ≤ 3 → (∀ sep : List UInt8, sep.length ≤ 100 → (Lib.join xs sep).length ≤ 1000) →
    Calls Tryd.prog (rowOf op).2.1 #[.string ⟨word.toArray⟩, v] w fun e w' => e = .returned (.string ⟨(f word xs).toArray⟩) ∧ Below w.heap.size w w') := hwf.2
  have hent := hwf.1
  obtain ⟨a, cap, rfl, hat⟩ := hat
  have HA : Hid (∀ i (h : i < ds.length), ∃ b o, a = some ⟨b, o, none⟩ ∧ b < w.heap.size ∧ DevAt w b (o + i * 3) ds[i]) := hat
  have HK : Hid ((Stil.isContact op ds || Stil.isCoil op ds) = true) := hok
  clear hr hw hpw hat hfit hok hwf
  generalize rowOf op = r at HRow HW hent hnz hword ⊢
  obtain ⟨s, hs⟩ : ∃ s, s = r.1 := ⟨_, rfl⟩
  obtain ⟨n0, e0⟩ : ∃ n, n = r.2.1 := ⟨_, rfl⟩
  obtain ⟨n1, e1⟩ : ∃ n, n = r.2.2.1.getD 0 0 := ⟨_, rfl⟩
  obtain ⟨n2, e2⟩ : ∃ n, n = r.2.2.1.getD 1 0 := ⟨_, rfl⟩
  obtain ⟨n3, e3⟩ : ∃ n, n = r.2.2.1.getD 2 0 := ⟨_, rfl⟩
  obtain ⟨n4, e4⟩ : ∃ n, n = r.2.2.2.getD 0 0 := ⟨_, rfl⟩
  obtain ⟨n5, e5⟩ : ∃ n, n = r.2.2.2.getD 1 0 := ⟨_, rfl⟩
  obtain ⟨n6, e6⟩ : ∃ n, n = r.2.2.2.getD 2 0 := ⟨_, rfl⟩
  rw [← e0] at hnz HW hent
  rw [← hs] at hword ⊢
  have hrv : rowVal r = .agg #[.string ⟨s.toArray⟩, .func (.func n0) #[] #[], fnv n1, fnv n2, fnv n3, fnv n4, fnv n5, fnv n6] := by rw [rowVal, hs, ← fnv_pos hnz, e0, e1, e2, e3, e4, e5, e6]
  rw [hrv] at HRow
  have hst := run_store_fnv
  clear hrv hs e0 e1 e2 e3 e4 e5 e6 hnz
  cases hct : Stil.isContact op ds
  · have hco : Stil.isCoil op ds = true := by have := HK.out; rw [hct] at this; simpa using this
    go_enter Tryd.func11, Tryd.ntmps11
    go_wp2_with (first | (go_at_call 26; refine (HC.out _ (by (repeat (first | exact Below.refl _ _ | assumption | refine bl_alloc ?_ _ | refine bl_drewN ?_ _ | refine bl_drew ?_ | refine bl_grow ?_ _ _ | refine bl_set (Nat.le_refl _) ?_ _ | refine bl_call ?_ (by assumption))))).mono ?_; rw [hct]; rintro e w1 ⟨rfl, hb1⟩; obtain ⟨hc1, hf1⟩ := bcell hb1; have hz := below_lt hb1) | (go_at_call 8; refine (HO.out _ (by (repeat (first | exact Below.refl _ _ | assumption | refine bl_alloc ?_ _ | refine bl_drewN ?_ _ | refine bl_drew ?_ | refine bl_grow ?_ _ _ | refine bl_set (Nat.le_refl _) ?_ _ | refine bl_call ?_ (by assumption))))).mono ?_; rw [hco]; rintro e w2 ⟨rfl, hb2⟩; obtain ⟨hc2, hf2⟩ := bcell hb2; have hz2 : w.heap.size < w2.heap.size := Nat.lt_of_lt_of_le hz hb2.size) | (at_make; refine wpList_make_own _ rfl _ _ 45 rfl (w.heap.size + 1) 9 i0 (.string ⟨#[]⟩) 1 Tryd.underlying45 hi hz0 hz1 _ _ _ ds.length rfl rfl rfl ?b2 ?b3 ?b4 ?_))
    case b2 => rw [hz9]; omega
    case b3 => unfold maxLen; omega
    case b4 => omega
    intro w3 hown hgrow
    have hbE : Below (w.heap.size + 1) (w.alloc (.cells #[.int .i64 op, .slice a ds.length cap] 29)) w2 := (by have h := hb1.trans (hb2.mono hb1.size); simpa using h)
    have hb3 : Below (w.heap.size + 1) (w.alloc (.cells #[.int .i64 op, .slice a ds.length cap] 29)) w3 := hbE.grown hgrow (by omega) (fun _ h => by cases h)
    have e1 : w3.cell? ⟨w.heap.size, 1, none⟩ = some (.slice a ds.length cap) := by rw [hb3.cell (p := ⟨w.heap.size, 1, none⟩) (by simp)]; simp [go_sem]
    clear hbE hgrow
    go_wp2
    go_loopw [3, 22] (fun txt i wr => ∃ k : Nat, k ≤ ds.length ∧ i = .int .i64 k ∧ wr.ownsRow (w.heap.size + 1) 9 1 txt k (((ds.take k).map Stil.Dev.text).map strV) ∧ Below (w.heap.size + 1) (w.alloc (.cells #[.int .i64 op, .slice a ds.length cap] 29)) wr) (fun _ i _ => ds.length - (intOf i).toNat)
    case atStart => exact ⟨0, by omega, rfl, by simpa using hown, hb3⟩
    case round =>
      clear hown hb3 e1
      obtain ⟨k, hk, rfl, hown, hb⟩ := hrel
      have hbw : Below w.heap.size w wr := (below_alloc _ _).trans (hb.mono (by omega))
      by_cases hlt : k < ds.length
      · obtain ⟨b, o, rfl, hbl, hdv⟩ := HA.out k hlt
        obtain ⟨x0, x1, x2⟩ := hdv.below hbw hbl
        have HX : Hid (∀ W, Below w.heap.size w W → Calls Tryd.prog 27 #[.agg #[.int .i64 ds[k].kind, .int .i64 ds[k].n, .int .i64 ds[k].p]] W fun e w' => e = .returned (.string ⟨ds[k].text.toArray⟩) ∧ Below W.heap.size W w') := fun W h => HT.out W h ds[k] (List.getElem_mem hlt)
        have HD : Hid (((ds.take (k + 1)).map Stil.Dev.text).map strV = ((ds.take k).map Stil.Dev.text).map strV ++ [strV ds[k].text]) := by
          show _ = _
          rw [List.take_succ_eq_append_getElem hlt, List.map_append, List.map_append]; rfl
        obtain ⟨x, hx⟩ : ∃ x, x = ds[k] := ⟨_, rfl⟩
        rw [← hx] at x0 x1 x2 HX HD
        have hsz : w.heap.size + 1 ≤ wr.heap.size := by have := hb.size; simp at this; exact this
        clear hx hdv
        go_wp2_with (first | (go_at_call 27; refine (HX.out _ (by (repeat (first | exact Below.refl _ _ | assumption | refine bl_alloc ?_ _ | refine bl_drewN ?_ _ | refine bl_drew ?_ | refine bl_grow ?_ _ _ | refine bl_set (Nat.le_refl _) ?_ _ | refine bl_call ?_ (by assumption))))).mono ?_; rintro e w4 ⟨rfl, hb4⟩; have hown4 := ownsRow_below (hown.alloc (.cells #[.int .i64 x.kind, .int .i64 x.n, .int .i64 x.p] 37)) hb4) | (at_builtin; refine wpList_append_own _ rfl _ _ 45 rfl (w.heap.size + 1) 9 i0 (.string ⟨#[]⟩) 1 16 Tryd.underlying45 hi hz0 hz1 hz9 rfl (by decide) _ _ _ rfl (hown4.alloc _) ⟨w4.heap.size, 0, none⟩ 1 1 [.string ⟨x.text.toArray⟩] rfl rfl ?c1 ?c2 ?c3 ?c4 ?c5 ?_))
        case c1 => exact cell_one_new _ _ _
        case c2 => intro u hu; simp at hu; subst hu; rfl
        case c3 => unfold maxLen; omega
        case c4 => omega
        case c5 => have := hb4.size; simp at this ⊢; omega
        intro v' w5 hown5 hgrow _
        have hlt5 := hown4.lt
        have hsz4 : w.heap.size + 1 ≤ w4.heap.size := by have := hb4.size; simp at this; omega
        have hb5 : Below (w.heap.size + 1) (w.alloc (.cells #[.int .i64 op, .slice (some ⟨b, o, none⟩) ds.length cap] 29)) w5 := (((hb.alloc hsz _).trans (hb4.mono (by simp; omega))).alloc hsz4 _).grown hgrow (by simp; omega) (fun k hk => (hlt5 k hk).1)
        clear hown hown4
        go_wp2
        refine ⟨⟨k + 1, by omega, by go_num, ?_, hb5⟩, by simp [intOf]; omega⟩
        rw [HD.out, show List.map strV (List.map Stil.Dev.text (List.take k ds)) = List.take k (List.map (strV ∘ Stil.Dev.text) ds) from by simp [List.map_take]]; exact hown5
      · have hkn : k = ds.length := by omega
        subst hkn
        rw [List.take_length] at hown
        have HS : Hid (∀ W, Below wr.heap.size wr W → StrsAt W u3 (ds.map Stil.Dev.text)) := fun W h => (StrsAt.of_owns (by simpa using hown) (by simpa using h0)).below h
        obtain ⟨bt, ct, rfl, _, _, _⟩ := HS.out wr (Below.refl _ _)
        have e0 : wr.cell? ⟨w.heap.size, 0, none⟩ = some (.int .i64 op) := by rw [hb.cell (p := ⟨w.heap.size, 0, none⟩) (by simp)]; simp [go_sem]
        have HJ : ∀ sep : List UInt8, sep.length ≤ 100 → (Lib.join (ds.map Stil.Dev.text) sep).length ≤ 1000 := fun sep hsep => join_bound _ sep (by simpa using h3) (fun x hx => by obtain ⟨d, hd, rfl⟩ := List.mem_map.1 hx; exact HTL.out d hd) hsep
        have HH : Hid (∀ W, Below wr.heap.size wr W → Calls Tryd.prog n0 #[.string ⟨s.toArray⟩, .slice (some ⟨bt, 0, none⟩) ds.length ct] W fun e w' => e = .returned (.string ⟨(f s (ds.map Stil.Dev.text)).toArray⟩) ∧ Below W.heap.size W w') := fun W h => by
          have := HW.out s _ _ W (HS.out W h) hword (by simpa using h3) HJ
          rw [List.length_map] at this
          exact this
        clear hown hb hc1 hf1 hc2 hf2 HJ
        go_wp2_with (first | (go_at_call 28; refine (HRow.out _).mono ?_; rintro e w6 ⟨rfl, hb6⟩))
        refine (HH.out _ (bl_alloc hb6 _)).mono ?_
        rintro e w7 ⟨rfl, hb7⟩
        go_wp2
        go_ret
        exact ⟨rfl, bl_call (bl_alloc (bl_call hbw hb6) _) hb7⟩
  · go_enter Tryd.func11, Tryd.ntmps11
    go_wp2_with (first | (go_at_call 26; refine (HC.out _ (by (repeat (first | exact Below.refl _ _ | assumption | refine bl_alloc ?_ _ | refine bl_drewN ?_ _ | refine bl_drew ?_ | refine bl_grow ?_ _ _ | refine bl_set (Nat.le_refl _) ?_ _ | refine bl_call ?_ (by assumption))))).mono ?_; rw [hct]; rintro e w1 ⟨rfl, hb1⟩; obtain ⟨hc1, hf1⟩ := bcell hb1; have hz := below_lt hb1) | (at_make; refine wpList_make_own _ rfl _ _ 45 rfl (w.heap.size + 1) 9 i0 (.string ⟨#[]⟩) 1 Tryd.underlying45 hi hz0 hz1 _ _ _ ds.length rfl rfl rfl ?b2 ?b3 ?b4 ?_))
    case b2 => rw [hz9]; omega
    case b3 => unfold maxLen; omega
    case b4 => omega
    intro w3 hown hgrow
    have hbE : Below (w.heap.size + 1) (w.alloc (.cells #[.int .i64 op, .slice a ds.length cap] 29)) w1 := (by simpa using hb1)
    have hb3 : Below (w.heap.size + 1) (w.alloc (.cells #[.int .i64 op, .slice a ds.length cap] 29)) w3 := hbE.grown hgrow (by omega) (fun _ h => by cases h)
    have e1 : w3.cell? ⟨w.heap.size, 1, none⟩ = some (.slice a ds.length cap) := by rw [hb3.cell (p := ⟨w.heap.size, 1, none⟩) (by simp)]; simp [go_sem]
    clear hbE hgrow
    go_wp2
    go_loopw [3, 22] (fun txt i wr => ∃ k : Nat, k ≤ ds.length ∧ i = .int .i64 k ∧ wr.ownsRow (w.heap.size + 1) 9 1 txt k (((ds.take k).map Stil.Dev.text).map strV) ∧ Below (w.heap.size + 1) (w.alloc (.cells #[.int .i64 op, .slice a ds.length cap] 29)) wr) (fun _ i _ => ds.length - (intOf i).toNat)
    case atStart => exact ⟨0, by omega, rfl, by simpa using hown, hb3⟩
    case round =>
      clear hown hb3 e1
      obtain ⟨k, hk, rfl, hown, hb⟩ := hrel
      have hbw : Below w.heap.size w wr := (below_alloc _ _).trans (hb.mono (by omega))
      by_cases hlt : k < ds.length
      · obtain ⟨b, o, rfl, hbl, hdv⟩ := HA.out k hlt
        obtain ⟨x0, x1, x2⟩ := hdv.below hbw hbl
        have HX : Hid (∀ W, Below w.heap.size w W → Calls Tryd.prog 27 #[.agg #[.int .i64 ds[k].kind, .int .i64 ds[k].n, .int .i64 ds[k].p]] W fun e w' => e = .returned (.string ⟨ds[k].text.toArray⟩) ∧ Below W.heap.size W w') := fun W h => HT.out W h ds[k] (List.getElem_mem hlt)
        have HD : Hid (((ds.take (k + 1)).map Stil.Dev.text).map strV = ((ds.take k).map Stil.Dev.text).map strV ++ [strV ds[k].text]) := by
          show _ = _
          rw [List.take_succ_eq_append_getElem hlt, List.map_append, List.map_append]; rfl
        obtain ⟨x, hx⟩ : ∃ x, x = ds[k] := ⟨_, rfl⟩
        rw [← hx] at x0 x1 x2 HX HD
        have hsz : w.heap.size + 1 ≤ wr.heap.size := by have := hb.size; simp at this; exact this
        clear hx hdv
        go_wp2_with (first | (go_at_call 27; refine (HX.out _ (by (repeat (first | exact Below.refl _ _ | assumption | refine bl_alloc ?_ _ | refine bl_drewN ?_ _ | refine bl_drew ?_ | refine bl_grow ?_ _ _ | refine bl_set (Nat.le_refl _) ?_ _ | refine bl_call ?_ (by assumption))))).mono ?_; rintro e w4 ⟨rfl, hb4⟩; have hown4 := ownsRow_below (hown.alloc (.cells #[.int .i64 x.kind, .int .i64 x.n, .int .i64 x.p] 37)) hb4) | (at_builtin; refine wpList_append_own _ rfl _ _ 45 rfl (w.heap.size + 1) 9 i0 (.string ⟨#[]⟩) 1 16 Tryd.underlying45 hi hz0 hz1 hz9 rfl (by decide) _ _ _ rfl (hown4.alloc _) ⟨w4.heap.size, 0, none⟩ 1 1 [.string ⟨x.text.toArray⟩] rfl rfl ?c1 ?c2 ?c3 ?c4 ?c5 ?_))
        case c1 => exact cell_one_new _ _ _
        case c2 => intro u hu; simp at hu; subst hu; rfl
        case c3 => unfold maxLen; omega
        case c4 => omega
        case c5 => have := hb4.size; simp at this ⊢; omega
        intro v' w5 hown5 hgrow _
        have hlt5 := hown4.lt
        have hsz4 : w.heap.size + 1 ≤ w4.heap.size := by have := hb4.size; simp at this; omega
        have hb5 : Below (w.heap.size + 1) (w.alloc (.cells #[.int .i64 op, .slice (some ⟨b, o, none⟩) ds.length cap] 29)) w5 := (((hb.alloc hsz _).trans (hb4.mono (by simp; omega))).alloc hsz4 _).grown hgrow (by simp; omega) (fun k hk => (hlt5 k hk).1)
        clear hown hown4
        go_wp2
        refine ⟨⟨k + 1, by omega, by go_num, ?_, hb5⟩, by simp [intOf]; omega⟩
        rw [HD.out, show List.map strV (List.map Stil.Dev.text (List.take k ds)) = List.take k (List.map (strV ∘ Stil.Dev.text) ds) from by simp [List.map_take]]; exact hown5
      · have hkn : k = ds.length := by omega
        subst hkn
        rw [List.take_length] at hown
        have HS : Hid (∀ W, Below wr.heap.size wr W → StrsAt W u3 (ds.map Stil.Dev.text)) := fun W h => (StrsAt.of_owns (by simpa using hown) (by simpa using h0)).below h
        obtain ⟨bt, ct, rfl, _, _, _⟩ := HS.out wr (Below.refl _ _)
        have e0 : wr.cell? ⟨w.heap.size, 0, none⟩ = some (.int .i64 op) := by rw [hb.cell (p := ⟨w.heap.size, 0, none⟩) (by simp)]; simp [go_sem]
        have HJ : ∀ sep : List UInt8, sep.length ≤ 100 → (Lib.join (ds.map Stil.Dev.text) sep).length ≤ 1000 := fun sep hsep => join_bound _ sep (by simpa using h3) (fun x hx => by obtain ⟨d, hd, rfl⟩ := List.mem_map.1 hx; exact HTL.out d hd) hsep
        have HH : Hid (∀ W, Below wr.heap.size wr W → Calls Tryd.prog n0 #[.string ⟨s.toArray⟩, .slice (some ⟨bt, 0, none⟩) ds.length ct] W fun e w' => e = .returned (.string ⟨(f s (ds.map Stil.Dev.text)).toArray⟩) ∧ Below W.heap.size W w') := fun W h => by
          have := HW.out s _ _ W (HS.out W h) hword (by simpa using h3) HJ
          rw [List.length_map] at this
          exact this
        clear hown hb hc1 hf1 HJ
        go_wp2_with (first | (go_at_call 28; refine (HRow.out _).mono ?_; rintro e w6 ⟨rfl, hb6⟩))
        refine (HH.out _ (bl_alloc hb6 _)).mono ?_
        rintro e w7 ⟨rfl, hb7⟩
        go_wp2
        go_ret
        exact ⟨rfl, bl_call (bl_alloc (bl_call hbw hb6) _) hb7⟩
set_option maxHeartbeats 1000000 in
set_option maxRecDepth 100000 in
theorem i_elemText (op : Int) (v : Value) (ds : List Stil.Dev) (w : World) (hr : RowsAt w) (hw : WordsAt w) (hpw : PowAt w) (hat : DevsAt w v ds) (hfit : ∀ d ∈ ds, d.fits) (hl : ds.length ≤ 9223372036854775807) :
    Calls Tryd.prog 11 #[.agg #[.int .i64 op, v]] w fun e w' => e = .returned (.string ⟨(Stil.elemText op ds).toArray⟩) ∧ Below w.heap.size w w' := by
  cases hok : (Stil.isContact op ds || Stil.isCoil op ds)
  · have hct : Stil.isContact op ds = false := by cases h : Stil.isContact op ds <;> simp_all
    have hco : Stil.isCoil op ds = false := by cases h : Stil.isCoil op ds <;> simp_all
    have HD : Hid (Stil.elemText op ds = []) := by show _ = _; unfold Stil.elemText; rw [hco, hct]; rfl
    have HC : Hid (∀ W, Below w.heap.size w W → Calls Tryd.prog 26 #[.agg #[.int .i64 op, v]] W fun e w' => e = .returned (.bool (Stil.isContact op ds)) ∧ Below W.heap.size W w') := fun W h => i_isContact op v ds W (hr.below h) (hat.below h) hfit hl
    have HO : Hid (∀ W, Below w.heap.size w W → Calls Tryd.prog 8 #[.agg #[.int .i64 op, v]] W fun e w' => e = .returned (.bool (Stil.isCoil op ds)) ∧ Below W.heap.size W w') := fun W h => i_isCoil op v ds W (hr.below h) (hat.below h) hfit hl
    obtain ⟨a, cap, rfl, _⟩ := hat
    clear hr hw hpw hfit hok
    go_enter Tryd.func11, Tryd.ntmps11
    go_wp2_with (first | (go_at_call 26; refine (HC.out _ (by (repeat (first | exact Below.refl _ _ | assumption | refine bl_alloc ?_ _ | refine bl_drewN ?_ _ | refine bl_drew ?_ | refine bl_grow ?_ _ _ | refine bl_set (Nat.le_refl _) ?_ _ | refine bl_call ?_ (by assumption))))).mono ?_; rw [hct]; rintro e w1 ⟨rfl, hb1⟩; obtain ⟨hc1, hf1⟩ := bcell hb1; have hz := below_lt hb1) | (go_at_call 8; refine (HO.out _ (by (repeat (first | exact Below.refl _ _ | assumption | refine bl_alloc ?_ _ | refine bl_drewN ?_ _ | refine bl_drew ?_ | refine bl_grow ?_ _ _ | refine bl_set (Nat.le_refl _) ?_ _ | refine bl_call ?_ (by assumption))))).mono ?_; rw [hco]; rintro e w2 ⟨rfl, hb2⟩))
    go_ret
    exact ⟨ret_string (by rw [HD.out]), by (repeat (first | exact Below.refl _ _ | assumption | refine bl_alloc ?_ _ | refine bl_drewN ?_ _ | refine bl_drew ?_ | refine bl_grow ?_ _ _ | refine bl_set (Nat.le_refl _) ?_ _ | refine bl_call ?_ (by assumption)))⟩
  · have hrange : (1 ≤ op ∧ op ≤ 10) ∨ (21 ≤ op ∧ op ≤ 37) := by
      cases hco : Stil.isCoil op ds
      · rw [hco, Bool.or_false] at hok
        have := contact_shape hok; exact Or.inl ⟨this.1, this.2.1⟩
      · have := coil_shape hco; exact Or.inr ⟨this.1, this.2.1⟩
    have hlen : 0 < ds.length ∧ ds.length ≤ 3 := by
      cases hco : Stil.isCoil op ds
      · rw [hco, Bool.or_false] at hok
        rcases (contact_shape hok).2.2 with ⟨_, a, rfl⟩ | ⟨_, a, b, rfl⟩ <;> simp
      · have := coil_shape hco; exact ⟨this.2.2.1, this.2.2.2⟩
    obtain ⟨hwf, hnz, hword⟩ := write_fn hrange
    rw [← write_eq hok]
    exact i_elemText_go op v ds (writeOf op) w hr hw hpw hat hfit hok hlen.1 hlen.2 hwf hnz hword
end Go.Proofs.YtnbdgpepancfnabDoor
