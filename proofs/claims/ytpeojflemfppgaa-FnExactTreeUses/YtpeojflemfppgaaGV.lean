/- U1, U2, U3, U4: texts put together. -/
import Derived.Test.YtpeojflemfppgaaGT
import Derived.Test.YtpeojflemfppgaaGM
import Derived.Test.YtpeojflemfppgaaGU
import Derived.Test.YtpeojflemfppgaaGO
/- Contracts of chapter 3, of the specification and of the program: how often an operand stands in a contact or coil. -/
namespace Go.Proofs.Ytpeojflemfppgaa
open Go.RowKit Go.Sort Go.BigFrame
set_option maxHeartbeats 1000000 in
set_option maxRecDepth 100000 in
theorem s_elemUses (op : Int) (d : Stil.Dev) (ds : List Stil.Dev) (av : Value) (w : World) (hat : DevsAt w av ds) (hl : ds.length ≤ 1048576) :
    Calls Try.prog 29 #[.agg #[.int .i64 op, av], .agg #[.int .i64 d.kind, .int .i64 d.n, .int .i64 d.p]] w fun r w' => r = .returned (.int .i64 (Stil.devsUses d ds)) ∧ Below w.heap.size w w' := by
  obtain ⟨a, cap, rfl, hc1⟩ := hat
  have HA : Hid (∀ i (h : i < ds.length), ∃ b o, a = some ⟨b, o, none⟩ ∧ b < w.heap.size ∧ DevAt w b (o + i * 3) ds[i]) := hc1
  clear hc1
  go_enter Try.func29, Try.ntmps29
  go_wp2
  go_loopw [5, 6] (fun n i wr => ∃ k : Nat, k ≤ ds.length ∧ i = .int .i64 k ∧ n = .int .i64 (Stil.devsUses d (ds.take k)) ∧ Below (w.heap.size + 2) ((w.alloc (.cells #[.int .i64 op, .slice a ds.length cap] 49)).alloc (.cells #[.int .i64 d.kind, .int .i64 d.n, .int .i64 d.p] 33)) wr) (fun _ i _ => ds.length - (intOf i).toNat)
  case atStart => exact ⟨0, by omega, rfl, by simp [Stil.devsUses], Below.refl _ _⟩
  case round =>
    obtain ⟨k, hk, rfl, rfl, hB⟩ := hrel
    have hz0 : w.heap.size < wr.heap.size := by have := hB.size; simp at this; omega
    have c00 : wr.cell? ⟨w.heap.size, 0, none⟩ = some (.int .i64 op) := by rw [hB.cell (p := ⟨w.heap.size, 0, none⟩) (by simp)]; simp [go_sem]
    have f00 : wr.frozen? ⟨w.heap.size, 0, none⟩ = false := by rw [hB.frozen (p := ⟨w.heap.size, 0, none⟩) (by simp)]; simp [go_sem]
    have c01 : wr.cell? ⟨w.heap.size, 1, none⟩ = some (.slice a ds.length cap) := by rw [hB.cell (p := ⟨w.heap.size, 1, none⟩) (by simp)]; simp [go_sem]
    have f01 : wr.frozen? ⟨w.heap.size, 1, none⟩ = false := by rw [hB.frozen (p := ⟨w.heap.size, 1, none⟩) (by simp)]; simp [go_sem]
    have hz1 : w.heap.size + 1 < wr.heap.size := by have := hB.size; simp at this; omega
    have c10 : wr.cell? ⟨w.heap.size + 1, 0, none⟩ = some (.int .i64 d.kind) := by rw [hB.cell (p := ⟨w.heap.size + 1, 0, none⟩) (by simp)]; simp [go_sem]
    have f10 : wr.frozen? ⟨w.heap.size + 1, 0, none⟩ = false := by rw [hB.frozen (p := ⟨w.heap.size + 1, 0, none⟩) (by simp)]; simp [go_sem]
    have c11 : wr.cell? ⟨w.heap.size + 1, 1, none⟩ = some (.int .i64 d.n) := by rw [hB.cell (p := ⟨w.heap.size + 1, 1, none⟩) (by simp)]; simp [go_sem]
    have f11 : wr.frozen? ⟨w.heap.size + 1, 1, none⟩ = false := by rw [hB.frozen (p := ⟨w.heap.size + 1, 1, none⟩) (by simp)]; simp [go_sem]
    have c12 : wr.cell? ⟨w.heap.size + 1, 2, none⟩ = some (.int .i64 d.p) := by rw [hB.cell (p := ⟨w.heap.size + 1, 2, none⟩) (by simp)]; simp [go_sem]
    have f12 : wr.frozen? ⟨w.heap.size + 1, 2, none⟩ = false := by rw [hB.frozen (p := ⟨w.heap.size + 1, 2, none⟩) (by simp)]; simp [go_sem]
    have hbw : Below w.heap.size w wr := (bl_alloc (below_alloc _ _) _).trans (hB.mono (by omega))
    have hub := Stil.devsUses_le d (ds.take k)
    rw [List.length_take] at hub
    by_cases hlt : k < ds.length
    · obtain ⟨b1, o1, rfl, hbl1, hd1⟩ := HA.out k hlt
      obtain ⟨x0, x1, x2⟩ := hd1.below hbw hbl1
      have hb1z : b1 < wr.heap.size := lt_of_cell3 x0
      have HSU : Hid (Stil.devsUses d (ds.take (k + 1)) = Stil.devsUses d (ds.take k) + (if Stil.devSame ds[k] d then 1 else 0)) := by
        show _ = _
        unfold Stil.devsUses
        rw [List.take_succ_eq_append_getElem hlt, List.map_append, List.sum_append]
        simp
      obtain ⟨u, hu⟩ : ∃ u, u = Stil.devsUses d (ds.take k) := ⟨_, rfl⟩
      rw [← hu] at HSU hub ⊢
      clear hu
      by_cases hxy : ds[k] = d
      · have HXY : Hid (Stil.devsUses d (ds.take (k + 1)) = u + 1) := by show _ = _; rw [HSU.out, hxy]; simp [Stil.devSame]
        rw [hxy] at x0 x1 x2
        clear hxy hd1 HSU
        go_wp2
        go_region
        all_goals go_wp2
        refine ⟨⟨k + 1, by omega, by go_num, by rw [HXY.out]; go_num, ?_⟩, by simp [intOf]; omega⟩
        exact hB.trans (by (repeat (first | with_reducible exact Below.refl _ _ | (with_reducible refine Below.alloc ?_ (by first | omega | (simp; omega)) _) | with_reducible refine Below.drew ?_)))
      · have hcase : (ds[k].kind == d.kind) = false ∨ (ds[k].kind = d.kind ∧ (ds[k].n == d.n) = false) ∨ (ds[k].kind = d.kind ∧ ds[k].n = d.n ∧ (ds[k].p == d.p) = false) := by
          simp only [beq_eq_false_iff_ne]
          by_cases h1 : ds[k].kind = d.kind
          · by_cases h2 : ds[k].n = d.n
            · exact .inr (.inr ⟨h1, h2, fun h3 => hxy ((dev_eta _ _).2 ⟨h1, h2, h3⟩)⟩)
            · exact .inr (.inl ⟨h1, h2⟩)
          · exact .inl h1
        have HXY : Hid (Stil.devsUses d (ds.take (k + 1)) = u) := by
          show _ = _
          rw [HSU.out]
          rcases hcase with h | ⟨_, h⟩ | ⟨_, _, h⟩ <;> simp [Stil.devSame, h]
        obtain ⟨x, hx⟩ : ∃ x, x = ds[k] := ⟨_, rfl⟩
        rw [← hx] at x0 x1 x2 hcase
        clear hx hxy hd1 HSU
        rcases hcase with h1 | ⟨h1, h2⟩ | ⟨h1, h2, h3⟩
        · go_wp2
          go_region
          all_goals go_wp2
          refine ⟨⟨k + 1, by omega, by go_num, by rw [HXY.out], ?_⟩, by simp [intOf]; omega⟩
          exact hB.trans (by (repeat (first | with_reducible exact Below.refl _ _ | (with_reducible refine Below.alloc ?_ (by first | omega | (simp; omega)) _) | with_reducible refine Below.drew ?_)))
        · rw [h1] at x0
          clear h1
          go_wp2
          go_region
          all_goals go_wp2
          refine ⟨⟨k + 1, by omega, by go_num, by rw [HXY.out], ?_⟩, by simp [intOf]; omega⟩
          exact hB.trans (by (repeat (first | with_reducible exact Below.refl _ _ | (with_reducible refine Below.alloc ?_ (by first | omega | (simp; omega)) _) | with_reducible refine Below.drew ?_)))
        · rw [h1] at x0
          rw [h2] at x1
          clear h1 h2
          go_wp2
          go_region
          all_goals go_wp2
          refine ⟨⟨k + 1, by omega, by go_num, by rw [HXY.out], ?_⟩, by simp [intOf]; omega⟩
          exact hB.trans (by (repeat (first | with_reducible exact Below.refl _ _ | (with_reducible refine Below.alloc ?_ (by first | omega | (simp; omega)) _) | with_reducible refine Below.drew ?_)))
    · go_wp2
      go_ret
      refine ⟨ret_int ?_, hbw⟩
      rw [List.take_of_length_le (by omega)]
set_option maxHeartbeats 1000000 in
set_option maxRecDepth 100000 in
theorem i_names (op : Int) (d : Stil.Dev) (ds : List Stil.Dev) (av : Value) (w : World) (hat : DevsAt w av ds) (hl : ds.length ≤ 1048576) :
    Calls Try.prog 32 #[.agg #[.int .i64 op, av], .agg #[.int .i64 d.kind, .int .i64 d.n, .int .i64 d.p]] w fun r w' => r = .returned (.int .i64 (Stil.devsUses d ds)) ∧ Below w.heap.size w w' := by
  obtain ⟨a, cap, rfl, hc1⟩ := hat
  have HA : Hid (∀ i (h : i < ds.length), ∃ b o, a = some ⟨b, o, none⟩ ∧ b < w.heap.size ∧ DevAt w b (o + i * 3) ds[i]) := hc1
  clear hc1
  go_enter Try.func32, Try.ntmps32
  go_wp2
  go_loopw [5, 11] (fun n i wr => ∃ k : Nat, k ≤ ds.length ∧ i = .int .i64 k ∧ n = .int .i64 (Stil.devsUses d (ds.take k)) ∧ Below (w.heap.size + 2) ((w.alloc (.cells #[.int .i64 op, .slice a ds.length cap] 49)).alloc (.cells #[.int .i64 d.kind, .int .i64 d.n, .int .i64 d.p] 33)) wr) (fun _ i _ => ds.length - (intOf i).toNat)
  case atStart => exact ⟨0, by omega, rfl, by simp [Stil.devsUses], Below.refl _ _⟩
  case round =>
    obtain ⟨k, hk, rfl, rfl, hB⟩ := hrel
    have hz0 : w.heap.size < wr.heap.size := by have := hB.size; simp at this; omega
    have c00 : wr.cell? ⟨w.heap.size, 0, none⟩ = some (.int .i64 op) := by rw [hB.cell (p := ⟨w.heap.size, 0, none⟩) (by simp)]; simp [go_sem]
    have f00 : wr.frozen? ⟨w.heap.size, 0, none⟩ = false := by rw [hB.frozen (p := ⟨w.heap.size, 0, none⟩) (by simp)]; simp [go_sem]
    have c01 : wr.cell? ⟨w.heap.size, 1, none⟩ = some (.slice a ds.length cap) := by rw [hB.cell (p := ⟨w.heap.size, 1, none⟩) (by simp)]; simp [go_sem]
    have f01 : wr.frozen? ⟨w.heap.size, 1, none⟩ = false := by rw [hB.frozen (p := ⟨w.heap.size, 1, none⟩) (by simp)]; simp [go_sem]
    have hz1 : w.heap.size + 1 < wr.heap.size := by have := hB.size; simp at this; omega
    have c10 : wr.cell? ⟨w.heap.size + 1, 0, none⟩ = some (.int .i64 d.kind) := by rw [hB.cell (p := ⟨w.heap.size + 1, 0, none⟩) (by simp)]; simp [go_sem]
    have f10 : wr.frozen? ⟨w.heap.size + 1, 0, none⟩ = false := by rw [hB.frozen (p := ⟨w.heap.size + 1, 0, none⟩) (by simp)]; simp [go_sem]
    have c11 : wr.cell? ⟨w.heap.size + 1, 1, none⟩ = some (.int .i64 d.n) := by rw [hB.cell (p := ⟨w.heap.size + 1, 1, none⟩) (by simp)]; simp [go_sem]
    have f11 : wr.frozen? ⟨w.heap.size + 1, 1, none⟩ = false := by rw [hB.frozen (p := ⟨w.heap.size + 1, 1, none⟩) (by simp)]; simp [go_sem]
    have c12 : wr.cell? ⟨w.heap.size + 1, 2, none⟩ = some (.int .i64 d.p) := by rw [hB.cell (p := ⟨w.heap.size + 1, 2, none⟩) (by simp)]; simp [go_sem]
    have f12 : wr.frozen? ⟨w.heap.size + 1, 2, none⟩ = false := by rw [hB.frozen (p := ⟨w.heap.size + 1, 2, none⟩) (by simp)]; simp [go_sem]
    have hbw : Below w.heap.size w wr := (bl_alloc (below_alloc _ _) _).trans (hB.mono (by omega))
    have hub := Stil.devsUses_le d (ds.take k)
    rw [List.length_take] at hub
    by_cases hlt : k < ds.length
    · obtain ⟨b1, o1, rfl, hbl1, hd1⟩ := HA.out k hlt
      obtain ⟨x0, x1, x2⟩ := hd1.below hbw hbl1
      have hb1z : b1 < wr.heap.size := lt_of_cell3 x0
      have HSU : Hid (Stil.devsUses d (ds.take (k + 1)) = Stil.devsUses d (ds.take k) + (if Stil.devSame ds[k] d then 1 else 0)) := by
        show _ = _
        unfold Stil.devsUses
        rw [List.take_succ_eq_append_getElem hlt, List.map_append, List.sum_append]
        simp
      obtain ⟨u, hu⟩ : ∃ u, u = Stil.devsUses d (ds.take k) := ⟨_, rfl⟩
      rw [← hu] at HSU hub ⊢
      clear hu
      by_cases hxy : ds[k] = d
      · have HXY : Hid (Stil.devsUses d (ds.take (k + 1)) = u + 1) := by show _ = _; rw [HSU.out, hxy]; simp [Stil.devSame]
        rw [hxy] at x0 x1 x2
        clear hxy hd1 HSU
        go_wp2
        refine ⟨⟨k + 1, by omega, by go_num, by rw [HXY.out]; go_num, ?_⟩, by simp [intOf]; omega⟩
        exact hB.trans (by (repeat (first | with_reducible exact Below.refl _ _ | (with_reducible refine Below.alloc ?_ (by first | omega | (simp; omega)) _) | with_reducible refine Below.drew ?_)))
      · have hcase : (ds[k].kind == d.kind) = false ∨ (ds[k].kind = d.kind ∧ (ds[k].n == d.n) = false) ∨ (ds[k].kind = d.kind ∧ ds[k].n = d.n ∧ (ds[k].p == d.p) = false) := by
          simp only [beq_eq_false_iff_ne]
          by_cases h1 : ds[k].kind = d.kind
          · by_cases h2 : ds[k].n = d.n
            · exact .inr (.inr ⟨h1, h2, fun h3 => hxy ((dev_eta _ _).2 ⟨h1, h2, h3⟩)⟩)
            · exact .inr (.inl ⟨h1, h2⟩)
          · exact .inl h1
        have HXY : Hid (Stil.devsUses d (ds.take (k + 1)) = u) := by
          show _ = _
          rw [HSU.out]
          rcases hcase with h | ⟨_, h⟩ | ⟨_, _, h⟩ <;> simp [Stil.devSame, h]
        obtain ⟨x, hx⟩ : ∃ x, x = ds[k] := ⟨_, rfl⟩
        rw [← hx] at x0 x1 x2 hcase
        clear hx hxy hd1 HSU
        rcases hcase with h1 | ⟨h1, h2⟩ | ⟨h1, h2, h3⟩
        · go_wp2
          refine ⟨⟨k + 1, by omega, by go_num, by rw [HXY.out], ?_⟩, by simp [intOf]; omega⟩
          exact hB.trans (by (repeat (first | with_reducible exact Below.refl _ _ | (with_reducible refine Below.alloc ?_ (by first | omega | (simp; omega)) _) | with_reducible refine Below.drew ?_)))
        · rw [h1] at x0
          clear h1
          go_wp2
          refine ⟨⟨k + 1, by omega, by go_num, by rw [HXY.out], ?_⟩, by simp [intOf]; omega⟩
          exact hB.trans (by (repeat (first | with_reducible exact Below.refl _ _ | (with_reducible refine Below.alloc ?_ (by first | omega | (simp; omega)) _) | with_reducible refine Below.drew ?_)))
        · rw [h1] at x0
          rw [h2] at x1
          clear h1 h2
          go_wp2
          refine ⟨⟨k + 1, by omega, by go_num, by rw [HXY.out], ?_⟩, by simp [intOf]; omega⟩
          exact hB.trans (by (repeat (first | with_reducible exact Below.refl _ _ | (with_reducible refine Below.alloc ?_ (by first | omega | (simp; omega)) _) | with_reducible refine Below.drew ?_)))
    · go_wp2
      go_ret
      refine ⟨ret_int ?_, hbw⟩
      rw [List.take_of_length_le (by omega)]
end Go.Proofs.Ytpeojflemfppgaa
/- Contracts of the specification's chapter 3: how often an operand stands in a net, in a ladder. -/
namespace Go.Proofs.Ytpeojflemfppgaa
open Go.RowKit Go.Sort Go.BigFrame
set_option maxHeartbeats 1000000 in
set_option maxRecDepth 100000 in
theorem s_netUses (d : Stil.Dev) (n : Stil.Net) : ∀ (av kv : Value) (w : World), DevsAt w av n.one.args → NetsAt w kv n.kids → Stil.netFits n → Stil.netUses d n ≤ 1000000000 →
    Calls Try.prog 28 #[.agg #[.int .i64 n.kind, .int .i64 n.one.op, av, kv], .agg #[.int .i64 d.kind, .int .i64 d.n, .int .i64 d.p]] w fun e w' => e = .returned (.int .i64 (Stil.netUses d n)) ∧ Below w.heap.size w w' := by
  induction n using Stil.net_ind with
  | h k e kids ih =>
    intro av kv w hav hkv hft hsz
    obtain ⟨_, hef, hlen, hkf⟩ := Stil.netFits_parts hft
    have IH : Hid (∀ x ∈ kids, ∀ (av kv : Value) (w : World), DevsAt w av x.one.args → NetsAt w kv x.kids → Stil.netFits x → Stil.netUses d x ≤ 1000000000 →
      Calls Try.prog 28 #[.agg #[.int .i64 x.kind, .int .i64 x.one.op, av, kv], .agg #[.int .i64 d.kind, .int .i64 d.n, .int .i64 d.p]] w fun e w' => e = .returned (.int .i64 (Stil.netUses d x)) ∧ Below w.heap.size w w') := ih
    have HKF : Hid (∀ x ∈ kids, Stil.netFits x) := hkf
    have HZ : Hid (Stil.netUses d ⟨k, e, kids⟩ = Stil.elemUses d e + (kids.map (Stil.netUses d)).sum) := Stil.netUses_eq d _
    have hsum : Stil.elemUses d e + (kids.map (Stil.netUses d)).sum ≤ 1000000000 := by have := HZ.out; omega
    simp only at hav hkv hlen
    have HE : Hid (∀ W, Below w.heap.size w W → Calls Try.prog 29 #[.agg #[.int .i64 e.op, av], .agg #[.int .i64 d.kind, .int .i64 d.n, .int .i64 d.p]] W fun r w' => r = .returned (.int .i64 (Stil.elemUses d e)) ∧ Below W.heap.size W w') := fun W hW => s_elemUses e.op d e.args av W (hav.below hW) hef.2.1
    obtain ⟨a, cap, rfl, hc⟩ := hkv
    have HC : Hid (∀ i (h : i < kids.length), ∃ b o, a = some ⟨b, o, none⟩ ∧ b < w.heap.size ∧ NetAt w b (o + i * 4) kids[i]) := hc
    obtain ⟨aa, acap, rfl, _⟩ := hav
    obtain ⟨E, hE⟩ : ∃ E, E = Stil.elemUses d e := ⟨_, rfl⟩
    rw [← hE] at HE HZ hsum
    clear ih hc hsz hft hef hkf hE
    go_enter Try.func28, Try.ntmps28
    go_wp2_with (go_at_call 29; refine (HE.out _ (by (repeat (first | exact Below.refl _ _ | assumption | refine bl_alloc ?_ _ | refine bl_drewN ?_ _ | refine bl_drew ?_ | refine bl_grow ?_ _ _ | refine bl_set (Nat.le_refl _) ?_ _ | refine bl_call ?_ (by assumption))))).mono ?_; rintro r w1 ⟨rfl, hb1⟩; obtain ⟨hcc, hff⟩ := bcell hb1)
    go_loopw [5, 6] (fun acc i wr => ∃ j : Nat, j ≤ kids.length ∧ i = .int .i64 j ∧ acc = .int .i64 (E + ((kids.map (Stil.netUses d)).take j).sum : Nat) ∧ Below (w.heap.size + 2) ((w.alloc (.cells #[.int .i64 k, .int .i64 e.op, .slice aa e.args.length acap, .slice a kids.length cap] 52)).alloc (.cells #[.int .i64 d.kind, .int .i64 d.n, .int .i64 d.p] 33)) wr) (fun _ i _ => kids.length - (intOf i).toNat)
    case atStart => exact ⟨0, by omega, rfl, by simp, by simpa using hb1⟩
    case round =>
      clear hb1 hcc hff
      obtain ⟨j, hj, rfl, rfl, hB⟩ := hrel
      have hz0 : w.heap.size < wr.heap.size := by have := hB.size; simp at this; omega
      have c00 : wr.cell? ⟨w.heap.size, 0, none⟩ = some (.int .i64 k) := by rw [hB.cell (p := ⟨w.heap.size, 0, none⟩) (by simp)]; simp [go_sem]
      have f00 : wr.frozen? ⟨w.heap.size, 0, none⟩ = false := by rw [hB.frozen (p := ⟨w.heap.size, 0, none⟩) (by simp)]; simp [go_sem]
      have c01 : wr.cell? ⟨w.heap.size, 1, none⟩ = some (.int .i64 e.op) := by rw [hB.cell (p := ⟨w.heap.size, 1, none⟩) (by simp)]; simp [go_sem]
      have f01 : wr.frozen? ⟨w.heap.size, 1, none⟩ = false := by rw [hB.frozen (p := ⟨w.heap.size, 1, none⟩) (by simp)]; simp [go_sem]
      have c02 : wr.cell? ⟨w.heap.size, 2, none⟩ = some (.slice aa e.args.length acap) := by rw [hB.cell (p := ⟨w.heap.size, 2, none⟩) (by simp)]; simp [go_sem]
      have f02 : wr.frozen? ⟨w.heap.size, 2, none⟩ = false := by rw [hB.frozen (p := ⟨w.heap.size, 2, none⟩) (by simp)]; simp [go_sem]
      have c03 : wr.cell? ⟨w.heap.size, 3, none⟩ = some (.slice a kids.length cap) := by rw [hB.cell (p := ⟨w.heap.size, 3, none⟩) (by simp)]; simp [go_sem]
      have f03 : wr.frozen? ⟨w.heap.size, 3, none⟩ = false := by rw [hB.frozen (p := ⟨w.heap.size, 3, none⟩) (by simp)]; simp [go_sem]
      have hz1 : w.heap.size + 1 < wr.heap.size := by have := hB.size; simp at this; omega
      have c10 : wr.cell? ⟨w.heap.size + 1, 0, none⟩ = some (.int .i64 d.kind) := by rw [hB.cell (p := ⟨w.heap.size + 1, 0, none⟩) (by simp)]; simp [go_sem]
      have f10 : wr.frozen? ⟨w.heap.size + 1, 0, none⟩ = false := by rw [hB.frozen (p := ⟨w.heap.size + 1, 0, none⟩) (by simp)]; simp [go_sem]
      have c11 : wr.cell? ⟨w.heap.size + 1, 1, none⟩ = some (.int .i64 d.n) := by rw [hB.cell (p := ⟨w.heap.size + 1, 1, none⟩) (by simp)]; simp [go_sem]
      have f11 : wr.frozen? ⟨w.heap.size + 1, 1, none⟩ = false := by rw [hB.frozen (p := ⟨w.heap.size + 1, 1, none⟩) (by simp)]; simp [go_sem]
      have c12 : wr.cell? ⟨w.heap.size + 1, 2, none⟩ = some (.int .i64 d.p) := by rw [hB.cell (p := ⟨w.heap.size + 1, 2, none⟩) (by simp)]; simp [go_sem]
      have f12 : wr.frozen? ⟨w.heap.size + 1, 2, none⟩ = false := by rw [hB.frozen (p := ⟨w.heap.size + 1, 2, none⟩) (by simp)]; simp [go_sem]
      have hbw : Below w.heap.size w wr := (bl_alloc (below_alloc _ _) _).trans (hB.mono (by omega))
      have hle := sum_take_le (kids.map (Stil.netUses d)) j
      by_cases hlt : j < kids.length
      · obtain ⟨b, o, rfl, hbl, hn⟩ := HC.out j hlt
        obtain ⟨x0, x1, av, kv, x2, x3, hav, hkv⟩ := (NetAt.below hbw _ _ _ hn hbl).open
        have hsucc := sum_take_succ (kids.map (Stil.netUses d)) j (by simpa using hlt)
        have hle2 := sum_take_le (kids.map (Stil.netUses d)) (j + 1)
        rw [List.getElem_map] at hsucc
        have HI : Hid (∀ W, Below wr.heap.size wr W → Calls Try.prog 28 #[.agg #[.int .i64 kids[j].kind, .int .i64 kids[j].one.op, av, kv], .agg #[.int .i64 d.kind, .int .i64 d.n, .int .i64 d.p]] W fun e w' => e = .returned (.int .i64 (Stil.netUses d kids[j])) ∧ Below W.heap.size W w') := fun W hW => IH.out kids[j] (List.getElem_mem hlt) av kv W (hav.below hW) (hkv.below hW) (HKF.out _ (List.getElem_mem hlt)) (by omega)
        obtain ⟨s, hs⟩ : ∃ s, s = Stil.netUses d kids[j] := ⟨_, rfl⟩
        obtain ⟨x, hx⟩ : ∃ x, x = kids[j] := ⟨_, rfl⟩
        rw [← hs] at HI hsucc
        rw [← hx] at HI x0 x1
        obtain ⟨aa', acap', rfl, _⟩ := hav
        obtain ⟨a', cap', rfl, _⟩ := hkv
        generalize hA1 : ((kids.map (Stil.netUses d)).take j).sum = A1 at hsucc hle ⊢
        have HS : Hid (((kids.map (Stil.netUses d)).take (j + 1)).sum = A1 + s) := hsucc
        have hsb : E + A1 + s ≤ 1000000000 := by omega
        clear hs hx hn hA1 hsucc hle2 hle hsum
        have rx0 := cell_regrown x0
        have rx1 := cell_regrown x1
        have rx2 := cell_regrown x2
        have rx3 := cell_regrown x3
        have rc3 := cell_regrown c03
        have rd0 := cell_regrown c10
        have rd1 := cell_regrown c11
        have rd2 := cell_regrown c12
        go_wp2
        refine wp_region_quiet_below (by kernel_rfl) (by kernel_rfl) ?_
        repeat (go_big_quiet_step ((exact Calls.regrown_of (HI.out _ (by (repeat (first | exact Below.refl _ _ | assumption | refine bl_alloc ?_ _ | refine bl_drewN ?_ _ | refine bl_drew ?_ | refine bl_grow ?_ _ _ | refine bl_set (Nat.le_refl _) ?_ _ | refine bl_call ?_ (by assumption))))))))
        refine wpQuiet_nil ?_
        intro _ hw'
        obtain ⟨⟨dq, osq⟩, hw''⟩ := hw'
        subst hw''
        go_wp2
        refine ⟨⟨j + 1, by omega, by go_num, ?_, hB.trans ((below_regrown _ dq osq).mono (by omega))⟩, by simp [intOf]; omega⟩
        rw [HS.out]; congr 1; omega
      · go_wp2
        go_ret
        refine ⟨ret_int ?_, hbw⟩
        rw [HZ.out, List.take_of_length_le (by simp; omega)]
end Go.Proofs.Ytpeojflemfppgaa
/- Contracts of the specification's chapter 3: TreeUses. -/
namespace Go.Proofs.Ytpeojflemfppgaa
open Go.RowKit Go.Sort Go.BigFrame
def UsesOk (d : Stil.Dev) (l : List Stil.Arm) : Prop := ∀ (v : Value) (w : World), ArmsAt w v l → Calls Try.prog 13 #[v, .agg #[.int .i64 d.kind, .int .i64 d.n, .int .i64 d.p]] w fun e w' => e = .returned (.int .i64 (Stil.treeUses d l)) ∧ Below w.heap.size w w'
set_option maxHeartbeats 4000000 in
set_option maxRecDepth 100000 in
theorem s_usesList (d : Stil.Dev) (l : List Stil.Arm) (hl : l.length ≤ 1048576) (hf : ∀ x ∈ l, Stil.armFits x) (hsz : Stil.treeUses d l ≤ 1000000000) (ih : ∀ x ∈ l, UsesOk d x.kids) : UsesOk d l := by
  intro v w hat
  obtain ⟨a, cap, rfl, hc⟩ := hat
  have HC : Hid (∀ i (h : i < l.length), ∃ b o, a = some ⟨b, o, none⟩ ∧ b < w.heap.size ∧ ArmAt w b (o + i * 6) l[i]) := hc
  have IH : Hid (∀ x ∈ l, UsesOk d x.kids) := ih
  have HF : Hid (∀ x ∈ l, Stil.armFits x) := hf
  have HZ : Hid (Stil.treeUses d l = (l.map (Stil.armUses d)).sum) := rfl
  have hsum : (l.map (Stil.armUses d)).sum ≤ 1000000000 := hsz
  clear hc hf ih hsz
  go_enter Try.func13, Try.ntmps13
  go_wp2
  go_loopw [5, 6] (fun acc i wr => ∃ j : Nat, j ≤ l.length ∧ i = .int .i64 j ∧ acc = .int .i64 (((l.map (Stil.armUses d)).take j).sum : Nat) ∧ Below (w.heap.size + 1) (w.alloc (.cells #[.int .i64 d.kind, .int .i64 d.n, .int .i64 d.p] 33)) wr) (fun _ i _ => l.length - (intOf i).toNat)
  case atStart => exact ⟨0, by omega, rfl, by simp, Below.refl _ _⟩
  case round =>
    obtain ⟨j, hj, rfl, rfl, hB⟩ := hrel
    obtain ⟨X, rfl⟩ : ∃ X, X = wr := ⟨_, rfl⟩
    have hz : w.heap.size < X.heap.size := by have := hB.size; simp at this; omega
    have c0 : X.cell? ⟨w.heap.size, 0, none⟩ = some (.int .i64 d.kind) := by rw [hB.cell (p := ⟨w.heap.size, 0, none⟩) (by simp)]; simp [go_sem]
    have f0 : X.frozen? ⟨w.heap.size, 0, none⟩ = false := by rw [hB.frozen (p := ⟨w.heap.size, 0, none⟩) (by simp)]; simp [go_sem]
    have c1 : X.cell? ⟨w.heap.size, 1, none⟩ = some (.int .i64 d.n) := by rw [hB.cell (p := ⟨w.heap.size, 1, none⟩) (by simp)]; simp [go_sem]
    have f1 : X.frozen? ⟨w.heap.size, 1, none⟩ = false := by rw [hB.frozen (p := ⟨w.heap.size, 1, none⟩) (by simp)]; simp [go_sem]
    have c2 : X.cell? ⟨w.heap.size, 2, none⟩ = some (.int .i64 d.p) := by rw [hB.cell (p := ⟨w.heap.size, 2, none⟩) (by simp)]; simp [go_sem]
    have f2 : X.frozen? ⟨w.heap.size, 2, none⟩ = false := by rw [hB.frozen (p := ⟨w.heap.size, 2, none⟩) (by simp)]; simp [go_sem]
    have hbw : Below w.heap.size w X := (below_alloc _ _).trans (hB.mono (by omega))
    have hle := sum_take_le (l.map (Stil.armUses d)) j
    by_cases hlt : j < l.length
    · obtain ⟨b, o, rfl, hbl, hn⟩ := HC.out j hlt
      obtain ⟨hna, cv, kv, x4, x5, hcv, hkv⟩ := (ArmAt.below hbw _ _ _ hn hbl).open
      obtain ⟨x0, x1, av, nv, x2, x3, hav, hnv⟩ := hna.open
      have hsucc := sum_take_succ (l.map (Stil.armUses d)) j (by simpa using hlt)
      have hle2 := sum_take_le (l.map (Stil.armUses d)) (j + 1)
      rw [List.getElem_map] at hsucc
      obtain ⟨hnf, hcl, hcf, _⟩ := Stil.armFits_parts (HF.out _ (List.getElem_mem hlt))
      have hau := Stil.armUses_eq d l[j]
      have H1 : Hid (∀ W, Below X.heap.size X W → Calls Try.prog 28 #[.agg #[.int .i64 l[j].net.kind, .int .i64 l[j].net.one.op, av, nv], .agg #[.int .i64 d.kind, .int .i64 d.n, .int .i64 d.p]] W fun e w' => e = .returned (.int .i64 (Stil.netUses d l[j].net)) ∧ Below W.heap.size W w') := fun W hW => s_netUses d l[j].net av nv W (hav.below hW) (hnv.below hW) hnf (by omega)
      have H3 : Hid (∀ W, Below X.heap.size X W → Calls Try.prog 13 #[kv, .agg #[.int .i64 d.kind, .int .i64 d.n, .int .i64 d.p]] W fun e w' => e = .returned (.int .i64 (Stil.treeUses d l[j].kids)) ∧ Below W.heap.size W w') := fun W hW => IH.out l[j] (List.getElem_mem hlt) kv W (hkv.below hW)
      have H2 : Hid (∀ c ∈ l[j].coils, ∀ (v : Value) (W : World), DevsAt W v c.args → Calls Try.prog 29 #[.agg #[.int .i64 c.op, v], .agg #[.int .i64 d.kind, .int .i64 d.n, .int .i64 d.p]] W fun r w' => r = .returned (.int .i64 (Stil.elemUses d c)) ∧ Below W.heap.size W w') := fun c hc v W hv => s_elemUses c.op d c.args v W hv (hcf c hc).2.1
      obtain ⟨y, hy⟩ : ∃ y, y = l[j] := ⟨_, rfl⟩
      rw [← hy] at H1 H2 H3 x0 x1 hau hsucc hcv hcl hav hnv hkv
      have hku : (y.kids.map (Stil.armUses d)).sum = Stil.treeUses d y.kids := rfl
      have hcu : Stil.coilsUses d y.coils = (y.coils.map (Stil.elemUses d)).sum := rfl
      obtain ⟨s, hs⟩ : ∃ s, s = Stil.armUses d y := ⟨_, rfl⟩
      obtain ⟨s1, hs1⟩ : ∃ s, s = Stil.netUses d y.net := ⟨_, rfl⟩
      obtain ⟨s3, hs3⟩ : ∃ s, s = Stil.treeUses d y.kids := ⟨_, rfl⟩
      rw [← hs] at hau hsucc
      rw [← hs1] at H1 hau
      rw [hku, ← hs3] at hau
      rw [hcu] at hau
      rw [← hs3] at H3
      have hcvk := hcv
      obtain ⟨q1, q2, rfl, _⟩ := hav
      obtain ⟨q3, q4, rfl, _⟩ := hnv
      obtain ⟨q5, q6, rfl, hcc⟩ := hcv
      obtain ⟨q7, q8, rfl, _⟩ := hkv
      have HCC : Hid (∀ i (h : i < y.coils.length), ∃ b o, q5 = some ⟨b, o, none⟩ ∧ b < X.heap.size ∧ ElemAt X b (o + i * 2) y.coils[i]) := hcc
      generalize hA1 : ((l.map (Stil.armUses d)).take j).sum = A1 at hsucc hle ⊢
      have HS : Hid (((l.map (Stil.armUses d)).take (j + 1)).sum = A1 + s) := hsucc
      have hsb : A1 + s ≤ 1000000000 := by omega
      obtain ⟨T, hT⟩ : ∃ T, T = (y.coils.map (Stil.elemUses d)).sum := ⟨_, rfl⟩
      rw [← hT] at hau
      have HT : Hid (T = (y.coils.map (Stil.elemUses d)).sum) := hT
      clear hs hs1 hs3 hy hn hna hA1 hsucc hle2 hle hsum hku hcu hcc hcvk hnf hcf hT
      have rx0 := cell_regrown x0
      have rx1 := cell_regrown x1
      have rx2 := cell_regrown x2
      have rx3 := cell_regrown x3
      have rx4 := cell_regrown x4
      have rx5 := cell_regrown x5
      have rd0 := cell_regrown c0
      have rd1 := cell_regrown c1
      have rd2 := cell_regrown c2
      go_wp2
      refine wp_region_quiet_below (by kernel_rfl) (by kernel_rfl) ?_
      repeat (go_big_quiet_step ((exact Calls.regrown_of (H1.out _ (by (repeat (first | exact Below.refl _ _ | assumption | refine bl_alloc ?_ _ | refine bl_drewN ?_ _ | refine bl_drew ?_ | refine bl_grow ?_ _ _ | refine bl_set (Nat.le_refl _) ?_ _ | refine bl_call ?_ (by assumption))))))))
      refine wpQuiet_nil ?_
      intro _ hw'
      obtain ⟨⟨dq, osq⟩, hw''⟩ := hw'
      subst hw''
      go_wp2
      go_loopw [5, 7] (fun acc i wq => ∃ m : Nat, m ≤ y.coils.length ∧ i = .int .i64 m ∧ acc = .int .i64 (A1 + s1 + ((y.coils.map (Stil.elemUses d)).take m).sum : Nat) ∧ Below X.heap.size X wq) (fun _ i _ => y.coils.length - (intOf i).toNat)
      case atStart => exact ⟨0, by omega, rfl, by simp, below_regrown _ dq osq⟩
      case round =>
        obtain ⟨m, hm, rfl, rfl, hB2⟩ := hrel
        clear rx0 rx1 rx2 rx3 rx4 rx5 rd0 rd1 rd2
        have hbX := Nat.lt_of_lt_of_le hbl hbw.size
        have g0 := (hB2.cell (p := ⟨b, o + j * 6, none⟩) hbX).trans x0
        have g4 := (hB2.cell (p := ⟨b, o + j * 6 + 4, none⟩) hbX).trans x4
        have g5 := (hB2.cell (p := ⟨b, o + j * 6 + 5, none⟩) hbX).trans x5
        have e0 := (hB2.cell (p := ⟨w.heap.size, 0, none⟩) hz).trans c0
        have e1 := (hB2.cell (p := ⟨w.heap.size, 1, none⟩) hz).trans c1
        have e2 := (hB2.cell (p := ⟨w.heap.size, 2, none⟩) hz).trans c2
        have rg4 := cell_regrown g4
        have rg5 := cell_regrown g5
        have re0 := cell_regrown e0
        have re1 := cell_regrown e1
        have re2 := cell_regrown e2
        have hle3 := sum_take_le (y.coils.map (Stil.elemUses d)) m
        rw [← HT.out] at hle3
        clear c0 c1 c2 f0 f1 f2 x0 x1 x2 x3 x4 x5 H1
        by_cases hmt : m < y.coils.length
        · obtain ⟨bc, oc, rfl, hbc, hce⟩ := HCC.out m hmt
          obtain ⟨k0, cav, k1, hcav⟩ := hce.below hB2 hbc
          have hs3 := sum_take_succ (y.coils.map (Stil.elemUses d)) m (by simpa using hmt)
          have hle4 := sum_take_le (y.coils.map (Stil.elemUses d)) (m + 1)
          rw [← HT.out] at hle4
          rw [List.getElem_map] at hs3
          have HI : Hid (∀ W, Below wr.heap.size wr W → Calls Try.prog 29 #[.agg #[.int .i64 y.coils[m].op, cav], .agg #[.int .i64 d.kind, .int .i64 d.n, .int .i64 d.p]] W fun r w' => r = .returned (.int .i64 (Stil.elemUses d y.coils[m])) ∧ Below W.heap.size W w') := fun W hW => H2.out _ (List.getElem_mem hmt) cav W (hcav.below hW)
          obtain ⟨u, hu⟩ : ∃ u, u = Stil.elemUses d y.coils[m] := ⟨_, rfl⟩
          obtain ⟨x, hx⟩ : ∃ x, x = y.coils[m] := ⟨_, rfl⟩
          rw [← hu] at HI hs3
          rw [← hx] at HI k0
          obtain ⟨t1, t2, rfl, _⟩ := hcav
          generalize hA2 : ((y.coils.map (Stil.elemUses d)).take m).sum = A2 at hs3 hle3 ⊢
          have HS3 : Hid (((y.coils.map (Stil.elemUses d)).take (m + 1)).sum = A2 + u) := hs3
          have hub : A2 + u ≤ T := by omega
          have rk0 := cell_regrown k0
          have rk1 := cell_regrown k1
          clear hu hx hA2 hs3 hle4 hce
          go_wp2
          refine wp_region_quiet_below (by kernel_rfl) (by kernel_rfl) ?_
          repeat (go_big_quiet_step ((exact Calls.regrown_of (HI.out _ (by (repeat (first | exact Below.refl _ _ | assumption | refine bl_alloc ?_ _ | refine bl_drewN ?_ _ | refine bl_drew ?_ | refine bl_grow ?_ _ _ | refine bl_set (Nat.le_refl _) ?_ _ | refine bl_call ?_ (by assumption))))))))
          refine wpQuiet_nil ?_
          intro _ hw'
          obtain ⟨⟨dq, osq⟩, hw''⟩ := hw'
          subst hw''
          go_wp2
          refine ⟨⟨m + 1, by omega, by go_num, ?_, hB2.trans ((below_regrown _ dq osq).mono hB2.size)⟩, by simp [intOf]; omega⟩
          rw [HS3.out]; congr 1; omega
        · have hA2 : ((y.coils.map (Stil.elemUses d)).take m).sum = T := by rw [List.take_of_length_le (by simp; omega), HT.out]
          rw [hA2]
          clear hA2 hle3
          go_wp2
          refine wp_region_quiet_below (by kernel_rfl) (by kernel_rfl) ?_
          repeat (go_big_quiet_step ((exact Calls.regrown_of (H3.out _ (by (repeat (first | exact Below.refl _ _ | assumption | refine bl_alloc ?_ _ | refine bl_drewN ?_ _ | refine bl_drew ?_ | refine bl_grow ?_ _ _ | refine bl_set (Nat.le_refl _) ?_ _ | refine bl_call ?_ (by assumption))))))))
          refine wpQuiet_nil ?_
          intro _ hw'
          obtain ⟨⟨dq, osq⟩, hw''⟩ := hw'
          subst hw''
          go_wp2
          refine ⟨⟨j + 1, by omega, by go_num, ?_, hB.trans ((hB2.trans ((below_regrown _ dq osq).mono hB2.size)).mono (by omega))⟩, by simp [intOf]; omega⟩
          rw [HS.out]; congr 1; omega
    · go_wp2
      go_ret
      refine ⟨ret_int ?_, hbw⟩
      rw [HZ.out, List.take_of_length_le (by simp; omega)]
theorem uses_kids_le (d : Stil.Dev) (a : Stil.Arm) : Stil.treeUses d a.kids ≤ Stil.armUses d a := by rw [Stil.armUses_eq]; unfold Stil.treeUses; omega
theorem s_usesArm (d : Stil.Dev) (a : Stil.Arm) : Stil.armFits a → Stil.armUses d a ≤ 1000000000 → UsesOk d a.kids := by
  induction a using Stil.arm_ind with
  | h n c kids ih =>
    intro hf hu
    have hp := Stil.armFits_parts hf
    have hk := uses_kids_le d ⟨n, c, kids⟩
    refine s_usesList d kids hp.2.2.2.1 hp.2.2.2.2 (by simp only at hk; omega) (fun x hx => ih x hx (hp.2.2.2.2 x hx) ?_)
    have := Stil.mem_le_sum (Stil.armUses d) kids x hx
    have e : Stil.treeUses d kids = (kids.map (Stil.armUses d)).sum := rfl
    simp only at hk
    omega
theorem s_treeUses (d : Stil.Dev) (l : List Stil.Arm) (hl : l.length ≤ 1048576) (hf : ∀ x ∈ l, Stil.armFits x) (hsz : Stil.treeUses d l ≤ 1000000000) (v : Value) (w : World) (hat : ArmsAt w v l) :
    Calls Try.prog 13 #[v, .agg #[.int .i64 d.kind, .int .i64 d.n, .int .i64 d.p]] w fun e w' => e = .returned (.int .i64 (Stil.treeUses d l)) ∧ Below w.heap.size w w' :=
  s_usesList d l hl hf hsz (fun x hx => s_usesArm d x (hf x hx) (by have := Stil.mem_le_sum (Stil.armUses d) l x hx; have e : Stil.treeUses d l = (l.map (Stil.armUses d)).sum := rfl; omega)) v w hat
end Go.Proofs.Ytpeojflemfppgaa
/- Contracts of the program's chapter 3: TreeUses. -/
namespace Go.Proofs.Ytpeojflemfppgaa
open Go.RowKit Go.Sort Go.BigFrame Go.Shelf
attribute [local go_sem] Oper.semAt_some
/-- The net that a round was handed lies in a block of the round's own. -/
def NetBox (W : World) (B : Nat) (k op : Int) (a n : Value) : Prop := W.cell? ⟨B, 0, none⟩ = some (.int .i64 k) ∧ W.cell? ⟨B, 1, none⟩ = some (.int .i64 op) ∧ W.cell? ⟨B, 2, none⟩ = some a ∧ W.cell? ⟨B, 3, none⟩ = some n
theorem netBox_own {β : Type} (B : Nat) (k op : Int) (a n : Value) : Own (fun (_ : β) W => NetBox W B k op a n) := fun _ _ _ _ hs hg hr =>
  ⟨cell_kept hs.1 hg hr, cell_kept hs.2.1 hg hr, cell_kept hs.2.2.1 hg hr, cell_kept hs.2.2.2 hg hr⟩
/-- The variables of TreeUses: the operand, and how often it was seen. -/
def UseBox (W : World) (B : Nat) (d : Stil.Dev) (s : Nat) : Prop := W.cell? ⟨B, 0, none⟩ = some (.int .i64 d.kind) ∧ W.cell? ⟨B, 1, none⟩ = some (.int .i64 d.n) ∧ W.cell? ⟨B, 2, none⟩ = some (.int .i64 d.p) ∧ W.cell? ⟨B + 1, 0, none⟩ = some (.int .i64 s) ∧ W.frozen? ⟨B + 1, 0, none⟩ = false
theorem useBox_own {β : Type} (B : Nat) (d : Stil.Dev) (f : β → Nat) : Own (fun (s : β) W => UseBox W B d (f s)) := fun _ _ _ _ hs hg hr =>
  ⟨cell_kept hs.1 hg hr, cell_kept hs.2.1 hg hr, cell_kept hs.2.2.1 hg hr, cell_kept hs.2.2.2.1 hg hr, (frozen_kept hs.2.2.2.1 hg hr).trans hs.2.2.2.2⟩
theorem UseBox.below {W W' : World} {B s : Nat} {d : Stil.Dev} (h : UseBox W B d s) (hb : Below W.heap.size W W') : UseBox W' B d s :=
  ⟨(hb.cell (p := ⟨B, 0, none⟩) (lt_of_cell3 h.1)).trans h.1, (hb.cell (p := ⟨B, 1, none⟩) (lt_of_cell3 h.1)).trans h.2.1, (hb.cell (p := ⟨B, 2, none⟩) (lt_of_cell3 h.1)).trans h.2.2.1, (hb.cell (p := ⟨B + 1, 0, none⟩) (lt_of_cell3 h.2.2.2.1)).trans h.2.2.2.1, (hb.frozen (p := ⟨B + 1, 0, none⟩) (lt_of_cell3 h.2.2.2.1)).trans h.2.2.2.2⟩
theorem UseBox.set {W : World} {B s : Nat} {d : Stil.Dev} (h : UseBox W B d s) (t : Nat) (v : Int) (hv : v = t) : UseBox (W.setCell ⟨B + 1, 0, none⟩ (.int .i64 v)) B d t :=
  ⟨(cellSetOther (by omega)).trans h.1, (cellSetOther (by omega)).trans h.2.1, (cellSetOther (by omega)).trans h.2.2.1, by rw [hv]; exact cellSetAt h.2.2.2.1, by rw [World.frozen?_setCell]; exact h.2.2.2.2⟩
theorem ArmBox.below {W W' : World} {B : Nat} {k op : Int} {a n c d : Value} (h : ArmBox W B k op a n c d) (hb : Below W.heap.size W W') : ArmBox W' B k op a n c d :=
  ⟨(hb.cell (p := ⟨B, 0, none⟩) (lt_of_cell3 h.1)).trans h.1, (hb.cell (p := ⟨B, 1, none⟩) (lt_of_cell3 h.1)).trans h.2.1, (hb.cell (p := ⟨B, 2, none⟩) (lt_of_cell3 h.1)).trans h.2.2.1, (hb.cell (p := ⟨B, 3, none⟩) (lt_of_cell3 h.1)).trans h.2.2.2.1, (hb.cell (p := ⟨B, 4, none⟩) (lt_of_cell3 h.1)).trans h.2.2.2.2.1, (hb.cell (p := ⟨B, 5, none⟩) (lt_of_cell3 h.1)).trans h.2.2.2.2.2⟩
theorem ArmBox.set {W : World} {B b o : Nat} {k op : Int} {a n c d v : Value} (h : ArmBox W B k op a n c d) (hb : B ≠ b) : ArmBox (W.setCell ⟨b, o, none⟩ v) B k op a n c d :=
  ⟨(cellSetOther hb).trans h.1, (cellSetOther hb).trans h.2.1, (cellSetOther hb).trans h.2.2.1, (cellSetOther hb).trans h.2.2.2.1, (cellSetOther hb).trans h.2.2.2.2.1, (cellSetOther hb).trans h.2.2.2.2.2⟩
set_option maxHeartbeats 4000000 in
set_option maxRecDepth 100000 in
theorem i_treeUses (d : Stil.Dev) (la : List Stil.Arm) (v : Value) (w : World) (hav : ArmsAt w v la) (hf : ∀ x ∈ la, Stil.armFits x) (hl : la.length ≤ 1048576) (hsz : Stil.treeSize la ≤ 1000000000) (husz : Stil.treeUses d la ≤ 1048576) :
    Calls Try.prog 15 #[v, .agg #[.int .i64 d.kind, .int .i64 d.n, .int .i64 d.p]] w fun e w' => e = .returned (.int .i64 (Stil.treeUses d la)) ∧ Below w.heap.size w w' := by
  have HSUM : Hid (((Stil.armsPre la).map (Stil.armOwnUses d)).sum = Stil.treeUses d la) := Stil.armsPre_uses d la
  have hNz : (Stil.armsPre la).length ≤ 1000000000 := by
    have h1 := Stil.armsPre_sum la
    have h2 := len_le_sum Stil.armOwn (fun x => by unfold Stil.armOwn; omega) (Stil.armsPre la)
    omega
  obtain ⟨z, hz⟩ : ∃ z, z = Stil.treeUses d la := ⟨_, rfl⟩
  rw [← hz] at husz HSUM ⊢
  have HNS : Hid (∀ x ∈ Stil.armsPre la, Stil.netSize x.net ≤ 1000000000) := by
    intro x hx
    have h1 := Stil.mem_sum_le Stil.armOwn hx
    rw [Stil.armsPre_sum] at h1
    unfold Stil.armOwn at h1
    cases hn : Stil.netNone x.net
    · rw [hn] at h1; simp only [Bool.false_eq_true, if_false] at h1; omega
    · have : x.net.kids.length = 0 := by unfold Stil.netNone at hn; simp at hn; rw [hn.2]; rfl
      obtain ⟨⟨k, e, kids⟩, c, kk⟩ := x
      have h2 : kids = [] := List.eq_nil_of_length_eq_zero this
      subst h2
      rw [Stil.netSize_eq]; simp
  clear hz hsz
  have HOWN : Hid (∀ x ∈ Stil.armsPre la, Stil.armOwnUses d x ≤ z) := fun x hx => by rw [← HSUM.out]; exact Stil.mem_sum_le _ hx
  have HFIT : Hid (∀ x ∈ Stil.armsPre la, Stil.armFits x) := Stil.armsPre_fits la hf
  have HSEEN : Hid (∀ W, Below w.heap.size w W → ArmsSeen w (fun k => k = w.heap.size + 1) W v la) := fun W h => ArmsSeen.of_at hav h (fun k (h : k = _) => by omega)
  obtain ⟨p0, r0, rfl, _⟩ := hav
  refine (callsIn_wide (n := 9)).1 ?_
  refine callsIn_of_wp_marks Try.func15 rfl trivial ?_ rfl
  simp only [Try.ntmps15, List.size_toArray, List.length_cons, List.length_nil, Nat.reduceAdd, Nat.reduceSub, Array.replicate_succ, Array.replicate_zero, List.push_toArray, List.append_toArray, List.nil_append, List.cons_append]
  gi_wp2_with (refine ⟨trivial, ?_⟩; gi_at_call 30; refine (callsIn_wide.2 (i_treeArms _ _ _ _)).mono ?_; rintro e w1 ⟨A, K, rfl, hA0, hK0, hA, hK, hb⟩)
  simp only [World.size_alloc] at hA0 hK0
  have hbw : Below w.heap.size w w1 := by (repeat (first | with_reducible exact Below.refl _ _ | with_reducible assumption | with_reducible refine bl_set (by first | exact Nat.le_refl _ | (simp; done) | (simp; omega) | omega) ?_ _ | with_reducible refine bl_alloc ?_ _ | with_reducible refine bl_drewN ?_ _ | with_reducible refine bl_drew ?_ | with_reducible refine bl_grow ?_ _ _ | with_reducible refine bl_call ?_ (by assumption)))
  have hub : UseBox w1 w.heap.size d 0 := by
    refine UseBox.below (W := (w.alloc (.cells #[.int .i64 d.kind, .int .i64 d.n, .int .i64 d.p] 33)).alloc (.cells #[.int .i64 0] 3)) ⟨by simp [go_sem], by simp [go_sem], by simp [go_sem], by simp [go_sem], by simp [go_sem]⟩ hb
  have hsz1 : w.heap.size + 2 ≤ w1.heap.size := by have := hb.size; simp at this; omega
  have HS : Hid (SeqStopsK Fence.wide (9 - 1) Try.prog 57 #[.pointer (some ⟨K, 0, none⟩), .pointer (some ⟨A, 0, none⟩)] (fun x : ArmV w (fun a => a ∈ Stil.armsPre la) => #[Value.agg #[.int .i64 x.arm.net.kind, .int .i64 x.arm.net.one.op, x.av, x.nv, x.cv, x.kv]]) (Kept w.heap.size (fun k => k = w.heap.size + 1)) (fun ys => ys.map ArmV.arm = Stil.armsPre la) (fun pre => pre.map ArmV.arm <+: Stil.armsPre la) (Stil.armsPre la).length w1) :=
    i_seqArms w (fun a => a ∈ Stil.armsPre la) (fun x hx => ⟨(Stil.armFits_parts (Stil.armsPre_fits la hf x hx)).2.2.2.1, Stil.armsPre_kids la x hx⟩) (fun k => k = w.heap.size + 1) (fun k (h : k = _) => by omega) (w.heap.size + 2) A K (fun k (h : k = _) => by omega) (fun h : K = _ => by omega) (fun h : A = _ => by omega) la hl (Stil.armsPre_mem la) _ w1 hbw hsz1 (HSEEN.out w1 hbw) hA hK _
  clear hb hA hK hf HSEEN
  refine wpIn_rangeFunc_ownH rfl (by decide) (gf := 57) (lb := #[.pointer (some ⟨K, 0, none⟩), .pointer (some ⟨A, 0, none⟩)]) rfl trivial (enters_of Try.func57 (by kernel_rfl) rfl)
    HS.out Kept.t (Kept.b (by omega)) (Below.refl _ _) (fun _ => rfl)
    (fun pre W => (UseBox W w.heap.size d (pre.map (Stil.armOwnUses d ∘ ArmV.arm)).sum ∧ Below w.heap.size w W) ∧ (pre.map (Stil.armOwnUses d ∘ ArmV.arm)).sum ≤ pre.length * z ∧ w1.heap.size ≤ W.heap.size)
    (fun _ _ _ => False)
    (OwnFrom.and (OwnFrom.and (Own.from (useBox_own _ _ _) _) (ownFrom_below (Nat.le_refl _) (by omega))) (OwnFrom.and (ownFrom_pure _ _) (fun _ _ _ _ hs hg _ => Nat.le_trans hs hg.size)))
    (fun _ _ _ _ _ hs _ _ => hs)
    ⟨⟨by simpa using hub, hbw⟩, by simp, Nat.le_refl _⟩
    (fun x a' W => ∃ Bx, w1.heap.size ≤ Bx ∧ ArmBox W Bx x.arm.net.kind x.arm.net.one.op x.av x.nv x.cv x.kv ∧ a' = { tmps := #[.slice p0 la.length r0, .agg #[.int .i64 d.kind, .int .i64 d.n, .int .i64 d.p], undef, .pointer (some ⟨w.heap.size, 0, none⟩), .int .i64 0, .pointer (some ⟨w.heap.size + 1, 0, none⟩), .pointer (some ⟨Bx, 0, none⟩), undef, undef, undef, .slice p0 la.length r0, .func (.func 57) #[] #[.pointer (some ⟨K, 0, none⟩), .pointer (some ⟨A, 0, none⟩)], .agg #[.int .i64 x.arm.net.kind, .int .i64 x.arm.net.one.op, x.av, x.nv, x.cv, x.kv], undef, undef, undef, undef, undef, undef, undef, undef, undef, undef, undef, undef, undef, undef, undef, undef, undef, undef, undef, undef, undef, undef, undef, undef], defers := [] })
    (fun x a' s A B row hs hg hr => hs.elim fun Bx hx => ⟨Bx, hx.1, armBox_own (β := Unit) Bx _ _ _ _ _ _ s A B row hx.2.1 hg (fun r e => (hr r e).2), hx.2.2⟩) ?assign ?body ?done ?stop
  case assign =>
    rintro l pre x W KK ⟨⟨hub2, hB⟩, hpz, hsz2⟩ hKK
    obtain ⟨x, av, nv, cv, kv, hav, hnv, hcv, hkv, hxf⟩ := x
    obtain ⟨q0, s0, rfl, _⟩ := id hav
    obtain ⟨q1, s1, rfl, _⟩ := id hnv
    obtain ⟨q2, s2, rfl, _⟩ := id hcv
    obtain ⟨q3, s3, rfl, _⟩ := id hkv
    gi_wp2
    exact hKK _ _ ((KeepsOthers.alloc _ _).from _) (Kept.of_below hB.size (below_alloc _ _)) ⟨⟨hub2.below (below_alloc _ _), by (repeat (first | with_reducible exact Below.refl _ _ | with_reducible assumption | with_reducible refine bl_set (by first | exact Nat.le_refl _ | (simp; done) | (simp; omega) | omega) ?_ _ | with_reducible refine bl_alloc ?_ _ | with_reducible refine bl_drewN ?_ _ | with_reducible refine bl_drew ?_ | with_reducible refine bl_grow ?_ _ _ | with_reducible refine bl_call ?_ (by assumption)))⟩, hpz, by simp; omega⟩ ⟨W.heap.size, by omega, ⟨by simp [go_sem], by simp [go_sem], by simp [go_sem], by simp [go_sem], by simp [go_sem], by simp [go_sem]⟩, rfl⟩
  case body =>
    rintro l pre x a' W hlw ⟨r, hrl⟩ ⟨⟨hub2, hB⟩, hpz, hsz2⟩ ⟨Bx, hBx, hbox, rfl⟩ hpl
    have hn : w.heap.size ≤ W.heap.size := hB.size
    have hBz : Bx < W.heap.size := lt_of_cell3 hbox.1
    have hnf := (Stil.armFits_parts (HFIT.out _ x.mem)).1
    obtain ⟨y0, y1, y2, y3, y4, y5⟩ := id hbox
    obtain ⟨q0, s0, e0, _⟩ := id x.hav
    obtain ⟨q1, s1, e1, _⟩ := id x.hnv
    rw [e0] at y2
    rw [e1] at y3
    gi_wp2_with (refine ⟨trivial, ?_⟩; gi_at_call 31; refine (CallsIn.inRound l (callsIn_wide.2 (i_treeNets _ _ _ _ _ _ _ _ _))).mono ?_; rintro e W2 ⟨b, A2, K2, rfl, hb0, hA20, hK20, hA2, hK2, x0, x1, x2, x3, hb2⟩)
    have hbox2 : ArmBox W2 Bx x.arm.net.kind x.arm.net.one.op x.av x.nv x.cv x.kv := hbox.below hb2
    have hub3 := hub2.below hb2
    have hB2 : Below w.heap.size w W2 := hB.trans (hb2.mono hB.size)
    have hrl2 : W2.heap[l]? = some (.loop r) := (hb2.block l (Array.getElem?_eq_some_iff.1 hrl).1).trans hrl
    have hk2 : Kept w.heap.size (fun k => k = w.heap.size + 1) W W2 := Kept.of_below hB.size hb2
    have hf2 : KeepsFrom w1.heap.size W W2 := kf_call (KeepsFrom.refl _ _) hb2
    have hseen : NetsSeen w (fun k => k = w.heap.size + 1) W2 (.slice (some ⟨b, 0, none⟩) 1 1) [x.arm.net] := by
      refine ⟨_, 1, rfl, fun i hi => ⟨b, 0, rfl, (fun h : b = _ => by omega), .slice q0 x.arm.net.one.args.length s0, .slice q1 x.arm.net.kids.length s1, ?_⟩⟩
      obtain rfl : i = 0 := by simpa using hi
      simp only [Nat.zero_mul, Nat.zero_add, List.getElem_cons_zero]
      refine ⟨x0, x1, x2, x3, ?_, ?_⟩
      · rw [← e0]; exact x.hav
      · rw [← e1]; exact x.hnv
    have hnn := HNS.out _ x.mem
    have hoz := HOWN.out _ x.mem
    have HNFIT : Hid (∀ y ∈ Stil.netPre x.arm.net, Stil.netFits y) := Stil.netPre_fits _ hnf
    have HNU : Hid (((Stil.netPre x.arm.net).map (fun y => Stil.elemUses d y.one)).sum = Stil.netUses d x.arm.net) := Stil.netPre_uses d x.arm.net
    have hnu : Stil.netUses d x.arm.net ≤ z := by unfold Stil.armOwnUses at hoz; omega
    have HEU : Hid (∀ y ∈ Stil.netPre x.arm.net, Stil.elemUses d y.one ≤ z) := fun y hy => by
      have := Stil.mem_sum_le (fun y : Stil.Net => Stil.elemUses d y.one) hy
      rw [HNU.out] at this
      omega
    have hlen : (Stil.netsPre [x.arm.net]).length ≤ 1000000000 := by rw [Stil.netsPre_one, Stil.netPre_len]; exact hnn
    have HS2 : Hid (SeqStopsK Fence.wide (9 - 1 - 1 - 1) Try.prog 59 #[.pointer (some ⟨K2, 0, none⟩), .pointer (some ⟨A2, 0, none⟩)] (fun y : NetV w (fun y => y ∈ Stil.netPre x.arm.net) => #[Value.agg #[.int .i64 y.net.kind, .int .i64 y.net.one.op, y.av, y.kv]]) (Kept w.heap.size (fun k => k = w.heap.size + 1)) (fun ys => ys.map NetV.net = Stil.netsPre [x.arm.net]) (fun pre => pre.map NetV.net <+: Stil.netsPre [x.arm.net]) (Stil.netsPre [x.arm.net]).length W2) :=
      i_seqNets w (fun y => y ∈ Stil.netPre x.arm.net) (fun y hy => ⟨(Stil.netFits_parts (HNFIT.out y hy)).2.2.1, Stil.netPre_kids _ y hy⟩) (fun k => k = w.heap.size + 1) (fun k (h : k = _) => by omega) (w.heap.size + 2) A2 K2 (fun k (h : k = _) => by omega) (fun h : K2 = _ => by omega) (fun h : A2 = _ => by omega) [x.arm.net] (by simp) (by intro y hy; obtain rfl : y = x.arm.net := (by simpa using hy); rw [Stil.netPre_eq]; exact List.mem_cons.2 (.inl rfl)) _ W2 hB2 (Nat.le_trans (by omega) hb2.size) hseen hA2 hK2 _
    have hpb : pre.length * z ≤ 1000000000 * 1048576 := Nat.mul_le_mul (by omega) husz
    have HSN : Hid (((pre ++ [x]).map (Stil.armOwnUses d ∘ ArmV.arm)).sum = (pre.map (Stil.armOwnUses d ∘ ArmV.arm)).sum + Stil.armOwnUses d x.arm) := by show _ = _; rw [List.map_append, List.sum_append]; simp
    have HPL : Hid ((pre ++ [x]).length * z = pre.length * z + z) := by show _ = _; rw [List.length_append, Nat.add_mul]; simp
    obtain ⟨S, hS⟩ : ∃ S, S = (pre.map (Stil.armOwnUses d ∘ ArmV.arm)).sum := ⟨_, rfl⟩
    rw [← hS] at hub3 hpz HSN
    have hWz := hb2.size
    clear hseen hA2 hK2 x0 x1 x2 x3 y0 y1 y2 y3 y4 y5 hS hub2 hB hbox hrl hnf hnn
    refine wpIn_rangeFunc_ownN (l₀ := l) (r₀ := r) rfl hrl2 (by decide) (gf := 59) (lb := #[.pointer (some ⟨K2, 0, none⟩), .pointer (some ⟨A2, 0, none⟩)]) rfl trivial (enters_of Try.func59 (by kernel_rfl) rfl)
      (HS2.out.inRound l) Kept.t (Kept.b (by omega)) (Below.refl _ _) (fun _ => rfl)
      (fun pre' W' => ((UseBox W' w.heap.size d (S + (pre'.map (fun y => Stil.elemUses d y.net.one)).sum) ∧ ArmBox W' Bx x.arm.net.kind x.arm.net.one.op x.av x.nv x.cv x.kv) ∧ Below w.heap.size w W') ∧ ((Below w.heap.size W W' ∧ KeepC (fun k => k = w.heap.size + 1) W W') ∧ KeepsFrom w1.heap.size W W') ∧ (pre'.map (fun y => Stil.elemUses d y.net.one)).sum ≤ pre'.length * z ∧ W2.heap.size ≤ W'.heap.size)
      (fun _ _ _ => False)
      (OwnFrom.and (OwnFrom.and (Own.from (fun s X Y row hs hg hr => ⟨useBox_own w.heap.size d (fun _ : Unit => _) () X Y row hs.1 hg hr, armBox_own (β := Unit) Bx _ _ _ _ _ _ () X Y row hs.2 hg hr⟩) _) (ownFrom_below (Nat.le_refl _) (by omega))) (OwnFrom.and (OwnFrom.and (OwnFrom.and (ownFrom_below hn (by omega)) (ownFrom_keepC _ _ _)) (ownFrom_keepsFrom hWz)) (OwnFrom.and (ownFrom_pure _ _) (fun _ _ _ _ hs hg _ => Nat.le_trans hs hg.size))))
      (fun _ _ _ _ _ hs _ _ => hs)
      ⟨⟨⟨by simpa using hub3, hbox2⟩, hB2⟩, ⟨hk2, hf2⟩, by simp, Nat.le_refl _⟩
      (fun y a'' W' => ∃ By, W2.heap.size ≤ By ∧ NetBox W' By y.net.kind y.net.one.op y.av y.kv ∧ a'' = { tmps := #[.slice p0 la.length r0, .agg #[.int .i64 d.kind, .int .i64 d.n, .int .i64 d.p], undef, .pointer (some ⟨w.heap.size, 0, none⟩), .int .i64 0, .pointer (some ⟨w.heap.size + 1, 0, none⟩), .pointer (some ⟨Bx, 0, none⟩), .pointer (some ⟨By, 0, none⟩), undef, undef, .slice p0 la.length r0, .func (.func 57) #[] #[.pointer (some ⟨K, 0, none⟩), .pointer (some ⟨A, 0, none⟩)], .agg #[.int .i64 x.arm.net.kind, .int .i64 x.arm.net.one.op, .slice q0 x.arm.net.one.args.length s0, .slice q1 x.arm.net.kids.length s1, x.cv, x.kv], .pointer (some ⟨Bx, 0, none⟩), .agg #[.int .i64 x.arm.net.kind, .int .i64 x.arm.net.one.op, .slice q0 x.arm.net.one.args.length s0, .slice q1 x.arm.net.kids.length s1], .func (.func 59) #[] #[.pointer (some ⟨K2, 0, none⟩), .pointer (some ⟨A2, 0, none⟩)], .agg #[.int .i64 y.net.kind, .int .i64 y.net.one.op, y.av, y.kv], undef, undef, undef, undef, undef, undef, undef, undef, undef, undef, undef, undef, undef, undef, undef, undef, undef, undef, undef, undef], defers := [] })
      (fun y a'' s X Y row hs hg hr => hs.elim fun By hx => ⟨By, hx.1, netBox_own (β := Unit) By _ _ _ _ s X Y row hx.2.1 hg (fun r e => (hr r e).2), hx.2.2⟩) ?assign2 ?body2 ?done2 ?stop2
    case assign2 =>
      rintro lq pre' y W3 KK ⟨⟨⟨hu3, ha3⟩, hB3⟩, ⟨hkk3, hkf3⟩, hpz3, hsz3⟩ hKK
      obtain ⟨y, av, kv, hav, hkv, hyf⟩ := y
      obtain ⟨t0, u0, rfl, _⟩ := id hav
      obtain ⟨t1, u1, rfl, _⟩ := id hkv
      gi_wp2
      exact hKK _ _ ((KeepsOthers.alloc _ _).from _) (Kept.of_below hB3.size (below_alloc _ _)) ⟨⟨⟨hu3.below (below_alloc _ _), ha3.below (below_alloc _ _)⟩, by (repeat (first | with_reducible exact Below.refl _ _ | with_reducible assumption | with_reducible refine bl_set (by first | exact Nat.le_refl _ | (simp; done) | (simp; omega) | omega) ?_ _ | with_reducible refine bl_alloc ?_ _ | with_reducible refine bl_drewN ?_ _ | with_reducible refine bl_drew ?_ | with_reducible refine bl_grow ?_ _ _ | with_reducible refine bl_call ?_ (by assumption)))⟩, ⟨kp_call hkk3 hn (below_alloc _ _), kf_alloc hkf3 _⟩, hpz3, by simp; omega⟩ ⟨W3.heap.size, hsz3, ⟨by simp [go_sem], by simp [go_sem], by simp [go_sem], by simp [go_sem]⟩, rfl⟩
    case body2 =>
      rintro lq pre' y a'' W3 hlq _ ⟨⟨⟨hu3, ha3⟩, hB3⟩, ⟨hkk3, hkf3⟩, hpz3, hsz3⟩ ⟨By, hBy, hnb, rfl⟩ hpl3
      have HNM : Hid (∀ X, Below w.heap.size w X → Calls Try.prog 32 #[.agg #[.int .i64 y.net.one.op, y.av], .agg #[.int .i64 d.kind, .int .i64 d.n, .int .i64 d.p]] X fun r w' => r = .returned (.int .i64 (Stil.elemUses d y.net.one)) ∧ Below X.heap.size X w') := fun X hX => i_names y.net.one.op d y.net.one.args y.av X (y.hav.below hX) (Stil.netFits_parts (HNFIT.out _ y.mem)).2.1.2.1
      have heu := HEU.out _ y.mem
      have HSN3 : Hid (((pre' ++ [y]).map (fun y => Stil.elemUses d y.net.one)).sum = (pre'.map (fun y => Stil.elemUses d y.net.one)).sum + Stil.elemUses d y.net.one) := by show _ = _; rw [List.map_append, List.sum_append]; simp
      have HPL3 : Hid ((pre' ++ [y]).length * z = pre'.length * z + z) := by show _ = _; rw [List.length_append, Nat.add_mul]; simp
      have hpb3 : pre'.length * z ≤ 1000000000 * 1048576 := Nat.mul_le_mul (by omega) husz
      obtain ⟨t0, u0, f0, _⟩ := id y.hav
      obtain ⟨n0, n1, n2, n3⟩ := hnb
      rw [f0] at HNM n2
      obtain ⟨g0, g1, g2, d2, z2⟩ := id hu3
      obtain ⟨P, hP⟩ : ∃ P, P = (pre'.map (fun y => Stil.elemUses d y.net.one)).sum := ⟨_, rfl⟩
      obtain ⟨u, hu⟩ : ∃ u, u = Stil.elemUses d y.net.one := ⟨_, rfl⟩
      rw [← hP] at hu3 hpz3 HSN3 d2
      rw [← hu] at heu HSN3 HNM
      have hwr2 : IntKind.i64.wrap ((S : Int) + P + u) = (S : Int) + P + u := by rw [IntKind.wrap_i64]; omega
      have hn3 : w.heap.size ≤ W3.heap.size := hB3.size
      have hByz : By < W3.heap.size := lt_of_cell3 n0
      clear hP hu f0
      gi_wp2
      refine wpIn_region_any (by kernel_rfl) ?_
      try (change wpAnyIn _ _ _ _ _ _ _ _ _ (World.drew _))
      apply share
      · intro ky0
        apply share
        · intro ky1
          apply share
          · intro ky2
            apply share
            · intro ky3
              apply share
              · intro ky4
                apply share
                · intro ky5
                  apply share
                  · intro ky6
                    refine wpAnyIn_ready (rs := [0, 1, 3]) (by kernel_rfl) (by simp) ?_
                    refine AllReadyIn.cons rfl (fun KK hKK => ?_) ?_
                    · go_simp
                      refine hKK _ _ ?_
                      clear hKK KK
                      refine wpAnyIn_ready (rs := [1, 3]) (by kernel_rfl) (by simp) ?_
                      refine AllReadyIn.cons rfl (fun KK hKK => ?_) ?_
                      · go_simp
                        refine hKK _ _ ?_
                        clear hKK KK
                        exact ky4
                      refine AllReadyIn.cons rfl (fun KK hKK => ?_) ?_
                      · go_simp
                        refine hKK _ _ ?_
                        clear hKK KK
                        exact ky5
                      exact AllReadyIn.nil
                    refine AllReadyIn.cons rfl (fun KK hKK => ?_) ?_
                    · go_simp
                      refine hKK _ _ ?_
                      clear hKK KK
                      refine wpAnyIn_ready (rs := [0, 2, 3]) (by kernel_rfl) (by simp) ?_
                      refine AllReadyIn.cons rfl (fun KK hKK => ?_) ?_
                      · go_simp
                        refine hKK _ _ ?_
                        clear hKK KK
                        exact ky4
                      refine AllReadyIn.cons rfl (fun KK hKK => ?_) ?_
                      · go_simp
                        refine hKK _ _ ?_
                        clear hKK KK
                        refine wpAnyIn_ready (rs := [0, 3]) (by kernel_rfl) (by simp) ?_
                        refine AllReadyIn.cons rfl (fun KK hKK => ?_) ?_
                        · go_simp
                          refine hKK _ _ ?_
                          clear hKK KK
                          exact ky1
                        refine AllReadyIn.cons rfl (fun KK hKK => ?_) ?_
                        · go_simp
                          refine hKK _ _ ?_
                          clear hKK KK
                          exact ky3
                        exact AllReadyIn.nil
                      refine AllReadyIn.cons rfl (fun KK hKK => ?_) ?_
                      · go_simp
                        refine hKK _ _ ?_
                        clear hKK KK
                        exact ky6
                      exact AllReadyIn.nil
                    refine AllReadyIn.cons rfl (fun KK hKK => ?_) ?_
                    · go_simp
                      refine hKK _ _ ?_
                      clear hKK KK
                      refine wpAnyIn_ready (rs := [0, 1]) (by kernel_rfl) (by simp) ?_
                      refine AllReadyIn.cons rfl (fun KK hKK => ?_) ?_
                      · go_simp
                        refine hKK _ _ ?_
                        clear hKK KK
                        exact ky5
                      refine AllReadyIn.cons rfl (fun KK hKK => ?_) ?_
                      · go_simp
                        refine hKK _ _ ?_
                        clear hKK KK
                        exact ky6
                      exact AllReadyIn.nil
                    exact AllReadyIn.nil
                  · refine wpAnyIn_ready (rs := [0, 2]) (by kernel_rfl) (by simp) ?_
                    refine AllReadyIn.cons rfl (fun KK hKK => ?_) ?_
                    · go_simp
                      refine hKK _ _ ?_
                      clear hKK KK
                      exact ky2
                    refine AllReadyIn.cons rfl (fun KK hKK => ?_) ?_
                    · go_simp
                      refine hKK _ _ ?_
                      clear hKK KK
                      exact ky3
                    exact AllReadyIn.nil
                · refine wpAnyIn_ready (rs := [1]) (by kernel_rfl) (by simp) ?_
                  refine AllReadyIn.cons rfl (fun KK hKK => ?_) AllReadyIn.nil
                  go_simp
                  refine hKK _ _ ?_
                  clear hKK KK
                  exact ky2
              · refine wpAnyIn_ready (rs := [2, 3]) (by kernel_rfl) (by simp) ?_
                refine AllReadyIn.cons rfl (fun KK hKK => ?_) ?_
                · go_simp
                  refine hKK _ _ ?_
                  clear hKK KK
                  exact ky1
                refine AllReadyIn.cons rfl (fun KK hKK => ?_) ?_
                · go_simp
                  refine hKK _ _ ?_
                  clear hKK KK
                  exact ky2
                exact AllReadyIn.nil
            · refine wpAnyIn_ready (rs := [0, 4]) (by kernel_rfl) (by simp) ?_
              refine AllReadyIn.cons rfl (fun KK hKK => ?_) ?_
              · go_simp
                refine hKK _ _ ?_
                clear hKK KK
                exact ky0
              refine AllReadyIn.cons rfl (fun KK hKK => ?_) ?_
              · go_simp
                refine ⟨trivial, ?_⟩
                refine (CallsIn.inRound lq (callsIn_wide.2 (HNM.out _ (by (repeat (first | with_reducible exact Below.refl _ _ | with_reducible assumption | with_reducible refine bl_set (by first | exact Nat.le_refl _ | (simp; done) | (simp; omega) | omega) ?_ _ | with_reducible refine bl_alloc ?_ _ | with_reducible refine bl_drewN ?_ _ | with_reducible refine bl_drew ?_ | with_reducible refine bl_grow ?_ _ _ | with_reducible refine bl_call ?_ (by assumption))))))).mono ?_
                rintro e W4 ⟨rfl, hb4⟩
                refine hKK _ _ ?_
                clear hKK KK
                have d3 := (hb4.cell (p := ⟨w.heap.size + 1, 0, none⟩) (lt_of_cell3 d2)).trans d2
                have z3 := (hb4.frozen (p := ⟨w.heap.size + 1, 0, none⟩) (lt_of_cell3 d2)).trans z2
                refine wpAnyIn_ready (rs := [0]) (by kernel_rfl) (by simp) ?_
                refine AllReadyIn.cons rfl (fun KK hKK => ?_) AllReadyIn.nil
                go_simp
                refine hKK _ _ ?_
                clear hKK KK
                refine wpAnyIn_ready (rs := [5]) (by kernel_rfl) (by simp) ?_
                refine AllReadyIn.cons rfl (fun KK hKK => ?_) AllReadyIn.nil
                go_simp
                try simp only [hwr2]
                refine hKK _ _ ?_
                clear hKK KK
                refine wpAnyIn_ready (rs := [6]) (by kernel_rfl) (by simp) ?_
                refine AllReadyIn.cons rfl (fun KK hKK => ?_) AllReadyIn.nil
                go_simp
                refine hKK _ _ ?_
                clear hKK KK
                refine wpAnyIn_done (by kernel_rfl) ?_ _
                gi_wp2
                exact ⟨by (repeat (first | with_reducible exact KeepsFrom.refl _ _ | with_reducible refine kf_set ?_ _ _ | with_reducible refine kf_drew ?_ | with_reducible refine kf_alloc ?_ _ | with_reducible refine kf_call ?_ (by assumption))), kp_set (b := w.heap.size + 1) (kp_call (kp_drew (Kept.refl w.heap.size (fun k => k = w.heap.size + 1) W3)) hn3 hb4) (by omega) rfl _, ⟨⟨⟨UseBox.set (UseBox.below (W := W3.drew) hu3 hb4) _ _ (by rw [HSN3.out]; omega), ArmBox.set (ArmBox.below (W := W3.drew) ha3 hb4) (by omega)⟩, by (repeat (first | with_reducible exact Below.refl _ _ | with_reducible assumption | with_reducible refine bl_set (by first | exact Nat.le_refl _ | (simp; done) | (simp; omega) | omega) ?_ _ | with_reducible refine bl_alloc ?_ _ | with_reducible refine bl_drewN ?_ _ | with_reducible refine bl_drew ?_ | with_reducible refine bl_grow ?_ _ _ | with_reducible refine bl_call ?_ (by assumption)))⟩, ⟨kp_set (b := w.heap.size + 1) (kp_call (kp_drew (n₀ := w.heap.size) (C := fun k => k = w.heap.size + 1) hkk3) hn hb4) (by omega) rfl _, kf_set (kf_call (kf_drew hkf3) hb4) _ _⟩, by rw [HSN3.out, HPL3.out]; omega, by have := hb4.size; simp at *; omega⟩⟩
              exact AllReadyIn.nil
          · refine wpAnyIn_ready (rs := [2]) (by kernel_rfl) (by simp) ?_
            refine AllReadyIn.cons rfl (fun KK hKK => ?_) AllReadyIn.nil
            go_simp
            refine hKK _ _ ?_
            clear hKK KK
            exact ky0
        · refine wpAnyIn_ready (rs := [3]) (by kernel_rfl) (by simp) ?_
          refine AllReadyIn.cons rfl (fun KK hKK => ?_) AllReadyIn.nil
          go_simp
          refine hKK _ _ ?_
          clear hKK KK
          exact ky0
      · refine wpAnyIn_ready (rs := [4]) (by kernel_rfl) (by simp) ?_
        refine AllReadyIn.cons rfl (fun KK hKK => ?_) AllReadyIn.nil
        go_simp
        refine ⟨trivial, ?_⟩
        refine (CallsIn.inRound lq (callsIn_wide.2 (HNM.out _ (by (repeat (first | with_reducible exact Below.refl _ _ | with_reducible assumption | with_reducible refine bl_set (by first | exact Nat.le_refl _ | (simp; done) | (simp; omega) | omega) ?_ _ | with_reducible refine bl_alloc ?_ _ | with_reducible refine bl_drewN ?_ _ | with_reducible refine bl_drew ?_ | with_reducible refine bl_grow ?_ _ _ | with_reducible refine bl_call ?_ (by assumption))))))).mono ?_
        rintro e W4 ⟨rfl, hb4⟩
        refine hKK _ _ ?_
        clear hKK KK
        have d3 := (hb4.cell (p := ⟨w.heap.size + 1, 0, none⟩) (lt_of_cell3 d2)).trans d2
        have z3 := (hb4.frozen (p := ⟨w.heap.size + 1, 0, none⟩) (lt_of_cell3 d2)).trans z2
        refine wpAnyIn_ready (rs := [5]) (by kernel_rfl) (by simp) ?_
        refine AllReadyIn.cons rfl (fun KK hKK => ?_) AllReadyIn.nil
        go_simp
        try simp only [hwr2]
        refine hKK _ _ ?_
        clear hKK KK
        refine wpAnyIn_ready (rs := [6]) (by kernel_rfl) (by simp) ?_
        refine AllReadyIn.cons rfl (fun KK hKK => ?_) AllReadyIn.nil
        go_simp
        refine hKK _ _ ?_
        clear hKK KK
        refine wpAnyIn_done (by kernel_rfl) ?_ _
        gi_wp2
        exact ⟨by (repeat (first | with_reducible exact KeepsFrom.refl _ _ | with_reducible refine kf_set ?_ _ _ | with_reducible refine kf_drew ?_ | with_reducible refine kf_alloc ?_ _ | with_reducible refine kf_call ?_ (by assumption))), kp_set (b := w.heap.size + 1) (kp_call (kp_drew (Kept.refl w.heap.size (fun k => k = w.heap.size + 1) W3)) hn3 hb4) (by omega) rfl _, ⟨⟨⟨UseBox.set (UseBox.below (W := W3.drew) hu3 hb4) _ _ (by rw [HSN3.out]; omega), ArmBox.set (ArmBox.below (W := W3.drew) ha3 hb4) (by omega)⟩, by (repeat (first | with_reducible exact Below.refl _ _ | with_reducible assumption | with_reducible refine bl_set (by first | exact Nat.le_refl _ | (simp; done) | (simp; omega) | omega) ?_ _ | with_reducible refine bl_alloc ?_ _ | with_reducible refine bl_drewN ?_ _ | with_reducible refine bl_drew ?_ | with_reducible refine bl_grow ?_ _ _ | with_reducible refine bl_call ?_ (by assumption)))⟩, ⟨kp_set (b := w.heap.size + 1) (kp_call (kp_drew (n₀ := w.heap.size) (C := fun k => k = w.heap.size + 1) hkk3) hn hb4) (by omega) rfl _, kf_set (kf_call (kf_drew hkf3) hb4) _ _⟩, by rw [HSN3.out, HPL3.out]; omega, by have := hb4.size; simp at *; omega⟩⟩
    case done2 =>
      rintro ys' W3 hS3 ⟨⟨⟨hu3, ha3⟩, hB3⟩, ⟨hkk3, hkf3⟩, _, hsz3⟩
      have hsum3 : (ys'.map (fun y => Stil.elemUses d y.net.one)).sum = Stil.netUses d x.arm.net := by
        have h1 : ys'.map (fun y => Stil.elemUses d y.net.one) = (ys'.map NetV.net).map (fun y => Stil.elemUses d y.one) := by rw [List.map_map]; rfl
        rw [h1, hS3, Stil.netsPre_one, HNU.out]
      rw [hsum3] at hu3
      have HCF : Hid (∀ c ∈ x.arm.coils, c.fits) := (Stil.armFits_parts (HFIT.out _ x.mem)).2.2.1
      have hcl := (Stil.armFits_parts (HFIT.out _ x.mem)).2.1
      have HCO : Hid (Stil.armOwnUses d x.arm = Stil.netUses d x.arm.net + (x.arm.coils.map (Stil.elemUses d)).sum) := rfl
      obtain ⟨nu, hnu2⟩ : ∃ nu, nu = Stil.netUses d x.arm.net := ⟨_, rfl⟩
      rw [← hnu2] at hu3 HCO
      obtain ⟨q2, s2, e2, hcc⟩ := id x.hcv
      have HCC : Hid (∀ i (h : i < x.arm.coils.length), ∃ b o, q2 = some ⟨b, o, none⟩ ∧ b < w.heap.size ∧ ElemAt w b (o + i * 2) x.arm.coils[i]) := hcc
      have ha4 := ha3.2.2.2.2.1
      rw [e2] at ha4
      clear e2 e0 e1
      clear hsum3 hS3 hnu hnu2 hcc HNU HNFIT HEU HS2 hpl hk2 hf2 hbox2 hub3 hB2 hrl2
      gi_wp2
      gi_loopw [26] (fun i wq => ∃ m : Nat, m ≤ x.arm.coils.length ∧ i = .int .i64 m ∧ UseBox wq w.heap.size d (S + nu + ((x.arm.coils.map (Stil.elemUses d)).take m).sum) ∧ Below w.heap.size w wq ∧ (Kept w.heap.size (fun k => k = w.heap.size + 1) W wq ∧ KeepsFrom w1.heap.size W wq) ∧ W2.heap.size ≤ wq.heap.size) (fun i _ => x.arm.coils.length - (intOf i).toNat)
      case atStart => exact ⟨0, by omega, rfl, by simpa using hu3, hB3, ⟨hkk3, hkf3⟩, hsz3⟩
      case round =>
        obtain ⟨m, hm, rfl, hu4, hB4, ⟨hkp4, hkf4⟩, hsz4⟩ := hrel
        have hle3 := sum_take_le (x.arm.coils.map (Stil.elemUses d)) m
        by_cases hmt : m < x.arm.coils.length
        · obtain ⟨bc, oc, hq, hbc, hce⟩ := HCC.out m hmt
          obtain ⟨k0, cav, k1, hcav⟩ := id hce
          have hs3 := sum_take_succ (x.arm.coils.map (Stil.elemUses d)) m (by simpa using hmt)
          have hle4 := sum_take_le (x.arm.coils.map (Stil.elemUses d)) (m + 1)
          rw [List.getElem_map] at hs3
          have HNM : Hid (∀ X, Below w.heap.size w X → Calls Try.prog 32 #[.agg #[.int .i64 x.arm.coils[m].op, cav], .agg #[.int .i64 d.kind, .int .i64 d.n, .int .i64 d.p]] X fun r w' => r = .returned (.int .i64 (Stil.elemUses d x.arm.coils[m])) ∧ Below X.heap.size X w') := fun X hX => i_names x.arm.coils[m].op d x.arm.coils[m].args cav X (hcav.below hX) (HCF.out _ (List.getElem_mem hmt)).2.1
          have k0 := (hB4.cell (p := ⟨bc, oc + m * 2, none⟩) hbc).trans k0
          have k1 := (hB4.cell (p := ⟨bc, oc + m * 2 + 1, none⟩) hbc).trans k1
          obtain ⟨u, hu⟩ : ∃ u, u = Stil.elemUses d x.arm.coils[m] := ⟨_, rfl⟩
          obtain ⟨y, hy⟩ : ∃ y, y = x.arm.coils[m] := ⟨_, rfl⟩
          rw [← hu] at HNM hs3
          rw [← hy] at HNM k0
          obtain ⟨t1, t2, f1, _⟩ := hcav
          rw [← hy] at f1
          rw [f1] at HNM k1
          obtain ⟨A2', hA2⟩ : ∃ A2', A2' = ((x.arm.coils.map (Stil.elemUses d)).take m).sum := ⟨_, rfl⟩
          rw [← hA2] at hs3 hle3 hu4
          have HS4 : Hid (((x.arm.coils.map (Stil.elemUses d)).take (m + 1)).sum = A2' + u) := hs3
          have hwb : S + nu + A2' + u ≤ 1000000000 * 1048576 + 1048576 := by have := HCO.out; omega
          have hwr2 : IntKind.i64.wrap ((S : Int) + nu + A2' + u) = (S : Int) + nu + A2' + u := by rw [IntKind.wrap_i64]; omega
          have hbr : bc < wr.heap.size := lt_of_cell3 k0
          subst hq
          clear hu hy hA2 hs3 hce f1 hle4 hle3
          gi_wp2
          obtain ⟨W5, hW5⟩ : ∃ W5, W5 = wr.alloc (.cells #[.int .i64 y.op, .slice t1 y.args.length t2] 49) := ⟨_, rfl⟩
          rw [← hW5]
          have hb5 : Below wr.heap.size wr W5 := by rw [hW5]; exact below_alloc _ _
          have hu5 := hu4.below hb5
          have hB5 : Below w.heap.size w W5 := hB4.trans (hb5.mono hB4.size)
          have hkp5 := kp_call hkp4 hn hb5
          have hkf5 := kf_call hkf4 hb5
          have hsz5 := hb5.size
          obtain ⟨v5, hv5⟩ : ∃ v5, v5 = wr.heap.size := ⟨_, rfl⟩
          rw [← hv5]
          have m0 : W5.cell? ⟨v5, 0, none⟩ = some (.int .i64 y.op) := by rw [hW5, hv5]; simp [go_sem]
          have m1 : W5.cell? ⟨v5, 1, none⟩ = some (.slice t1 y.args.length t2) := by rw [hW5, hv5]; simp [go_sem]
          obtain ⟨g0, g1, g2, d2, z2⟩ := id hu5
          clear hW5 hv5 k0 k1 hu4 hb5
          refine wpIn_region_any (by kernel_rfl) ?_
          try (change wpAnyIn _ _ _ _ _ _ _ _ _ (World.drew _))
          apply share
          · intro ky0
            apply share
            · intro ky1
              apply share
              · intro ky2
                apply share
                · intro ky3
                  refine wpAnyIn_ready (rs := [0, 1, 2]) (by kernel_rfl) (by simp) ?_
                  refine AllReadyIn.cons rfl (fun KK hKK => ?_) ?_
                  · go_simp
                    refine hKK _ _ ?_
                    clear hKK KK
                    refine wpAnyIn_ready (rs := [1, 2]) (by kernel_rfl) (by simp) ?_
                    refine AllReadyIn.cons rfl (fun KK hKK => ?_) ?_
                    · go_simp
                      refine hKK _ _ ?_
                      clear hKK KK
                      exact ky1
                    refine AllReadyIn.cons rfl (fun KK hKK => ?_) ?_
                    · go_simp
                      refine hKK _ _ ?_
                      clear hKK KK
                      exact ky2
                    exact AllReadyIn.nil
                  refine AllReadyIn.cons rfl (fun KK hKK => ?_) ?_
                  · go_simp
                    refine hKK _ _ ?_
                    clear hKK KK
                    refine wpAnyIn_ready (rs := [0, 2]) (by kernel_rfl) (by simp) ?_
                    refine AllReadyIn.cons rfl (fun KK hKK => ?_) ?_
                    · go_simp
                      refine hKK _ _ ?_
                      clear hKK KK
                      exact ky1
                    refine AllReadyIn.cons rfl (fun KK hKK => ?_) ?_
                    · go_simp
                      refine hKK _ _ ?_
                      clear hKK KK
                      exact ky3
                    exact AllReadyIn.nil
                  refine AllReadyIn.cons rfl (fun KK hKK => ?_) ?_
                  · go_simp
                    refine hKK _ _ ?_
                    clear hKK KK
                    refine wpAnyIn_ready (rs := [0, 1]) (by kernel_rfl) (by simp) ?_
                    refine AllReadyIn.cons rfl (fun KK hKK => ?_) ?_
                    · go_simp
                      refine hKK _ _ ?_
                      clear hKK KK
                      exact ky2
                    refine AllReadyIn.cons rfl (fun KK hKK => ?_) ?_
                    · go_simp
                      refine hKK _ _ ?_
                      clear hKK KK
                      exact ky3
                    exact AllReadyIn.nil
                  exact AllReadyIn.nil
                · refine wpAnyIn_ready (rs := [0, 3]) (by kernel_rfl) (by simp) ?_
                  refine AllReadyIn.cons rfl (fun KK hKK => ?_) ?_
                  · go_simp
                    refine hKK _ _ ?_
                    clear hKK KK
                    exact ky0
                  refine AllReadyIn.cons rfl (fun KK hKK => ?_) ?_
                  · go_simp
                    refine ⟨trivial, ?_⟩
                    refine (CallsIn.inRound l (callsIn_wide.2 (HNM.out _ (by (repeat (first | with_reducible exact Below.refl _ _ | with_reducible assumption | with_reducible refine bl_set (by first | exact Nat.le_refl _ | (simp; done) | (simp; omega) | omega) ?_ _ | with_reducible refine bl_alloc ?_ _ | with_reducible refine bl_drewN ?_ _ | with_reducible refine bl_drew ?_ | with_reducible refine bl_grow ?_ _ _ | with_reducible refine bl_call ?_ (by assumption))))))).mono ?_
                    rintro e W4 ⟨rfl, hb4⟩
                    refine hKK _ _ ?_
                    clear hKK KK
                    have d3 := (hb4.cell (p := ⟨w.heap.size + 1, 0, none⟩) (lt_of_cell3 d2)).trans d2
                    have z3 := (hb4.frozen (p := ⟨w.heap.size + 1, 0, none⟩) (lt_of_cell3 d2)).trans z2
                    refine wpAnyIn_ready (rs := [0]) (by kernel_rfl) (by simp) ?_
                    refine AllReadyIn.cons rfl (fun KK hKK => ?_) AllReadyIn.nil
                    go_simp
                    refine hKK _ _ ?_
                    clear hKK KK
                    refine wpAnyIn_ready (rs := [4]) (by kernel_rfl) (by simp) ?_
                    refine AllReadyIn.cons rfl (fun KK hKK => ?_) AllReadyIn.nil
                    go_simp
                    try simp only [hwr2]
                    refine hKK _ _ ?_
                    clear hKK KK
                    refine wpAnyIn_ready (rs := [5]) (by kernel_rfl) (by simp) ?_
                    refine AllReadyIn.cons rfl (fun KK hKK => ?_) AllReadyIn.nil
                    go_simp
                    refine hKK _ _ ?_
                    clear hKK KK
                    refine wpAnyIn_done (by kernel_rfl) ?_ _
                    gi_wp2
                    refine ⟨⟨m + 1, by omega, by go_num, UseBox.set (UseBox.below (W := W5.drew) hu5 hb4) _ _ (by rw [HS4.out]; omega), by (repeat (first | with_reducible exact Below.refl _ _ | with_reducible assumption | with_reducible refine bl_set (by first | exact Nat.le_refl _ | (simp; done) | (simp; omega) | omega) ?_ _ | with_reducible refine bl_alloc ?_ _ | with_reducible refine bl_drewN ?_ _ | with_reducible refine bl_drew ?_ | with_reducible refine bl_grow ?_ _ _ | with_reducible refine bl_call ?_ (by assumption))), ⟨kp_set (b := w.heap.size + 1) (kp_call (kp_drew hkp5) hn hb4) (by omega) rfl _, kf_set (kf_call (kf_drew hkf5) hb4) _ _⟩, by have := hb4.size; simp at *; omega⟩, by simp [intOf]; omega⟩
                  exact AllReadyIn.nil
              · refine wpAnyIn_ready (rs := [1]) (by kernel_rfl) (by simp) ?_
                refine AllReadyIn.cons rfl (fun KK hKK => ?_) AllReadyIn.nil
                go_simp
                refine hKK _ _ ?_
                clear hKK KK
                exact ky0
            · refine wpAnyIn_ready (rs := [2]) (by kernel_rfl) (by simp) ?_
              refine AllReadyIn.cons rfl (fun KK hKK => ?_) AllReadyIn.nil
              go_simp
              refine hKK _ _ ?_
              clear hKK KK
              exact ky0
          · refine wpAnyIn_ready (rs := [3]) (by kernel_rfl) (by simp) ?_
            refine AllReadyIn.cons rfl (fun KK hKK => ?_) AllReadyIn.nil
            go_simp
            refine ⟨trivial, ?_⟩
            refine (CallsIn.inRound l (callsIn_wide.2 (HNM.out _ (by (repeat (first | with_reducible exact Below.refl _ _ | with_reducible assumption | with_reducible refine bl_set (by first | exact Nat.le_refl _ | (simp; done) | (simp; omega) | omega) ?_ _ | with_reducible refine bl_alloc ?_ _ | with_reducible refine bl_drewN ?_ _ | with_reducible refine bl_drew ?_ | with_reducible refine bl_grow ?_ _ _ | with_reducible refine bl_call ?_ (by assumption))))))).mono ?_
            rintro e W4 ⟨rfl, hb4⟩
            refine hKK _ _ ?_
            clear hKK KK
            have d3 := (hb4.cell (p := ⟨w.heap.size + 1, 0, none⟩) (lt_of_cell3 d2)).trans d2
            have z3 := (hb4.frozen (p := ⟨w.heap.size + 1, 0, none⟩) (lt_of_cell3 d2)).trans z2
            refine wpAnyIn_ready (rs := [4]) (by kernel_rfl) (by simp) ?_
            refine AllReadyIn.cons rfl (fun KK hKK => ?_) AllReadyIn.nil
            go_simp
            try simp only [hwr2]
            refine hKK _ _ ?_
            clear hKK KK
            refine wpAnyIn_ready (rs := [5]) (by kernel_rfl) (by simp) ?_
            refine AllReadyIn.cons rfl (fun KK hKK => ?_) AllReadyIn.nil
            go_simp
            refine hKK _ _ ?_
            clear hKK KK
            refine wpAnyIn_done (by kernel_rfl) ?_ _
            gi_wp2
            refine ⟨⟨m + 1, by omega, by go_num, UseBox.set (UseBox.below (W := W5.drew) hu5 hb4) _ _ (by rw [HS4.out]; omega), by (repeat (first | with_reducible exact Below.refl _ _ | with_reducible assumption | with_reducible refine bl_set (by first | exact Nat.le_refl _ | (simp; done) | (simp; omega) | omega) ?_ _ | with_reducible refine bl_alloc ?_ _ | with_reducible refine bl_drewN ?_ _ | with_reducible refine bl_drew ?_ | with_reducible refine bl_grow ?_ _ _ | with_reducible refine bl_call ?_ (by assumption))), ⟨kp_set (b := w.heap.size + 1) (kp_call (kp_drew hkp5) hn hb4) (by omega) rfl _, kf_set (kf_call (kf_drew hkf5) hb4) _ _⟩, by have := hb4.size; simp at *; omega⟩, by simp [intOf]; omega⟩
        · have hA2 : ((x.arm.coils.map (Stil.elemUses d)).take m).sum = (x.arm.coils.map (Stil.elemUses d)).sum := by rw [List.take_of_length_le (by simp; omega)]
          have hun : S + nu + ((x.arm.coils.map (Stil.elemUses d)).take m).sum = ((pre ++ [x]).map (Stil.armOwnUses d ∘ ArmV.arm)).sum := by rw [HSN.out, HCO.out, hA2]; omega
          rw [hun] at hu4
          gi_wp2
          exact ⟨hkf4, hkp4, ⟨⟨hu4, hB4⟩, by rw [HSN.out, HPL.out]; omega, by omega⟩⟩
    case stop2 =>
      rintro c pre' W' _ h
      exact h.elim
  case done =>
    rintro D ys W hD hS ⟨⟨hub2, hB⟩, _⟩ hK
    rw [← List.map_map, hS, HSUM.out] at hub2
    have hc := hub2.2.2.2.1
    gi_wp2
    refine ⟨by simp, .inl ⟨_, _, rfl, run_takeDeferred hK, ?_⟩⟩
    exact ⟨_, results_tmp rfl _ _ _, rfl, hB.trans (belowK_b (w := w) (Nat.le_refl _) W D _ _ (by omega) hK rfl rfl)⟩
  case stop =>
    rintro D c pre W _ _ h _
    exact h.elim
end Go.Proofs.Ytpeojflemfppgaa
