/- L3a, L3b, L3b1, L3b2, L3b4, L3a1, L3a2, L3a3, L3a4, L3c1, L3c2, L3c3, L3c4: texts put together. -/
import Derived.Test.YtpaljcoojkbhnaaGreatDoorGT
import Derived.Test.YtpaljcoojkbhnaaGreatDoorGU
import Derived.Test.YtpaljcoojkbhnaaGreatDoorGM
/- Contracts of the laws' helpers for ladders: what they weigh. -/
namespace Go.Proofs.YtpaljcoojkbhnaaGreatDoor
open Go.RowKit Go.Sort Go.BigFrame
theorem szL_neg {left : Int} {n : Nat} (h : left - n < 0) : szL left n = -1 := by unfold szL; rw [if_pos h]
theorem szL_nn {left : Int} {n : Nat} (h : ¬ left - n < 0) : szL left n = left - n := by unfold szL; rw [if_neg h]
theorem l_szElem' (x : Stil.Elem) (hx : x.wf) : ∀ (av : Value) (q : Int) (w : World), DevsAt w av x.args → 0 ≤ q → q ≤ 1048576 → Calls Tryz.prog 45 #[.agg #[.int .i64 x.op, av], .int .i64 q] w fun e w' => e = .returned (.int .i64 (szL q (Stil.elemSz x))) ∧ Below w.heap.size w w' := by
  intro av q w hav h1 h2
  obtain ⟨a, cap, rfl, _⟩ := hav
  exact l_szElem x.op a _ cap q w h1 h2 hx.2.1
end Go.Proofs.YtpaljcoojkbhnaaGreatDoor
/- Contracts of the laws' helpers for ladders: copies. -/
namespace Go.Proofs.YtpaljcoojkbhnaaGreatDoor
open Go.RowKit Go.Sort Go.BigFrame
end Go.Proofs.YtpaljcoojkbhnaaGreatDoor
/- Contracts of the laws' helpers for ladders: copies. -/
namespace Go.Proofs.YtpaljcoojkbhnaaGreatDoor
open Go.RowKit Go.Sort Go.BigFrame
end Go.Proofs.YtpaljcoojkbhnaaGreatDoor
/- Contracts of the laws' helpers for ladders: copies. -/
namespace Go.Proofs.YtpaljcoojkbhnaaGreatDoor
open Go.RowKit Go.Sort Go.BigFrame
theorem info_Net : (Tryz.prog.info? 29).map (fun i => (i.zero, i.size, i.bytes)) = some (some (.agg #[.int .i64 0, .int .i64 0, .slice none 0 0, .slice none 0 0]), 4, 64) := by kernel_rfl
end Go.Proofs.YtpaljcoojkbhnaaGreatDoor
/- Contracts of the laws' helpers for ladders: copies of nets. -/
namespace Go.Proofs.YtpaljcoojkbhnaaGreatDoor
open Go.RowKit Go.Sort Go.BigFrame
end Go.Proofs.YtpaljcoojkbhnaaGreatDoor
/- Contracts of the laws' helpers for ladders: what they weigh. -/
namespace Go.Proofs.YtpaljcoojkbhnaaGreatDoor
open Go.RowKit Go.Sort Go.BigFrame
end Go.Proofs.YtpaljcoojkbhnaaGreatDoor
/- Contracts of the laws' helpers for ladders: what they weigh. -/
namespace Go.Proofs.YtpaljcoojkbhnaaGreatDoor
open Go.RowKit Go.Sort Go.BigFrame
end Go.Proofs.YtpaljcoojkbhnaaGreatDoor
/- Contracts of the laws' helpers for ladders: what they weigh. -/
namespace Go.Proofs.YtpaljcoojkbhnaaGreatDoor
open Go.RowKit Go.Sort Go.BigFrame
end Go.Proofs.YtpaljcoojkbhnaaGreatDoor
/- Contracts of the laws' helpers for ladders: what they weigh. -/
namespace Go.Proofs.YtpaljcoojkbhnaaGreatDoor
open Go.RowKit Go.Sort Go.BigFrame
end Go.Proofs.YtpaljcoojkbhnaaGreatDoor
/- Contracts of the laws' helpers for ladders: are two the same. -/
namespace Go.Proofs.YtpaljcoojkbhnaaGreatDoor
open Go.RowKit Go.Sort Go.BigFrame
end Go.Proofs.YtpaljcoojkbhnaaGreatDoor
/- Contracts of the laws' helpers for ladders: are two the same. -/
namespace Go.Proofs.YtpaljcoojkbhnaaGreatDoor
open Go.RowKit Go.Sort Go.BigFrame
set_option maxHeartbeats 1000000 in
set_option maxRecDepth 100000 in
theorem l_eqNets (es : List Stil.Net) (ih : ∀ x ∈ es, ∀ (av kv avq kvq : Value) (w : World), DevsAt w av x.one.args → NetsAt w kv x.kids → DevsAt w avq x.one.args → NetsAt w kvq x.kids → Calls Tryz.prog 9 #[.agg #[.int .i64 x.kind, .int .i64 x.one.op, av, kv], .agg #[.int .i64 x.kind, .int .i64 x.one.op, avq, kvq]] w fun e w' => e = .returned (.bool true) ∧ Below w.heap.size w w') (v u : Value) (w : World) (hat : NetsAt w v es) (hau : NetsAt w u es) (hl : es.length ≤ 1048576) :
    Calls Tryz.prog 28 #[v, u] w fun e w' => e = .returned (.bool true) ∧ Below w.heap.size w w' := by
  obtain ⟨a, cap, rfl, hc⟩ := hat
  obtain ⟨a2, cap2, rfl, hc2⟩ := hau
  have HA : Hid (∀ i (h : i < es.length), ∃ b o, a = some ⟨b, o, none⟩ ∧ b < w.heap.size ∧ NetAt w b (o + i * 4) es[i]) := hc
  have HB : Hid (∀ i (h : i < es.length), ∃ b o, a2 = some ⟨b, o, none⟩ ∧ b < w.heap.size ∧ NetAt w b (o + i * 4) es[i]) := hc2
  have IH : Hid (∀ x ∈ es, ∀ (av kv avq kvq : Value) (w : World), DevsAt w av x.one.args → NetsAt w kv x.kids → DevsAt w avq x.one.args → NetsAt w kvq x.kids → Calls Tryz.prog 9 #[.agg #[.int .i64 x.kind, .int .i64 x.one.op, av, kv], .agg #[.int .i64 x.kind, .int .i64 x.one.op, avq, kvq]] w fun e w' => e = .returned (.bool true) ∧ Below w.heap.size w w') := ih
  clear hc hc2 ih
  go_enter Tryz.func28, Tryz.ntmps28
  go_wp2
  go_loopw [5] (fun i wr => ∃ k : Nat, k ≤ es.length ∧ i = .int .i64 k ∧ Below w.heap.size w wr) (fun i _ => es.length - (intOf i).toNat)
  case atStart => exact ⟨0, by omega, rfl, Below.refl _ _⟩
  case round =>
    obtain ⟨k, hk, rfl, hb⟩ := hrel
    by_cases hlt : k < es.length
    · obtain ⟨b, o, rfl, hbl, hn⟩ := HA.out k hlt
      have hn2 := (NetAt.below hb _ _ _ hn hbl)
      obtain ⟨b2, o2, rfl, hbl2, hm⟩ := HB.out k hlt
      have hm2 := (NetAt.below hb _ _ _ hm hbl2)
      obtain ⟨x0, x1, av, kv, x2, x3, hav, hkv⟩ := (hn2).open
      obtain ⟨y0, y1, avq, kvq, y2, y3, havq, hkvq⟩ := (hm2).open
      have HI : Hid (∀ W, Below wr.heap.size wr W → Calls Tryz.prog 9 #[.agg #[.int .i64 es[k].kind, .int .i64 es[k].one.op, av, kv], .agg #[.int .i64 es[k].kind, .int .i64 es[k].one.op, avq, kvq]] W fun e w' => e = .returned (.bool true) ∧ Below W.heap.size W w') := fun W hW => IH.out es[k] (List.getElem_mem hlt) _ _ _ _ W (hav.below hW) (hkv.below hW) (havq.below hW) (hkvq.below hW)
      obtain ⟨x, hx⟩ : ∃ x, x = es[k] := ⟨_, rfl⟩
      rw [← hx] at HI x0 x1 y0 y1
      obtain ⟨p0, r0, rfl, _⟩ := hav
      obtain ⟨pq0, rq0, rfl, _⟩ := havq
      obtain ⟨p1, r1, rfl, _⟩ := hkv
      obtain ⟨pq1, rq1, rfl, _⟩ := hkvq
      clear hx hn hn2 hm hm2
      have rx0 := cell_regrown x0
      have ry0 := cell_regrown y0
      have rx1 := cell_regrown x1
      have ry1 := cell_regrown y1
      have rx2 := cell_regrown x2
      have ry2 := cell_regrown y2
      have rx3 := cell_regrown x3
      have ry3 := cell_regrown y3
      go_wp2
      refine wp_region_quiet_below (by kernel_rfl) (by kernel_rfl) ?_
      repeat (go_big_quiet_step ((exact Calls.regrown_of (HI.out _ (by (repeat (first | exact Below.refl _ _ | assumption | refine bl_alloc ?_ _ | refine bl_drewN ?_ _ | refine bl_drew ?_ | refine bl_grow ?_ _ _ | refine bl_set (Nat.le_refl _) ?_ _ | refine bl_call ?_ (by assumption))))))))
      refine wpQuiet_nil ?_
      intro _ hw'
      obtain ⟨⟨dq, osq⟩, hw''⟩ := hw'
      subst hw''
      go_wp2
      exact ⟨⟨k + 1, by omega, by go_num, bl_grow hb _ _⟩, by simp [intOf]; omega⟩
    · go_wp2
      go_ret
      exact ⟨rfl, hb⟩
end Go.Proofs.YtpaljcoojkbhnaaGreatDoor
/- Contracts of the laws' helpers for ladders: are two the same. -/
namespace Go.Proofs.YtpaljcoojkbhnaaGreatDoor
open Go.RowKit Go.Sort Go.BigFrame
end Go.Proofs.YtpaljcoojkbhnaaGreatDoor
/- Contracts of the laws' helpers for ladders: are two nets, two arms the same. -/
namespace Go.Proofs.YtpaljcoojkbhnaaGreatDoor
open Go.RowKit Go.Sort Go.BigFrame
theorem l_eqElem' (x : Stil.Elem) (hx : x.fits) : ∀ (av avq : Value) (w : World), DevsAt w av x.args → DevsAt w avq x.args → Calls Tryz.prog 27 #[.agg #[.int .i64 x.op, av], .agg #[.int .i64 x.op, avq]] w fun e w' => e = .returned (.bool true) ∧ Below w.heap.size w w' := by
  intro av avq w hav havq
  refine (l_eqElem x.op x.op av avq x.args x.args w hav havq hx.2.1 hx.2.1).mono ?_
  rintro e w1 ⟨rfl, hb⟩
  exact ⟨ret_bool (by simp), hb⟩
set_option maxHeartbeats 1000000 in
set_option maxRecDepth 100000 in
theorem l_eqNet (n : Stil.Net) : Stil.netFits n → ∀ (av kv avq kvq : Value) (w : World), DevsAt w av n.one.args → NetsAt w kv n.kids → DevsAt w avq n.one.args → NetsAt w kvq n.kids → Calls Tryz.prog 9 #[.agg #[.int .i64 n.kind, .int .i64 n.one.op, av, kv], .agg #[.int .i64 n.kind, .int .i64 n.one.op, avq, kvq]] w fun e w' => e = .returned (.bool true) ∧ Below w.heap.size w w' := by
  induction n using Stil.net_ind with
  | h k e kids ih =>
    intro hft av kv avq kvq w hav hkv havq hkvq
    obtain ⟨_, he, hl, hk⟩ := (Stil.netFits_eq _ _ _).1 hft
    simp only at hav hkv havq hkvq
    have H1 : Hid (∀ W, Below w.heap.size w W → Calls Tryz.prog 27 #[.agg #[.int .i64 e.op, av], .agg #[.int .i64 e.op, avq]] W fun e' w' => e' = .returned (.bool true) ∧ Below W.heap.size W w') := fun W hW => l_eqElem' e he av avq W (hav.below hW) (havq.below hW)
    have H2 : Hid (∀ W, Below w.heap.size w W → Calls Tryz.prog 28 #[kv, kvq] W fun e w' => e = .returned (.bool true) ∧ Below W.heap.size W w') := fun W hW => l_eqNets kids (fun x hx => ih x hx (hk x hx)) kv kvq W (hkv.below hW) (hkvq.below hW) hl
    obtain ⟨p0, r0, rfl, _⟩ := hav
    obtain ⟨p1, r1, rfl, _⟩ := hkv
    obtain ⟨p2, r2, rfl, _⟩ := havq
    obtain ⟨p3, r3, rfl, _⟩ := hkvq
    clear ih hft he hl hk
    go_enter Tryz.func9, Tryz.ntmps9
    go_wp2_with (first | (go_at_call 27; refine (H1.out _ (by (repeat (first | with_reducible exact Below.refl _ _ | with_reducible assumption | with_reducible refine bl_set (by first | exact Nat.le_refl _ | (simp; done) | (simp; omega) | omega) ?_ _ | with_reducible refine bl_alloc ?_ _ | with_reducible refine bl_drewN ?_ _ | with_reducible refine bl_drew ?_ | with_reducible refine bl_grow ?_ _ _ | with_reducible refine bl_call ?_ (by assumption))))).mono ?_; rintro e w1 ⟨rfl, hb⟩; obtain ⟨hc, hf⟩ := bcell hb) | (go_at_call 28; refine (H2.out _ (by (repeat (first | with_reducible exact Below.refl _ _ | with_reducible assumption | with_reducible refine bl_set (by first | exact Nat.le_refl _ | (simp; done) | (simp; omega) | omega) ?_ _ | with_reducible refine bl_alloc ?_ _ | with_reducible refine bl_drewN ?_ _ | with_reducible refine bl_drew ?_ | with_reducible refine bl_grow ?_ _ _ | with_reducible refine bl_call ?_ (by assumption))))).mono ?_; rintro e w2 ⟨rfl, hb2⟩))
    go_ret
    exact ⟨rfl, by (repeat (first | with_reducible exact Below.refl _ _ | with_reducible assumption | with_reducible refine bl_set (by first | exact Nat.le_refl _ | (simp; done) | (simp; omega) | omega) ?_ _ | with_reducible refine bl_alloc ?_ _ | with_reducible refine bl_drewN ?_ _ | with_reducible refine bl_drew ?_ | with_reducible refine bl_grow ?_ _ _ | with_reducible refine bl_call ?_ (by assumption)))⟩
end Go.Proofs.YtpaljcoojkbhnaaGreatDoor
