/- The program's chapter 4: the forms of all kids. -/
import Derived.Test.YthhfnncehfkbfaaDoorY7e
namespace Go.Proofs.YthhfnncehfkbfaaDoor
open Go.RowKit Go.Sort Go.BigFrame
set_option maxHeartbeats 2000000 in
set_option maxRecDepth 100000 in
theorem i_foldEach (es : List Stil.Net) (ih : ∀ x ∈ es, ∀ (av kv : Value) (w : World), DevsAt w av x.one.args → NetsAt w kv x.kids → Calls Tryd.prog 20 #[.agg #[.int .i64 x.kind, .int .i64 x.one.op, av, kv]] w fun e w' => NetRet w' w.heap.size (Stil.normNet x) e ∧ Below w.heap.size w w')
    (B : Nat) (v : Value) (w : World) (hat : NetsAt w v es) (hl : es.length ≤ 999999) (hbx : w.cell? ⟨B, 0, none⟩ = some (.func (.func 20) #[] #[])) (hB : B < w.heap.size) :
    Calls Tryd.prog 51 #[v, .slice none 0 0, .func (.func 52) #[] #[.pointer (some ⟨B, 0, none⟩)]] w fun e w' => ∃ (a : Option Addr) (c : Nat) (ms : List MNet), e = .returned (.slice a ms.length c) ∧ ms.map MNet.net = es.map Stil.normNet ∧ MRow w' w.heap.size (.slice a ms.length c) ms ∧ Below w.heap.size w w' := by
  obtain ⟨a, cap, rfl, hc⟩ := hat
  have HA : Hid (∀ i (h : i < es.length), ∃ b o, a = some ⟨b, o, none⟩ ∧ b < w.heap.size ∧ NetAt w b (o + i * 4) es[i]) := hc
  have IH : Hid (∀ x ∈ es, ∀ (av kv : Value) (w : World), DevsAt w av x.one.args → NetsAt w kv x.kids → Calls Tryd.prog 20 #[.agg #[.int .i64 x.kind, .int .i64 x.one.op, av, kv]] w fun e w' => NetRet w' w.heap.size (Stil.normNet x) e ∧ Below w.heap.size w w') := ih
  have HBX : Hid (w.cell? ⟨B, 0, none⟩ = some (.func (.func 20) #[] #[])) := hbx
  clear hc ih hbx
  go_enter Tryd.func51, Tryd.ntmps51
  go_wp2
  go_loopw [1, 11] (fun d i wr => ∃ (j : Nat) (ms : List MNet) (ra : Option Addr) (rc : Nat), j ≤ es.length ∧ i = .int .i64 j ∧ d = .slice ra ms.length rc ∧ ms.map MNet.net = (es.take j).map Stil.normNet ∧ MRow wr w.heap.size (.slice ra ms.length rc) ms ∧ Below w.heap.size w wr) (fun _ i _ => es.length - (intOf i).toNat)
  case atStart => exact ⟨0, [], none, 0, by omega, rfl, rfl, rfl, MRow.nil _ _, Below.refl _ _⟩
  case round =>
    obtain ⟨j, ms, ra, rc, hj, rfl, rfl, hmn, hmr, hb⟩ := hrel
    have HMN : Hid (ms.map MNet.net = (es.take j).map Stil.normNet) := hmn
    have HMR : Hid (MRow wr w.heap.size (.slice ra ms.length rc) ms) := hmr
    clear hmn hmr
    by_cases hlt : j < es.length
    · have hml : ms.length = j := by
        have h1 := congrArg List.length HMN.out
        rw [List.length_map, List.length_map, List.length_take] at h1
        omega
      obtain ⟨b, o, rfl, hbl, hn⟩ := HA.out j hlt
      obtain ⟨x0, x1, av, kv, x2, x3, hav, hkv⟩ := (NetAt.below hb _ _ _ hn hbl).open
      have HTS : Hid (es.take (j + 1) = es.take j ++ [es[j]]) := List.take_succ_eq_append_getElem hlt
      have HI : Hid (∀ W, Below wr.heap.size wr W → Calls Tryd.prog 52 #[.slice ra ms.length rc, .agg #[.int .i64 es[j].kind, .int .i64 es[j].one.op, av, kv], .pointer (some ⟨B, 0, none⟩)] W fun e w' => ∃ (a : Option Addr) (c : Nat) (m : MNet), e = .returned (.slice a (ms.length + 1) c) ∧ m.net = Stil.normNet es[j] ∧ MRow w' w.heap.size (.slice a (ms.length + 1) c) (ms ++ [m]) ∧ Below w.heap.size W w' ∧ ∀ k, (Value.slice a (ms.length + 1) c).ownBlock = some k → w.heap.size ≤ k) := by
        intro W hW
        have hbW := hb.trans (hW.mono hb.size)
        exact i_each1 es[j] B w.heap.size w.heap.size ra rc ms av kv W (fun V hV => IH.out es[j] (List.getElem_mem hlt) av kv V ((hav.below hW).below hV) ((hkv.below hW).below hV)) (hav.below hW) (hkv.below hW) ((hbW.cell (p := ⟨B, 0, none⟩) hB).trans HBX.out) (Nat.lt_of_lt_of_le hB hbW.size) (HMR.out.below hW) (by omega) hbW.size hbW.size (fun k hk => (HMR.out.1.lt k hk).1)
      obtain ⟨x, hx⟩ : ∃ x, x = es[j] := ⟨_, rfl⟩
      rw [← hx] at HI x0 x1 hav hkv HTS
      obtain ⟨p0, r0, rfl, hz8⟩ := hav
      obtain ⟨p1, r1, rfl, hz9⟩ := hkv
      have hb0 : b < wr.heap.size := Nat.lt_of_lt_of_le hbl hb.size
      clear hx hn hz8 hz9 hml hbl
      go_wp2_with (go_at_call 52; refine (HI.out _ (by (repeat (first | with_reducible exact Below.refl _ _ | with_reducible assumption | with_reducible refine bl_set (by first | exact Nat.le_refl _ | (simp; done) | (simp; omega) | omega) ?_ _ | with_reducible refine bl_alloc ?_ _ | with_reducible refine bl_drewN ?_ _ | with_reducible refine bl_drew ?_ | with_reducible refine bl_grow ?_ _ _ | with_reducible refine bl_call ?_ (by assumption))))).mono ?_; rintro e w2 ⟨a2, c2, m, rfl, hmn2, hmr2, hb2, hv2⟩; have hb3 : Below w.heap.size w w2 := (show Below w.heap.size w _ from hb.trans ((show Below wr.heap.size wr _ by (repeat (first | with_reducible exact Below.refl _ _ | with_reducible assumption | with_reducible refine bl_set (by first | exact Nat.le_refl _ | (simp; done) | (simp; omega) | omega) ?_ _ | with_reducible refine bl_alloc ?_ _ | with_reducible refine bl_drewN ?_ _ | with_reducible refine bl_drew ?_ | with_reducible refine bl_grow ?_ _ _ | with_reducible refine bl_call ?_ (by assumption)))).mono hb.size)).trans hb2; have HN2 : Hid (m.net = Stil.normNet x) := hmn2; have HR2 : Hid (MRow w2 w.heap.size (.slice a2 (ms.length + 1) c2) (ms ++ [m])) := hmr2; clear hmn2 hmr2 hv2)
      refine ⟨⟨j + 1, ms ++ [m], a2, c2, by omega, by go_num, by simp, ?_, by rw [List.length_append]; exact HR2.out, hb3⟩, by simp [intOf]; omega⟩
      rw [HTS.out, List.map_append, List.map_append, HMN.out, List.map_singleton, List.map_singleton, HN2.out]
    · obtain rfl : j = es.length := by omega
      have hmn := HMN.out
      rw [List.take_length] at hmn
      have HMN2 : Hid (ms.map MNet.net = es.map Stil.normNet) := hmn
      clear hmn
      go_wp2
      go_ret
      exact ⟨ra, rc, ms, rfl, HMN2.out, HMR.out, hb⟩
set_option maxHeartbeats 2000000 in
set_option maxRecDepth 100000 in
theorem i_normEach (es : List Stil.Net) (ih : ∀ x ∈ es, ∀ (av kv : Value) (w : World), DevsAt w av x.one.args → NetsAt w kv x.kids → Calls Tryd.prog 20 #[.agg #[.int .i64 x.kind, .int .i64 x.one.op, av, kv]] w fun e w' => NetRet w' w.heap.size (Stil.normNet x) e ∧ Below w.heap.size w w')
    (v : Value) (w : World) (hat : NetsAt w v es) (hl : es.length ≤ 999999) :
    Calls Tryd.prog 34 #[v, .func (.func 20) #[] #[]] w fun e w' => ∃ (a : Option Addr) (c : Nat) (ms : List MNet), e = .returned (.slice a ms.length c) ∧ ms.map MNet.net = es.map Stil.normNet ∧ MRow w' w.heap.size (.slice a ms.length c) ms ∧ Below w.heap.size w w' := by
  have HF : Hid (∀ W B, Below w.heap.size w W → W.cell? ⟨B, 0, none⟩ = some (.func (.func 20) #[] #[]) → B < W.heap.size → Calls Tryd.prog 51 #[v, .slice none 0 0, .func (.func 52) #[] #[.pointer (some ⟨B, 0, none⟩)]] W fun e w' => ∃ (a : Option Addr) (c : Nat) (ms : List MNet), e = .returned (.slice a ms.length c) ∧ ms.map MNet.net = es.map Stil.normNet ∧ MRow w' W.heap.size (.slice a ms.length c) ms ∧ Below W.heap.size W w') := fun W B h h1 h2 => i_foldEach es ih B v W (hat.below h) hl h1 h2
  obtain ⟨p0, r0, rfl, hz8⟩ := hat
  clear hz8 ih
  go_enter Tryd.func34, Tryd.ntmps34
  go_wp2_with (go_at_call 51; refine (HF.out _ _ (by (repeat (first | with_reducible exact Below.refl _ _ | with_reducible assumption | with_reducible refine bl_set (by first | exact Nat.le_refl _ | (simp; done) | (simp; omega) | omega) ?_ _ | with_reducible refine bl_alloc ?_ _ | with_reducible refine bl_drewN ?_ _ | with_reducible refine bl_drew ?_ | with_reducible refine bl_grow ?_ _ _ | with_reducible refine bl_call ?_ (by assumption)))) (by simp [go_sem]) (by simp)).mono ?_; rintro e w1 ⟨ra, rc, ms, rfl, hmn, hmr, hb1⟩; have HMN : Hid (ms.map MNet.net = es.map Stil.normNet) := hmn; have HMR : Hid (MRow w1 _ (.slice ra ms.length rc) ms) := hmr; clear hmn hmr)
  go_ret
  exact ⟨ra, rc, ms, rfl, HMN.out, HMR.out.le (by simp), by (repeat (first | with_reducible exact Below.refl _ _ | with_reducible assumption | with_reducible refine bl_set (by first | exact Nat.le_refl _ | (simp; done) | (simp; omega) | omega) ?_ _ | with_reducible refine bl_alloc ?_ _ | with_reducible refine bl_drewN ?_ _ | with_reducible refine bl_drew ?_ | with_reducible refine bl_grow ?_ _ _ | with_reducible refine bl_call ?_ (by assumption)))⟩
end Go.Proofs.YthhfnncehfkbfaaDoor
