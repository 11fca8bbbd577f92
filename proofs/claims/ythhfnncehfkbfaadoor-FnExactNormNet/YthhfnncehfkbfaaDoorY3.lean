/- Nets in memory: are the marks held; marks of one net. -/
import Derived.Test.YthhfnncehfkbfaaDoorY2
namespace Go.Proofs.YthhfnncehfkbfaaDoor
open Go.RowKit Go.Sort Go.BigFrame
set_option maxHeartbeats 2000000 in
set_option maxRecDepth 100000 in
theorem p_heldNets (Q : Pl → Prop) (m : MNet) : ∀ (k : Int) (w : World), MSh Q w m → HeldAt w m.rps k → 0 ≤ k → k + m.rps.length ≤ 4611686018427387904 →
    Calls Tryd.prog 26 #[m.kv, .int .i64 k] w fun e w' => e = .returned (.int .i64 (k + m.rps.length)) ∧ w' = w := by
  refine mnet_ind (fun m => ∀ (k : Int) (w : World), MSh Q w m → HeldAt w m.rps k → 0 ≤ k → k + m.rps.length ≤ 4611686018427387904 →
    Calls Tryd.prog 26 #[m.kv, .int .i64 k] w fun e w' => e = .returned (.int .i64 (k + m.rps.length)) ∧ w' = w) ?_ m
  intro kk op ds av0 kv0 kids ih k w hsh hh hk0 hkl
  have IH : Hid (∀ x ∈ kids, ∀ (k : Int) (w : World), MSh Q w x → HeldAt w x.rps k → 0 ≤ k → k + x.rps.length ≤ 4611686018427387904 →
    Calls Tryd.prog 26 #[x.kv, .int .i64 k] w fun e w' => e = .returned (.int .i64 (k + x.rps.length)) ∧ w' = w) := ih
  rw [MSh_iff] at hsh
  obtain ⟨_, ⟨a, cap, hkv, ha⟩, hcs, hks⟩ := hsh
  simp only at hkv ha hcs hks
  obtain ⟨b, hb⟩ : ∃ b, b = vb kv0 := ⟨_, rfl⟩
  obtain ⟨qs, hqs⟩ : ∃ qs, qs = kids.map MNet.inner := ⟨_, rfl⟩
  have hrps : (MNet.mk kk op ds av0 kv0 kids).rps = strPs 4 b 0 qs := by rw [hb, hqs]; rfl
  rw [hrps] at hh hkl ⊢
  rw [← hb] at ha hcs
  simp only
  subst hkv
  clear hb hrps ih
  obtain ⟨n, hn⟩ : ∃ n, n = kids.length := ⟨_, rfl⟩
  have HN : Hid (n = kids.length) := hn
  have HQL : Hid (qs.length = kids.length) := by show _ = _; rw [hqs]; simp
  have HQG : Hid (∀ i (h : i < qs.length) (h' : i < kids.length), qs[i] = kids[i].dps ++ kids[i].rps) := by
    intro i h h'
    subst hqs
    rw [List.getElem_map, MNet.inner_eq]
  have HH : Hid (HeldAt w (strPs 4 b 0 qs) k) := hh
  have HKL : Hid (k + (strPs 4 b 0 qs).length ≤ 4611686018427387904) := hkl
  have HCS : Hid (∀ i (h : i < kids.length), w.cell? ⟨b, i * 4 + 2, none⟩ = some kids[i].av ∧ w.cell? ⟨b, i * 4 + 3, none⟩ = some kids[i].kv) := fun i h => ⟨(hcs i h).2.2.2.1, (hcs i h).2.2.2.2⟩
  have HKS : Hid (∀ x ∈ kids, MSh Q w x) := hks
  have HA : Hid (0 < n → a = some ⟨b, 0, none⟩) := by rw [hn]; exact ha
  have hnb : n ≤ 4611686018427387904 := by
    have h3 := strPs_len 4 b qs 0
    have := HQL.out
    omega
  rw [← hn]
  clear hh hkl ha hn hcs hks hqs
  go_enter Tryd.func26, Tryd.ntmps26
  go_wp2
  go_loopw [1, 5] (fun kv iv wr => ∃ (i : Nat) (L : Nat), i ≤ n ∧ L = (strPs 4 b 0 (qs.take i)).length ∧ kv = .int .i64 (k + L) ∧ iv = .int .i64 i ∧ wr = w) (fun _ iv _ => n - (intOf iv).toNat)
  case atStart => exact ⟨0, 0, by omega, by simp [strPs], by simp, rfl, rfl⟩
  case round =>
    obtain ⟨i, L, hi, hL, rfl, rfl, rfl⟩ := hrel
    have HL : Hid (L = (strPs 4 b 0 (qs.take i)).length) := hL
    clear hL
    by_cases hlt : i < n
    · have hlk : i < kids.length := by have := HN.out; omega
      have hlq : i < qs.length := by have := HQL.out; omega
      obtain rfl := HA.out (by omega)
      obtain ⟨hav, hkv⟩ := HCS.out i hlk
      have hshx := HKS.out _ (List.getElem_mem hlk)
      have hspl : strPs 4 b 0 qs = strPs 4 b 0 (qs.take i) ++ (((b, 0 + i * 4) :: (b, 0 + i * 4 + 1) :: qs[i]) ++ strPs 4 b (0 + (i + 1) * 4) (qs.drop (i + 1))) := by
        rw [strPs_split 4 b qs 0 (i + 1) (by omega), strPs_snoc 4 b qs 0 i hlq, List.append_assoc]
      have HSN : Hid (strPs 4 b 0 (qs.take (i + 1)) = strPs 4 b 0 (qs.take i) ++ ((b, 0 + i * 4) :: (b, 0 + i * 4 + 1) :: qs[i])) := strPs_snoc 4 b qs 0 i hlq
      rw [HQG.out i hlq hlk] at hspl HSN
      have IHX := IH.out _ (List.getElem_mem hlk)
      obtain ⟨x, hx⟩ : ∃ x, x = kids[i] := ⟨_, rfl⟩
      rw [← hx] at hspl HSN hav hkv hshx IHX
      have hH := HH.out
      have hK := HKL.out
      rw [hspl] at hH hK
      rw [Nat.zero_add] at hH hK HSN
      have hH2 := hH.right.left
      rw [← HL.out] at hH2
      obtain ⟨D, hD⟩ : ∃ D, D = x.dps := ⟨_, rfl⟩
      obtain ⟨R, hR⟩ : ∃ R, R = x.rps := ⟨_, rfl⟩
      have hsD : DevsSh x.av D := by rw [hD]; exact ((MSh_iff Q wr x).1 hshx).1
      have hsK : ∃ a cap, x.kv = .slice a x.kids.length cap := by
        obtain ⟨a1, c1, h1, _⟩ := ((MSh_iff Q wr x).1 hshx).2.1
        exact ⟨a1, c1, h1⟩
      rw [← hR] at IHX hH2 hK HSN
      rw [← hD] at hH2 hK HSN
      have c0 : wr.cell? ⟨b, i * 4, none⟩ = some (.int .i64 (k + L)) := by
        have h : wr.cell? ⟨b, i * 4, none⟩ = some (.int .i64 (k + L + ((0 : Nat) : Int))) := hH2 0 (by simp)
        simpa using h
      have c1 : wr.cell? ⟨b, i * 4 + 1, none⟩ = some (.int .i64 (k + L + 1)) := by
        have h : wr.cell? ⟨b, i * 4 + 1, none⟩ = some (.int .i64 (k + L + ((1 : Nat) : Int))) := hH2 1 (by simp)
        simpa using h
      have hHq : HeldAt wr (D ++ R) (k + L + 2) := by
        have h2 : HeldAt wr ([(b, i * 4), (b, i * 4 + 1)] ++ (D ++ R)) (k + L) := hH2
        simpa using h2.right
      simp only [List.length_append, List.length_cons] at hK
      have hLn := HL.out
      have HC : Hid (Calls Tryd.prog 39 #[x.av, .int .i64 (k + L + 2)] wr fun e w' => e = .returned (.int .i64 (k + L + 2 + D.length)) ∧ w' = wr) := p_heldDevs x.av D (k + L + 2) wr hsD hHq.left (by omega) (by omega) (by omega)
      have HC2 : Hid (Calls Tryd.prog 26 #[x.kv, .int .i64 (k + L + 2 + D.length)] wr fun e w' => e = .returned (.int .i64 (k + L + 2 + D.length + R.length)) ∧ w' = wr) := IHX _ wr hshx hHq.right (by omega) (by omega)
      have w1 : IntKind.i64.wrap (k + (L : Int) + 1) = k + L + 1 := by rw [IntKind.wrap_i64]; omega
      have w2 : IntKind.i64.wrap (k + (L : Int) + 1 + 1) = k + L + 2 := by rw [IntKind.wrap_i64]; omega
      have hpos : ¬ (k + (L : Int) + 2 + D.length < 0) := by omega
      have hpos2 : ¬ (k + (L : Int) + 2 + D.length + R.length < 0) := by omega
      obtain ⟨xav, hxav⟩ : ∃ v, v = x.av := ⟨_, rfl⟩
      obtain ⟨xkv, hxkv⟩ : ∃ v, v = x.kv := ⟨_, rfl⟩
      rw [← hxav] at hav HC hsD
      rw [← hxkv] at hkv HC2 hsK
      obtain ⟨a', n', cap', rfl, hz1, hz2⟩ := hsD
      obtain ⟨a'', cap'', rfl⟩ := hsK
      clear hz1 hz2 hspl hH hK hH2 hHq hLn hx hD hR hshx IHX hxav hxkv
      go_wp2_with (first | (go_at_call 39; refine HC.out.mono ?_; rintro e w3 ⟨rfl, rfl⟩) | (go_at_call 26; refine HC2.out.mono ?_; rintro e w4 ⟨rfl, rfl⟩))
      refine ⟨⟨i + 1, L + 2 + D.length + R.length, by omega, ?_, ?_, by go_num, trivial⟩, by simp [intOf]; omega⟩
      · rw [HSN.out, List.length_append, ← HL.out]; simp; omega
      · congr 1; omega
    · obtain rfl : i = n := by omega
      go_wp2
      go_ret
      have hT : qs.take i = qs := List.take_of_length_le (by have := HN.out; have := HQL.out; omega)
      exact ⟨ret_int (by rw [HL.out, hT]), rfl⟩
set_option maxHeartbeats 1000000 in
set_option maxRecDepth 100000 in
theorem p_markElem (op : Int) (v : Value) (ps : List Pl) (k : Int) (w : World) (hsh : DevsSh v ps) (hi : NumsAt w ps) (hnd : ps.Nodup) (hk0 : 0 ≤ k) (hk1 : k + ps.length ≤ 4611686018427387904) :
    Calls Tryd.prog 23 #[.agg #[.int .i64 op, v], .int .i64 k] w fun e w' => e = .returned (.int .i64 (k + ps.length)) ∧ Marked w w' ps k := by
  have HC : Hid (∀ W, Below w.heap.size w W → Calls Tryd.prog 38 #[v, .int .i64 k] W fun e w' => e = .returned (.int .i64 (k + ps.length)) ∧ Marked W w' ps k) := fun W h => p_markDevs v ps k W hsh (hi.below h) hnd hk0 (by omega) (by omega)
  obtain ⟨a', n', cap', rfl, hz1, hz2⟩ := hsh
  clear hz1 hz2 hnd
  have HI : Hid (∀ p ∈ ps, p.1 < w.heap.size) := fun p hp => (hi p hp).1
  clear hi
  go_enter Tryd.func23, Tryd.ntmps23
  go_wp2_with (go_at_call 38; refine (HC.out _ (by (repeat (first | with_reducible exact Below.refl _ _ | with_reducible assumption | with_reducible refine bl_set (by first | exact Nat.le_refl _ | (simp; done) | (simp; omega) | omega) ?_ _ | with_reducible refine bl_alloc ?_ _ | with_reducible refine bl_drewN ?_ _ | with_reducible refine bl_drew ?_ | with_reducible refine bl_grow ?_ _ _ | with_reducible refine bl_call ?_ (by assumption))))).mono ?_; rintro e w1 ⟨rfl, hm⟩)
  go_ret
  refine ⟨rfl, ?_⟩
  exact Marked.append (ps := []) (k := k) (Marked.of_below (by (repeat (first | with_reducible exact Below.refl _ _ | with_reducible assumption | with_reducible refine bl_set (by first | exact Nat.le_refl _ | (simp; done) | (simp; omega) | omega) ?_ _ | with_reducible refine bl_alloc ?_ _ | with_reducible refine bl_drewN ?_ _ | with_reducible refine bl_drew ?_ | with_reducible refine bl_grow ?_ _ _ | with_reducible refine bl_call ?_ (by assumption))))) (show Marked (w.alloc (.cells #[.int .i64 op, .slice a' n' cap'] 31)) w1 ps (k + (([] : List Pl).length : Nat)) by simpa using hm) (fun p hp => by cases hp) (fun p hp => by cases hp)
set_option maxHeartbeats 1000000 in
set_option maxRecDepth 100000 in
theorem p_heldElem (op : Int) (v : Value) (ps : List Pl) (k : Int) (w : World) (hsh : DevsSh v ps) (hi : HeldAt w ps k) (hl : ∀ p ∈ ps, p.1 < w.heap.size) (hk0 : 0 ≤ k) (hk1 : k + ps.length ≤ 4611686018427387904) :
    Calls Tryd.prog 25 #[.agg #[.int .i64 op, v], .int .i64 k] w fun e w' => e = .returned (.int .i64 (k + ps.length)) ∧ Below w.heap.size w w' := by
  have HC : Hid (∀ W, Below w.heap.size w W → Calls Tryd.prog 39 #[v, .int .i64 k] W fun e w' => e = .returned (.int .i64 (k + ps.length)) ∧ w' = W) := fun W h => p_heldDevs v ps k W hsh (hi.below h hl) hk0 (by omega) (by omega)
  obtain ⟨a', n', cap', rfl, hz1, hz2⟩ := hsh
  clear hz1 hz2 hi hl
  have hpos : ¬ (k + (ps.length : Int) < 0) := by omega
  go_enter Tryd.func25, Tryd.ntmps25
  go_wp2_with (go_at_call 39; refine (HC.out _ (by (repeat (first | with_reducible exact Below.refl _ _ | with_reducible assumption | with_reducible refine bl_set (by first | exact Nat.le_refl _ | (simp; done) | (simp; omega) | omega) ?_ _ | with_reducible refine bl_alloc ?_ _ | with_reducible refine bl_drewN ?_ _ | with_reducible refine bl_drew ?_ | with_reducible refine bl_grow ?_ _ _ | with_reducible refine bl_call ?_ (by assumption))))).mono ?_; rintro e w1 ⟨rfl, hm⟩)
  go_ret
  refine ⟨rfl, ?_⟩
  subst hm
  (repeat (first | with_reducible exact Below.refl _ _ | with_reducible assumption | with_reducible refine bl_set (by first | exact Nat.le_refl _ | (simp; done) | (simp; omega) | omega) ?_ _ | with_reducible refine bl_alloc ?_ _ | with_reducible refine bl_drewN ?_ _ | with_reducible refine bl_drew ?_ | with_reducible refine bl_grow ?_ _ _ | with_reducible refine bl_call ?_ (by assumption)))
end Go.Proofs.YthhfnncehfkbfaaDoor
