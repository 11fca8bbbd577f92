/- Nets in memory: the places of their numbers; marks. -/
import Derived.Test.YthhfnncehfkbfaaDoorY1
import Derived.Test.YthhfnncehfkbfaaDoorGf
namespace Go.Proofs.YthhfnncehfkbfaaDoor
open Go.RowKit Go.Sort Go.BigFrame
/-- The block of a row (0 where it has none). -/
def vb (v : Value) : Nat := v.ownBlock.getD 0
/-- Rows of parts that begin with two numbers, s cells each. -/
def strPs (s b : Nat) : Nat → List (List Pl) → List Pl
  | _, [] => []
  | o, q :: r => (b, o) :: (b, o + 1) :: (q ++ strPs s b (o + s) r)
theorem strPs_snoc (s b : Nat) : ∀ (qs : List (List Pl)) (o i : Nat) (h : i < qs.length), strPs s b o (qs.take (i + 1)) = strPs s b o (qs.take i) ++ ((b, o + i * s) :: (b, o + i * s + 1) :: qs[i])
  | [], _, _, h => by simp at h
  | q :: r, o, 0, _ => by simp [strPs]
  | q :: r, o, i + 1, h => by
    have ih := strPs_snoc s b r (o + s) i (by simpa using h)
    rw [List.take_succ_cons, List.take_succ_cons, strPs, strPs, ih]
    have e : o + s + i * s = o + (i + 1) * s := by rw [Nat.succ_mul]; omega
    simp [e, List.append_assoc]
theorem strPs_split (s b : Nat) : ∀ (qs : List (List Pl)) (o i : Nat), i ≤ qs.length → strPs s b o qs = strPs s b o (qs.take i) ++ strPs s b (o + i * s) (qs.drop i)
  | qs, o, 0, _ => by simp [strPs]
  | [], _, i + 1, h => by simp at h
  | q :: r, o, i + 1, h => by
    have ih := strPs_split s b r (o + s) i (by simpa using h)
    rw [List.take_succ_cons, List.drop_succ_cons, strPs, strPs, ih]
    have e : o + s + i * s = o + (i + 1) * s := by rw [Nat.succ_mul]; omega
    simp [e, List.append_assoc]
theorem strPs_len (s b : Nat) : ∀ (qs : List (List Pl)) (o : Nat), qs.length ≤ (strPs s b o qs).length := by
  intro qs
  induction qs with
  | nil => intro o; simp
  | cons q r ih => intro o; have := ih (o + s); simp [strPs]; omega
theorem strPs_mem (s b : Nat) : ∀ (qs : List (List Pl)) (o : Nat) (p : Pl), p ∈ strPs s b o qs → (∃ i, i < qs.length ∧ (p = (b, o + i * s) ∨ p = (b, o + i * s + 1))) ∨ ∃ q ∈ qs, p ∈ q
  | [], _, p, h => by simp [strPs] at h
  | q :: r, o, p, h => by
    rw [strPs] at h
    simp only [List.mem_cons, List.mem_append] at h
    rcases h with h | h | h | h
    · exact .inl ⟨0, by simp, .inl (by simpa using h)⟩
    · exact .inl ⟨0, by simp, .inr (by simpa using h)⟩
    · exact .inr ⟨q, by simp, h⟩
    · rcases strPs_mem s b r (o + s) p h with ⟨i, hi, hp⟩ | ⟨q', hq', hp⟩
      · refine .inl ⟨i + 1, by simp; omega, ?_⟩
        have e : o + s + i * s = o + (i + 1) * s := by rw [Nat.succ_mul]; omega
        rwa [e] at hp
      · exact .inr ⟨q', List.mem_cons_of_mem _ hq', hp⟩
theorem strPs_nodup (s b : Nat) (hs : 2 ≤ s) : ∀ (qs : List (List Pl)) (o : Nat), (∀ q ∈ qs, q.Nodup ∧ ∀ p ∈ q, p.1 ≠ b) → qs.Pairwise (fun q r => ∀ p ∈ q, p ∉ r) → (strPs s b o qs).Nodup
  | [], _, _, _ => List.nodup_nil
  | q :: r, o, h1, h2 => by
    have ih := strPs_nodup s b hs r (o + s) (fun x hx => h1 x (List.mem_cons_of_mem _ hx)) (List.pairwise_cons.1 h2).2
    obtain ⟨hq1, hq2⟩ := h1 q (by simp)
    have hr : ∀ p ∈ strPs s b (o + s) r, p ≠ (b, o) ∧ p ≠ (b, o + 1) ∧ p ∉ q := by
      intro p hp
      rcases strPs_mem s b r (o + s) p hp with ⟨i, _, hp | hp⟩ | ⟨x, hx, hp⟩
      · subst hp
        refine ⟨fun e => ?_, fun e => ?_, fun e => hq2 _ e rfl⟩
        · have := (Prod.mk.inj e).2; omega
        · have := (Prod.mk.inj e).2; omega
      · subst hp
        refine ⟨fun e => ?_, fun e => ?_, fun e => hq2 _ e rfl⟩
        · have := (Prod.mk.inj e).2; omega
        · have := (Prod.mk.inj e).2; omega
      · have hx2 := (h1 x (List.mem_cons_of_mem _ hx)).2 p hp
        refine ⟨fun e => hx2 (by rw [e]), fun e => hx2 (by rw [e]), fun e => (List.pairwise_cons.1 h2).1 x hx p e hp⟩
    rw [strPs, List.nodup_cons, List.nodup_cons, List.nodup_append]
    refine ⟨fun h => ?_, fun h => ?_, hq1, ih, fun a ha c hc e => ?_⟩
    · rcases List.mem_cons.1 h with h | h
      · have := (Prod.mk.inj h).2; omega
      · rcases List.mem_append.1 h with h | h
        · exact hq2 _ h rfl
        · exact (hr _ h).1 rfl
    · rcases List.mem_append.1 h with h | h
      · exact hq2 _ h rfl
      · exact (hr _ h).2.1 rfl
    · subst e; exact (hr _ hc).2.2 ha
/-- What belongs to a net beyond its own two numbers. -/
def MNet.inner : MNet → List Pl
  | ⟨_, _, ds, av, kv, kids⟩ => blockPs (vb av) ds.length ++ strPs 4 (vb kv) 0 (kids.map MNet.inner)
def MNet.dps (m : MNet) : List Pl := blockPs (vb m.av) m.ds.length
def MNet.rps (m : MNet) : List Pl := strPs 4 (vb m.kv) 0 (m.kids.map MNet.inner)
theorem MNet.inner_eq (m : MNet) : m.inner = m.dps ++ m.rps := by obtain ⟨k, op, ds, av, kv, kids⟩ := m; rw [MNet.inner]; rfl
/-- How the net lies; where the rows' values lie (Q) nothing is marked. -/
def MSh (Q : Pl → Prop) (w : World) : MNet → Prop
  | ⟨_, _, ds, av, kv, kids⟩ => DevsSh av (blockPs (vb av) ds.length) ∧ (∃ a cap, kv = .slice a kids.length cap ∧ (0 < kids.length → a = some ⟨vb kv, 0, none⟩)) ∧
    (∀ i (h : i < kids.length), vb kv < w.heap.size ∧ Q (vb kv, i * 4 + 2) ∧ Q (vb kv, i * 4 + 3) ∧ w.cell? ⟨vb kv, i * 4 + 2, none⟩ = some kids[i].av ∧ w.cell? ⟨vb kv, i * 4 + 3, none⟩ = some kids[i].kv) ∧ ∀ p ∈ kids.map (MSh Q w), p
theorem MSh_iff (Q : Pl → Prop) (w : World) (m : MNet) : MSh Q w m ↔ DevsSh m.av m.dps ∧ (∃ a cap, m.kv = .slice a m.kids.length cap ∧ (0 < m.kids.length → a = some ⟨vb m.kv, 0, none⟩)) ∧
    (∀ i (h : i < m.kids.length), vb m.kv < w.heap.size ∧ Q (vb m.kv, i * 4 + 2) ∧ Q (vb m.kv, i * 4 + 3) ∧ w.cell? ⟨vb m.kv, i * 4 + 2, none⟩ = some m.kids[i].av ∧ w.cell? ⟨vb m.kv, i * 4 + 3, none⟩ = some m.kids[i].kv) ∧ ∀ x ∈ m.kids, MSh Q w x := by
  obtain ⟨k, op, ds, av, kv, kids⟩ := m
  rw [MSh, Stil.all_map]
  rfl
theorem MSh.map {Q : Pl → Prop} {w w' : World} (hs : w.heap.size ≤ w'.heap.size) (hc : ∀ b o, b < w.heap.size → Q (b, o) → w'.cell? ⟨b, o, none⟩ = w.cell? ⟨b, o, none⟩) (m : MNet) : MSh Q w m → MSh Q w' m := by
  refine mnet_ind (fun m => MSh Q w m → MSh Q w' m) ?_ m
  intro k op ds av kv kids ih h
  rw [MSh_iff] at h ⊢
  obtain ⟨h1, h2, h3, h4⟩ := h
  refine ⟨h1, h2, fun i hi => ?_, fun x hx => ih x hx (h4 x hx)⟩
  obtain ⟨c1, c2, c3, c4, c5⟩ := h3 i hi
  exact ⟨Nat.lt_of_lt_of_le c1 hs, c2, c3, (hc _ _ c1 c2).trans c4, (hc _ _ c1 c3).trans c5⟩
theorem MSh.below {Q : Pl → Prop} {w w' : World} {m : MNet} (h : MSh Q w m) (hb : Below w.heap.size w w') : MSh Q w' m := MSh.map hb.size (fun b o hl _ => hb.cell (p := ⟨b, o, none⟩) hl) m h
theorem MSh.marked {Q : Pl → Prop} {w w' : World} {m : MNet} {ps : List Pl} {k : Int} (h : MSh Q w m) (hm : Marked w w' ps k) (hq : ∀ p ∈ ps, ¬ Q p) : MSh Q w' m := MSh.map hm.1 (fun b o hl hQ => hm.2.1 (b, o) hl (fun hp => hq _ hp hQ)) m h
set_option maxHeartbeats 2000000 in
set_option maxRecDepth 100000 in
theorem p_markNets (Q : Pl → Prop) (m : MNet) : ∀ (k : Int) (w : World), MSh Q w m → NumsAt w m.rps → m.rps.Nodup → (∀ p ∈ m.rps, ¬ Q p) → 0 ≤ k → k + m.rps.length ≤ 4611686018427387904 →
    Calls Tryd.prog 24 #[m.kv, .int .i64 k] w fun e w' => e = .returned (.int .i64 (k + m.rps.length)) ∧ Marked w w' m.rps k := by
  refine mnet_ind (fun m => ∀ (k : Int) (w : World), MSh Q w m → NumsAt w m.rps → m.rps.Nodup → (∀ p ∈ m.rps, ¬ Q p) → 0 ≤ k → k + m.rps.length ≤ 4611686018427387904 →
    Calls Tryd.prog 24 #[m.kv, .int .i64 k] w fun e w' => e = .returned (.int .i64 (k + m.rps.length)) ∧ Marked w w' m.rps k) ?_ m
  intro kk op ds av0 kv0 kids ih k w hsh hi hnd hq hk0 hkl
  have IH : Hid (∀ x ∈ kids, ∀ (k : Int) (w : World), MSh Q w x → NumsAt w x.rps → x.rps.Nodup → (∀ p ∈ x.rps, ¬ Q p) → 0 ≤ k → k + x.rps.length ≤ 4611686018427387904 →
    Calls Tryd.prog 24 #[x.kv, .int .i64 k] w fun e w' => e = .returned (.int .i64 (k + x.rps.length)) ∧ Marked w w' x.rps k) := ih
  rw [MSh_iff] at hsh
  obtain ⟨_, ⟨a, cap, hkv, ha⟩, hcs, hks⟩ := hsh
  simp only at hkv ha hcs hks
  obtain ⟨b, hb⟩ : ∃ b, b = vb kv0 := ⟨_, rfl⟩
  obtain ⟨qs, hqs⟩ : ∃ qs, qs = kids.map MNet.inner := ⟨_, rfl⟩
  have hrps : (MNet.mk kk op ds av0 kv0 kids).rps = strPs 4 b 0 qs := by rw [hb, hqs]; rfl
  rw [hrps] at hi hnd hq hkl ⊢
  rw [← hb] at ha hcs
  simp only
  subst hkv
  clear hb hrps ih
  obtain ⟨n, hn⟩ : ∃ n, n = kids.length := ⟨_, rfl⟩
  have HN : Hid (n = kids.length) := hn
  have HQL : Hid (qs.length = kids.length) := by show _ = _; rw [hqs]; simp
  have HQG : Hid (∀ i (h : i < qs.length) (h' : i < kids.length), qs[i] = kids[i].dps ++ kids[i].rps) := by
    intro i h h'
    subst hqs
    rw [List.getElem_map, MNet.inner_eq]
  have HI : Hid (NumsAt w (strPs 4 b 0 qs)) := hi
  have HND : Hid (strPs 4 b 0 qs).Nodup := hnd
  have HKL : Hid (k + (strPs 4 b 0 qs).length ≤ 4611686018427387904) := hkl
  have HQ : Hid (∀ p ∈ strPs 4 b 0 qs, ¬ Q p) := hq
  have HCS : Hid (∀ i (h : i < kids.length), b < w.heap.size ∧ Q (b, i * 4 + 2) ∧ Q (b, i * 4 + 3) ∧ w.cell? ⟨b, i * 4 + 2, none⟩ = some kids[i].av ∧ w.cell? ⟨b, i * 4 + 3, none⟩ = some kids[i].kv) := hcs
  have HKS : Hid (∀ x ∈ kids, MSh Q w x) := hks
  have HA : Hid (0 < n → a = some ⟨b, 0, none⟩) := by rw [hn]; exact ha
  have hnb : n ≤ 4611686018427387904 := by
    have h3 := strPs_len 4 b qs 0
    have := HQL.out
    omega
  rw [← hn]
  clear hi hnd hkl ha hn hcs hks hq hqs
  go_enter Tryd.func24, Tryd.ntmps24
  go_wp2
  go_loopw [1, 5] (fun kv iv wr => ∃ (i : Nat) (L : Nat), i ≤ n ∧ L = (strPs 4 b 0 (qs.take i)).length ∧ kv = .int .i64 (k + L) ∧ iv = .int .i64 i ∧ Marked w wr (strPs 4 b 0 (qs.take i)) k) (fun _ iv _ => n - (intOf iv).toNat)
  case atStart => exact ⟨0, 0, by omega, by simp [strPs], by simp, rfl, by simpa [strPs] using Marked.of_below (Below.refl _ _)⟩
  case round =>
    obtain ⟨i, L, hi, hL, rfl, rfl, hm⟩ := hrel
    have HM : Hid (Marked w wr (strPs 4 b 0 (qs.take i)) k) := hm
    have HL : Hid (L = (strPs 4 b 0 (qs.take i)).length) := hL
    clear hm hL
    by_cases hlt : i < n
    · have hlk : i < kids.length := by have := HN.out; omega
      have hlq : i < qs.length := by have := HQL.out; omega
      obtain rfl := HA.out (by omega)
      obtain ⟨hbz, hQ2, hQ3, hav, hkv⟩ := HCS.out i hlk
      have hshx := HKS.out _ (List.getElem_mem hlk)
      have hspl : strPs 4 b 0 qs = strPs 4 b 0 (qs.take i) ++ (((b, 0 + i * 4) :: (b, 0 + i * 4 + 1) :: qs[i]) ++ strPs 4 b (0 + (i + 1) * 4) (qs.drop (i + 1))) := by
        rw [strPs_split 4 b qs 0 (i + 1) (by omega), strPs_snoc 4 b qs 0 i hlq, List.append_assoc]
      have HSN : Hid (strPs 4 b 0 (qs.take (i + 1)) = strPs 4 b 0 (qs.take i) ++ ((b, 0 + i * 4) :: (b, 0 + i * 4 + 1) :: qs[i])) := strPs_snoc 4 b qs 0 i hlq
      rw [HQG.out i hlq hlk] at hspl HSN
      have IHX := IH.out _ (List.getElem_mem hlk)
      obtain ⟨x, hx⟩ : ∃ x, x = kids[i] := ⟨_, rfl⟩
      rw [← hx] at hspl HSN hav hkv hshx IHX
      have hI := HI.out
      have hN := HND.out
      have hK := HKL.out
      have hQp := HQ.out
      rw [hspl] at hI hN hK hQp
      obtain ⟨A, hA⟩ : ∃ A, A = strPs 4 b 0 (qs.take i) := ⟨_, rfl⟩
      obtain ⟨Z, hZ⟩ : ∃ Z, Z = strPs 4 b (0 + (i + 1) * 4) (qs.drop (i + 1)) := ⟨_, rfl⟩
      rw [← hA] at hI hN hK HM HL HSN hQp
      rw [← hZ] at hI hN hK hQp
      rw [Nat.zero_add] at hI hN hK hQp HSN
      obtain ⟨P, hP⟩ : ∃ P : List Pl, P = [(b, i * 4), (b, i * 4 + 1)] := ⟨_, rfl⟩
      obtain ⟨D, hD⟩ : ∃ D, D = x.dps := ⟨_, rfl⟩
      obtain ⟨R, hR⟩ : ∃ R, R = x.rps := ⟨_, rfl⟩
      have hPq : ((b, i * 4) :: (b, i * 4 + 1) :: (x.dps ++ x.rps)) = P ++ (D ++ R) := by rw [hP, hD, hR]; rfl
      rw [hPq] at hI hN hK HSN hQp
      have hsD : DevsSh x.av D := by rw [hD]; exact ((MSh_iff Q w x).1 hshx).1
      have hsK : ∃ a cap, x.kv = .slice a x.kids.length cap := by
        obtain ⟨a1, c1, h1, _⟩ := ((MSh_iff Q w x).1 hshx).2.1
        exact ⟨a1, c1, h1⟩
      rw [← hR] at IHX
      clear hspl hA hZ hx hPq hD hR
      have hNA := List.nodup_append.1 hN
      have hNP := List.nodup_append.1 hNA.2.1
      have hNQ := List.nodup_append.1 hNP.1
      have hNR := List.nodup_append.1 hNQ.2.1
      have HDA : Hid (∀ p ∈ A, p ∉ P ++ (D ++ R)) := fun p hp hpq => hNA.2.2 p hp p (List.mem_append_left _ hpq) rfl
      have HDP : Hid (∀ p ∈ P, p ∉ D ++ R) := fun p hp hpq => hNQ.2.2 p hp p hpq rfl
      have HDR : Hid (∀ p ∈ D, p ∉ R) := fun p hp hpq => hNR.2.2 p hp p hpq rfl
      have HND2 : Hid D.Nodup := hNR.1
      have HNR2 : Hid R.Nodup := hNR.2.1
      have hIw : NumsAt wr (P ++ (D ++ R)) := (hI.right.left).marked HM.out (fun p hp hpa => hNA.2.2 p hpa p (List.mem_append_left _ hp) rfl)
      have hIP : NumsAt wr P := hIw.left
      have HIP : Hid (∀ p ∈ P, p.1 < wr.heap.size) := fun p hp => (hIP p hp).1
      have HID : Hid (NumsAt wr D) := hIw.right.left
      have HIR : Hid (NumsAt wr R) := hIw.right.right
      have HAL : Hid (∀ p ∈ A, p.1 < w.heap.size) := fun p hp => (hI.left p hp).1
      have hQA : ∀ p ∈ A, ¬ Q p := fun p hp => hQp p (List.mem_append_left _ hp)
      have hQP : ∀ p ∈ P, ¬ Q p := fun p hp => hQp p (List.mem_append_right _ (List.mem_append_left _ (List.mem_append_left _ hp)))
      have HQD : Hid (∀ p ∈ D, ¬ Q p) := fun p hp => hQp p (List.mem_append_right _ (List.mem_append_left _ (List.mem_append_right _ (List.mem_append_left _ hp))))
      have hQR : ∀ p ∈ R, ¬ Q p := fun p hp => hQp p (List.mem_append_right _ (List.mem_append_left _ (List.mem_append_right _ (List.mem_append_right _ hp))))
      have hc2 : wr.cell? ⟨b, i * 4 + 2, none⟩ = some x.av := (HM.out.2.1 (b, i * 4 + 2) hbz (fun h => hQA _ h hQ2)).trans hav
      have hc3 : wr.cell? ⟨b, i * 4 + 3, none⟩ = some x.kv := (HM.out.2.1 (b, i * 4 + 3) hbz (fun h => hQA _ h hQ3)).trans hkv
      have HSX : Hid (MSh Q wr x) := hshx.marked HM.out hQA
      have hLn := HL.out
      have hPl : P.length = 2 := by rw [hP]; rfl
      simp only [List.length_append] at hK
      have hq1 : D.length ≤ 4611686018427387904 := by omega
      have hk2 : k + L + 2 ≤ 4611686018427387904 := by omega
      have hk3 : k + L + 2 + D.length + R.length ≤ 4611686018427387904 := by omega
      have HC : Hid (∀ W, NumsAt W D → Calls Tryd.prog 38 #[x.av, .int .i64 (k + L + 2)] W fun e w' => e = .returned (.int .i64 (k + L + 2 + D.length)) ∧ Marked W w' D (k + L + 2)) := fun W hW => p_markDevs x.av D (k + L + 2) W hsD hW HND2.out (by omega) hk2 hq1
      have HC2 : Hid (∀ W, MSh Q W x → NumsAt W R → Calls Tryd.prog 24 #[x.kv, .int .i64 (k + L + 2 + D.length)] W fun e w' => e = .returned (.int .i64 (k + L + 2 + D.length + R.length)) ∧ Marked W w' R (k + L + 2 + D.length)) := fun W h1 h2 => IHX _ W h1 h2 HNR2.out hQR (by omega) hk3
      obtain ⟨⟨hb0, ⟨n0, c0⟩, f0⟩, ⟨_, ⟨n1, c1⟩, f1⟩⟩ : (b < wr.heap.size ∧ (∃ n, wr.cell? ⟨b, i * 4, none⟩ = some (.int .i64 n)) ∧ wr.frozen? ⟨b, i * 4, none⟩ = false) ∧ (b < wr.heap.size ∧ (∃ n, wr.cell? ⟨b, i * 4 + 1, none⟩ = some (.int .i64 n)) ∧ wr.frozen? ⟨b, i * 4 + 1, none⟩ = false) :=
        ⟨hIP (b, i * 4) (by rw [hP]; simp), hIP (b, i * 4 + 1) (by rw [hP]; simp)⟩
      have HMP : Hid (Marked wr ((wr.setCell ⟨b, i * 4, none⟩ (.int .i64 (k + L))).setCell ⟨b, i * 4 + 1, none⟩ (.int .i64 (k + L + 1))) P (k + L)) := by rw [hP]; exact Marked.two (k + L) hb0 c0 c1
      have HPL : Hid (P.length = 2) := hPl
      have HQP : Hid (∀ p ∈ P, ¬ Q p) := hQP
      have HQ3 : Hid (Q (b, i * 4 + 3)) := hQ3
      obtain ⟨xav, hxav⟩ : ∃ v, v = x.av := ⟨_, rfl⟩
      obtain ⟨xkv, hxkv⟩ : ∃ v, v = x.kv := ⟨_, rfl⟩
      rw [← hxav] at hc2 HC hsD
      rw [← hxkv] at hc3 HC2 hsK
      obtain ⟨a', n', cap', rfl, hz1, hz2⟩ := hsD
      clear hz1 hz2
      obtain ⟨a'', cap'', rfl⟩ := hsK
      clear hI hN hK hNA hNP hNQ hNR hIw hIP hav hkv hP hLn hQA hQP hQR hQp hshx IHX hQ2 hQ3 hxav hxkv
      have w1 : IntKind.i64.wrap (k + (L : Int) + 1) = k + L + 1 := by rw [IntKind.wrap_i64]; omega
      have w2 : IntKind.i64.wrap (k + (L : Int) + 1 + 1) = k + L + 2 := by rw [IntKind.wrap_i64]; omega
      go_wp2_with (go_at_call 38; refine (HC.out _ (HID.out.marked HMP.out (fun p hp hpp => HDP.out p hpp (List.mem_append_left _ hp)))).mono ?_; rintro e w3 ⟨rfl, hm3⟩; have hb3 : b < w3.heap.size := Nat.lt_of_lt_of_le (by simpa using hb0) hm3.1; have hd3 : w3.cell? ⟨b, i * 4 + 3, none⟩ = some (.slice a'' x.kids.length cap'') := (hm3.2.1 (b, i * 4 + 3) (by simpa using hb0) (fun h => HQD.out _ h HQ3.out)).trans ((cellSetOff (by omega)).trans ((cellSetOff (by omega)).trans hc3)))
      go_wp2_with (go_at_call 24; refine (HC2.out _ ((HSX.out.marked HMP.out HQP.out).marked hm3 HQD.out) (((HIR.out).marked HMP.out (fun p hp hpp => HDP.out p hpp (List.mem_append_right _ hp))).marked hm3 (fun p hp hpd => HDR.out p hpd hp))).mono ?_; rintro e w4 ⟨rfl, hm4⟩)
      refine ⟨⟨i + 1, L + 2 + D.length + R.length, by omega, ?_, ?_, by go_num, ?_⟩, by simp [intOf]; omega⟩
      · rw [HSN.out, List.length_append, List.length_append, List.length_append, HPL.out, ← HL.out]; omega
      · congr 1; omega
      · rw [HSN.out]
        refine Marked.append HM.out ?_ HAL.out HDA.out
        rw [← HL.out]
        refine Marked.append HMP.out ?_ HIP.out HDP.out
        rw [HPL.out]
        refine Marked.append hm3 hm4 (fun p hp => Nat.lt_of_lt_of_le (HID.out p hp).1 HMP.out.1) HDR.out
    · obtain rfl : i = n := by omega
      go_wp2
      go_ret
      have hT : qs.take i = qs := List.take_of_length_le (by have := HN.out; have := HQL.out; omega)
      refine ⟨ret_int (by rw [HL.out, hT]), ?_⟩
      have := HM.out
      rwa [hT] at this
end Go.Proofs.YthhfnncehfkbfaaDoor
