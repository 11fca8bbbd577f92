/- Contracts of the program's chapter 2: ElemArity, ElemName, and ElemText of what is neither contact nor coil. -/
import Derived.Test.YtnnhbjgegkikoaaDoorGJ
namespace Go.Proofs.YtnnhbjgegkikoaaDoor
open Go.RowKit Go.Sort Go.BigFrame
theorem field_ways (s v0 v1 v2 v3 v4 v5 v6 : Value) (w : World) : Sem.run Tryd.prog (Instr.field 45 (.agg #[s, v0, v1, v2, v3, v4, v5, v6]) 2) w = .ok (.agg #[v1, v2, v3, v4, v5, v6]) w := by kernel_rfl
theorem field_word (s v0 v1 v2 v3 v4 v5 v6 : Value) (w : World) : Sem.run Tryd.prog (Instr.field 45 (.agg #[s, v0, v1, v2, v3, v4, v5, v6]) 0) w = .ok s w := by kernel_rfl
theorem index_way (v1 v2 v3 v4 v5 v6 : Value) (w : World) : Sem.run Tryd.prog (Instr.index 43 (.agg #[v1, v2, v3, v4, v5, v6]) (.int .i64 0)) w = .ok (.agg #[v1, v2, v3]) w := by kernel_rfl
theorem row_arity (op : Int) : Stil.arity op = ((rowOf op).2.2.1.length : Int) ∧ (rowOf op).2.2.1.length ≤ 3 ∧ ∀ x ∈ (rowOf op).2.2.1, x ≠ 0 := by
  by_cases h : 0 ≤ op ∧ op < 38
  · obtain ⟨m, rfl⟩ := Int.eq_ofNat_of_zero_le h.1
    have hm : m < 38 := by omega
    have all : ∀ k : Fin 38, Stil.arity ((k : Nat) : Int) = ((rowOf ((k : Nat) : Int)).2.2.1.length : Int) ∧ (rowOf ((k : Nat) : Int)).2.2.1.length ≤ 3 ∧ ∀ x ∈ (rowOf ((k : Nat) : Int)).2.2.1, x ≠ 0 := by decide +kernel
    exact all ⟨m, hm⟩
  · rw [rowOf, if_neg h]
    refine ⟨?_, by simp, by simp⟩
    unfold Stil.arity
    rw [if_neg (by omega), if_neg (by omega), if_neg (by omega)]
    rfl
theorem row_name {op : Int} (h1 : 21 ≤ op) (h2 : op ≤ 37) : (rowOf op).1 = Stil.elemName op := by
  have h : op = 21 ∨ op = 22 ∨ op = 23 ∨ op = 24 ∨ op = 25 ∨ op = 26 ∨ op = 27 ∨ op = 28 ∨ op = 29 ∨ op = 30 ∨ op = 31 ∨ op = 32 ∨ op = 33 ∨ op = 34 ∨ op = 35 ∨ op = 36 ∨ op = 37 := by omega
  rcases h with rfl | rfl | rfl | rfl | rfl | rfl | rfl | rfl | rfl | rfl | rfl | rfl | rfl | rfl | rfl | rfl | rfl <;> rfl
set_option maxHeartbeats 1000000 in
set_option maxRecDepth 100000 in
theorem i_elemArity (op : Int) (w : World) :
    Calls Tryd.prog 11 #[.int .i64 op] w fun e w' => e = .returned (.int .i64 (Stil.arity op)) ∧ Below w.heap.size w w' := by
  obtain ⟨ha, hl3, hnz⟩ := row_arity op
  rw [ha]
  have HP : Hid (∀ W, Calls Tryd.prog 28 #[wayVal (rowOf op).2.2.1] W fun e w' => e = .returned (.int .i64 ((rowOf op).2.2.1.length)) ∧ Below W.heap.size W w') := fun W => i_places _ W hl3 hnz
  have HR : Hid (∀ W, Calls Tryd.prog 25 #[.int .i64 op] W fun e w' => e = .returned (rowVal (rowOf op)) ∧ Below W.heap.size W w') := fun W => i_rowOf op W
  obtain ⟨n, hn⟩ : ∃ n, n = (rowOf op).2.2.1.length := ⟨_, rfl⟩
  rw [← hn] at HP hl3 ⊢
  clear ha hnz hn
  unfold wayVal at HP
  unfold rowVal at HR
  obtain ⟨r, hr⟩ : ∃ r, r = rowOf op := ⟨_, rfl⟩
  rw [← hr] at HP HR
  obtain ⟨s, hs⟩ : ∃ s, s = r.1 := ⟨_, rfl⟩
  obtain ⟨n0, h0⟩ : ∃ n, n = r.2.1 := ⟨_, rfl⟩
  obtain ⟨n1, h1⟩ : ∃ n, n = r.2.2.1.getD 0 0 := ⟨_, rfl⟩
  obtain ⟨n2, h2⟩ : ∃ n, n = r.2.2.1.getD 1 0 := ⟨_, rfl⟩
  obtain ⟨n3, h3⟩ : ∃ n, n = r.2.2.1.getD 2 0 := ⟨_, rfl⟩
  obtain ⟨n4, h4⟩ : ∃ n, n = r.2.2.2.getD 0 0 := ⟨_, rfl⟩
  obtain ⟨n5, h5⟩ : ∃ n, n = r.2.2.2.getD 1 0 := ⟨_, rfl⟩
  obtain ⟨n6, h6⟩ : ∃ n, n = r.2.2.2.getD 2 0 := ⟨_, rfl⟩
  rw [← hs, ← h0, ← h1, ← h2, ← h3, ← h4, ← h5, ← h6] at HR
  rw [← h1, ← h2, ← h3] at HP
  clear hs h0 h1 h2 h3 h4 h5 h6 hr
  have hfw := field_ways
  have hiw := index_way
  go_enter Tryd.func11, Tryd.ntmps11
  go_wp2_with (first | (go_at_call 25; refine (HR.out _).mono ?_; rintro e w1 ⟨rfl, hb1⟩) | (go_at_call 28; refine (HP.out _).mono ?_; rintro e w2 ⟨rfl, hb2⟩))
  go_ret
  exact ⟨rfl, by (repeat (first | exact Below.refl _ _ | assumption | refine bl_alloc ?_ _ | refine bl_drewN ?_ _ | refine bl_drew ?_ | refine bl_grow ?_ _ _ | refine bl_set (Nat.le_refl _) ?_ _ | refine bl_call ?_ (by assumption)))⟩
set_option maxHeartbeats 1000000 in
set_option maxRecDepth 100000 in
theorem i_elemName (op : Int) (w : World) :
    Calls Tryd.prog 12 #[.int .i64 op] w fun e w' => e = .returned (.string ⟨(Stil.elemName op).toArray⟩) ∧ Below w.heap.size w w' := by
  by_cases h : 21 ≤ op ∧ op ≤ 37
  · have HC : Hid (∀ W, Calls Tryd.prog 16 #[.int .i64 op] W fun e w' => e = .returned (.bool true) ∧ w' = W) := fun W => by have := i_isCoilOp op W; rwa [decide_eq_true h] at this
    have HR : Hid (∀ W, Calls Tryd.prog 25 #[.int .i64 op] W fun e w' => e = .returned (rowVal (rowOf op)) ∧ Below W.heap.size W w') := fun W => i_rowOf op W
    unfold rowVal at HR
    rw [row_name h.1 h.2] at HR
    obtain ⟨s, hs⟩ : ∃ s, s = Stil.elemName op := ⟨_, rfl⟩
    rw [← hs] at HR ⊢
    obtain ⟨r, hr⟩ : ∃ r, r = rowOf op := ⟨_, rfl⟩
    rw [← hr] at HR
    clear hs hr h
    have hfw := field_word
    go_enter Tryd.func12, Tryd.ntmps12
    go_wp2_with (first | (go_at_call 16; refine (HC.out _).mono ?_; rintro e w1 ⟨rfl, rfl⟩) | (go_at_call 25; refine (HR.out _).mono ?_; rintro e w2 ⟨rfl, hb2⟩))
    go_ret
    exact ⟨rfl, by (repeat (first | exact Below.refl _ _ | assumption | refine bl_alloc ?_ _ | refine bl_drewN ?_ _ | refine bl_drew ?_ | refine bl_grow ?_ _ _ | refine bl_set (Nat.le_refl _) ?_ _ | refine bl_call ?_ (by assumption)))⟩
  · have HC : Hid (∀ W, Calls Tryd.prog 16 #[.int .i64 op] W fun e w' => e = .returned (.bool false) ∧ w' = W) := fun W => by have := i_isCoilOp op W; rwa [decide_eq_false h] at this
    have HE : Hid (Stil.elemName op = []) := by show _ = _; unfold Stil.elemName; rw [if_neg h]
    clear h
    go_enter Tryd.func12, Tryd.ntmps12
    go_wp2_with (go_at_call 16; refine (HC.out _).mono ?_; rintro e w1 ⟨rfl, rfl⟩)
    go_ret
    exact ⟨ret_string (by rw [HE.out]), by (repeat (first | exact Below.refl _ _ | assumption | refine bl_alloc ?_ _ | refine bl_drewN ?_ _ | refine bl_drew ?_ | refine bl_grow ?_ _ _ | refine bl_set (Nat.le_refl _) ?_ _ | refine bl_call ?_ (by assumption)))⟩
set_option maxHeartbeats 1000000 in
set_option maxRecDepth 100000 in
theorem i_elemText_no (op : Int) (v : Value) (ds : List Stil.Dev) (w : World) (hr : RowsAt w) (hat : DevsAt w v ds) (hfit : ∀ d ∈ ds, d.fits) (hl : ds.length ≤ 9223372036854775807) (hct : Stil.isContact op ds = false) (hco : Stil.isCoil op ds = false) :
    Calls Tryd.prog 9 #[.agg #[.int .i64 op, v]] w fun e w' => e = .returned (.string ⟨#[]⟩) ∧ Below w.heap.size w w' := by
  have HC : Hid (∀ W, Below w.heap.size w W → Calls Tryd.prog 5 #[.agg #[.int .i64 op, v]] W fun e w' => e = .returned (.bool (Stil.isContact op ds)) ∧ Below W.heap.size W w') := fun W h => i_isContact op v ds W (hr.below h) (hat.below h) hfit hl
  have HO : Hid (∀ W, Below w.heap.size w W → Calls Tryd.prog 6 #[.agg #[.int .i64 op, v]] W fun e w' => e = .returned (.bool (Stil.isCoil op ds)) ∧ Below W.heap.size W w') := fun W h => i_isCoil op v ds W (hr.below h) (hat.below h) hfit hl
  obtain ⟨a, cap, rfl, _⟩ := hat
  clear hr hfit
  go_enter Tryd.func9, Tryd.ntmps9
  go_wp2_with (first | (go_at_call 5; refine (HC.out _ (by (repeat (first | exact Below.refl _ _ | assumption | refine bl_alloc ?_ _ | refine bl_drewN ?_ _ | refine bl_drew ?_ | refine bl_grow ?_ _ _ | refine bl_set (Nat.le_refl _) ?_ _ | refine bl_call ?_ (by assumption))))).mono ?_; rw [hct]; rintro e w1 ⟨rfl, hb1⟩; obtain ⟨hc1, hf1⟩ := bcell hb1; have hz := below_lt hb1) | (go_at_call 6; refine (HO.out _ (by (repeat (first | exact Below.refl _ _ | assumption | refine bl_alloc ?_ _ | refine bl_drewN ?_ _ | refine bl_drew ?_ | refine bl_grow ?_ _ _ | refine bl_set (Nat.le_refl _) ?_ _ | refine bl_call ?_ (by assumption))))).mono ?_; rw [hco]; rintro e w2 ⟨rfl, hb2⟩))
  go_ret
  exact ⟨ret_string rfl, by (repeat (first | exact Below.refl _ _ | assumption | refine bl_alloc ?_ _ | refine bl_drewN ?_ _ | refine bl_drew ?_ | refine bl_grow ?_ _ _ | refine bl_set (Nat.le_refl _) ?_ _ | refine bl_call ?_ (by assumption)))⟩
/-- What is a contact has as many operands as its arity says, each ok, and no name. -/
theorem contact_facts {op : Int} {ds : List Stil.Dev} (h : Stil.isContact op ds = true) : (ds.length : Int) = Stil.arity op ∧ (∀ d ∈ ds, d.ok = true) ∧ Stil.isCoil op ds = false ∧ Stil.elemName op = [] := by
  have hr : 1 ≤ op ∧ op ≤ 10 := by
    unfold Stil.isContact at h
    split at h
    · cases h
    · omega
  refine ⟨?_, ?_, ?_, ?_⟩
  · unfold Stil.isContact at h
    rw [if_neg (by omega)] at h
    unfold Stil.arity
    split at h
    · simp only [Bool.and_eq_true, decide_eq_true_eq] at h
      rw [if_pos (by omega)]; rfl
    · split at h
      · cases h
      · rw [if_neg (by omega), if_neg (by omega), if_pos (by omega)]; rfl
    · cases h
  · unfold Stil.isContact at h
    rw [if_neg (by omega)] at h
    split at h
    · intro d hd
      simp at hd
      subst hd
      simp [Stil.Dev.isBit, Stil.devIsBitB, Stil.Dev.ok] at h ⊢
      exact h.2.1
    · intro d hd
      simp at hd
      split at h
      · cases h
      · split at h
        · simp [Stil.Dev.isBit, Stil.devIsBitB, Stil.Dev.ok] at h ⊢
          rcases hd with rfl | rfl
          · exact h.1.1.1
          · exact h.1.2
        · simp [Stil.Dev.isWhole, Stil.devIsWholeB, Stil.Dev.isReal, Stil.devIsRealB, Stil.Dev.ok] at h ⊢
          rcases hd with rfl | rfl
          · rcases h with h | h
            · exact h.1.1
            · exact h.1.1
          · rcases h with h | h
            · exact h.2.1
            · exact h.2.1
    · cases h
  · unfold Stil.isCoil; rw [if_pos (by omega)]
  · unfold Stil.elemName; rw [if_neg (by omega)]
theorem kindIs_ok {d : Stil.Dev} {a b : Int} (h : d.kindIs a b = true) : d.ok = true := by
  simp [Stil.Dev.kindIs, Stil.kindB] at h
  exact h.1
theorem isWhole_ok {d : Stil.Dev} (h : d.isWhole = true) : d.ok = true := by
  simp [Stil.Dev.isWhole, Stil.devIsWholeB] at h
  exact h.1
theorem isReal_ok {d : Stil.Dev} (h : d.isReal = true) : d.ok = true := by
  simp [Stil.Dev.isReal, Stil.devIsRealB] at h
  exact h.1
theorem calc_ok {op : Int} {ds : List Stil.Dev} (h : Stil.calcB op ds = true) : ∀ d ∈ ds, d.ok = true := by
  cases ds with
  | nil => intro d hd; simp at hd
  | cons x r =>
    simp only [Stil.calcB, Bool.and_eq_true] at h
    intro d hd
    rcases List.mem_cons.1 hd with rfl | hd
    · exact kindIs_ok h.1.1
    · have h2 := h.1.2
      unfold Stil.calcRest at h2
      split at h2
      · exact isWhole_ok (List.all_eq_true.1 h2 d hd)
      · exact isReal_ok (List.all_eq_true.1 h2 d hd)
/-- What is a coil has as many operands as its arity says, each ok, and a name. -/
theorem coil_facts {op : Int} {ds : List Stil.Dev} (h : Stil.isCoil op ds = true) : (ds.length : Int) = Stil.arity op ∧ (∀ d ∈ ds, d.ok = true) ∧ Stil.isContact op ds = false ∧ Stil.elemName op ≠ [] := by
  have hr : 21 ≤ op ∧ op ≤ 37 ∧ (ds.length : Int) = Stil.arity op := by
    unfold Stil.isCoil at h
    split at h
    · cases h
    · omega
  refine ⟨hr.2.2, ?_, ?_, ?_⟩
  · unfold Stil.isCoil at h
    rw [if_neg (by omega)] at h
    split at h
    · intro d hd
      simp at hd
      subst hd
      split at h
      · exact kindIs_ok h
      · split at h
        · rcases Bool.or_eq_true_iff.1 h with h | h <;> exact kindIs_ok h
        · split at h
          · rcases Bool.or_eq_true_iff.1 h with h | h
            · rcases Bool.or_eq_true_iff.1 h with h | h <;> exact kindIs_ok h
            · exact kindIs_ok h
          · exact kindIs_ok h
    · intro d hd
      simp at hd
      split at h
      · simp only [Bool.and_eq_true] at h
        rcases hd with rfl | rfl
        · exact kindIs_ok h.1
        · exact kindIs_ok h.2
      · split at h
        · simp only [Bool.and_eq_true] at h
          rcases hd with rfl | rfl
          · exact kindIs_ok h.1.1
          · exact kindIs_ok h.1.2
        · split at h
          · simp only [Bool.and_eq_true] at h
            rcases hd with rfl | rfl
            · exact kindIs_ok h.1.1
            · exact kindIs_ok h.1.2
          · split at h
            · simp only [Bool.and_eq_true] at h
              rcases hd with rfl | rfl
              · exact kindIs_ok h.1
              · exact isWhole_ok h.2
            · split at h
              · simp only [Bool.and_eq_true] at h
                rcases hd with rfl | rfl
                · exact kindIs_ok h.1
                · exact isReal_ok h.2
              · exact calc_ok h d (by simpa using hd)
    · exact calc_ok h
  · unfold Stil.isContact; rw [if_pos (by omega)]
  · have h2 : op = 21 ∨ op = 22 ∨ op = 23 ∨ op = 24 ∨ op = 25 ∨ op = 26 ∨ op = 27 ∨ op = 28 ∨ op = 29 ∨ op = 30 ∨ op = 31 ∨ op = 32 ∨ op = 33 ∨ op = 34 ∨ op = 35 ∨ op = 36 ∨ op = 37 := by omega
    rcases h2 with rfl | rfl | rfl | rfl | rfl | rfl | rfl | rfl | rfl | rfl | rfl | rfl | rfl | rfl | rfl | rfl | rfl <;> decide
end Go.Proofs.YtnnhbjgegkikoaaDoor
