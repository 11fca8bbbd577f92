/- R1, R2, R3, R5, R4: texts put together. -/
import Derived.Test.YtipdjmbgbehkaaaGreatDoorGA
import Derived.Test.YtipdjmbgbehkaaaGreatDoorGB
import Derived.Test.YtipdjmbgbehkaaaGreatDoorGM
import Derived.Laws.RangeAny
import Derived.WalkMore
import Derived.Test.YtipdjmbgbehkaaaGreatDoorGK
import Derived.Test.YtipdjmbgbehkaaaGreatDoorGC
import Derived.Test.YtipdjmbgbehkaaaGreatDoorGJ
/- Contracts of the program's chapter 1: devNumber. -/
namespace Go.Proofs.YtipdjmbgbehkaaaGreatDoor
open Go.RowKit Go.Sort Go.BigFrame
theorem iter_set_below (X : World) (s : ByteArray) (p b o : Nat) (v : Value) (_h : b < X.heap.size) : (X.iter s p).setCell ⟨b, o, none⟩ v = (X.setCell ⟨b, o, none⟩ v).iter s p := by
  simp only [World.iter, World.alloc, World.setCell]
  congr 1
  apply Array.ext
  · simp
  · intro i h1 h2
    simp only [Array.getElem_modify, Array.getElem_push]
    simp at h1
    by_cases hi : i < X.heap.size
    · simp [hi]
    · have : i = X.heap.size := by omega
      subst this
      simp
/-- The world within the loop. -/
def numWorld (w : World) (s : ByteArray) (k : Int) (n p pos : Nat) : World := ((w.alloc (.cells #[.int .i64 0, .int .i64 0, .int .i64 0] 74)).alloc (.cells #[.int .i64 k, .int .i64 n, .int .i64 p] 74)).iter s pos
theorem numBase_size (w : World) (k : Int) (n p : Nat) : ((w.alloc (.cells #[.int .i64 0, .int .i64 0, .int .i64 0] 74)).alloc (.cells #[.int .i64 k, .int .i64 n, .int .i64 p] 74)).heap.size = w.heap.size + 1 + 1 := by simp
theorem num_next (w : World) (s : ByteArray) (k : Int) (n p pos : Nat) (ty : TypeId) (h : pos < s.size) (ha : (s[pos]'h).toNat < 128) :
    (Instr.next (.pointer (some ⟨w.heap.size + 1 + 1, 0, none⟩)) true ty).run Tryz.prog (numWorld w s k n p pos) = .ok (.tuple #[.bool true, .int .i64 pos, .int .i32 (s[pos]'h).toNat]) (numWorld w s k n p (pos + 1)) := by
  have := run_next_ascii (P := Tryz.prog) ((w.alloc (.cells #[.int .i64 0, .int .i64 0, .int .i64 0] 74)).alloc (.cells #[.int .i64 k, .int .i64 n, .int .i64 p] 74)) s pos ty h ha
  rw [numBase_size] at this
  exact this
theorem num_any (w : World) (s : ByteArray) (k : Int) (n p pos : Nat) (ty : TypeId) (h : pos < s.size) :
    (Instr.next (.pointer (some ⟨w.heap.size + 1 + 1, 0, none⟩)) true ty).run Tryz.prog (numWorld w s k n p pos) = .ok (.tuple #[.bool true, .int .i64 pos, .int .i32 (Utf8.decode s pos).1]) (numWorld w s k n p (pos + (Utf8.decode s pos).2)) := by
  have := run_next_any (P := Tryz.prog) ((w.alloc (.cells #[.int .i64 0, .int .i64 0, .int .i64 0] 74)).alloc (.cells #[.int .i64 k, .int .i64 n, .int .i64 p] 74)) s pos ty h
  rw [numBase_size] at this
  exact this
theorem num_end (w : World) (s : ByteArray) (k : Int) (n p pos : Nat) (ty : TypeId) (h : ¬ pos < s.size) :
    (Instr.next (.pointer (some ⟨w.heap.size + 1 + 1, 0, none⟩)) true ty).run Tryz.prog (numWorld w s k n p pos) = .ok (.tuple #[.bool false]) (numWorld w s k n p pos) := by
  have := run_next_end (P := Tryz.prog) ((w.alloc (.cells #[.int .i64 0, .int .i64 0, .int .i64 0] 74)).alloc (.cells #[.int .i64 k, .int .i64 n, .int .i64 p] 74)) s pos ty h
  rw [numBase_size] at this
  exact this
theorem num_cells (w : World) (s : ByteArray) (k : Int) (n p pos : Nat) : (numWorld w s k n p pos).cell? ⟨w.heap.size + 1, 0, none⟩ = some (.int .i64 k) ∧ (numWorld w s k n p pos).cell? ⟨w.heap.size + 1, 1, none⟩ = some (.int .i64 n) ∧ (numWorld w s k n p pos).cell? ⟨w.heap.size + 1, 2, none⟩ = some (.int .i64 p) ∧ (numWorld w s k n p pos).frozen? ⟨w.heap.size + 1, 0, none⟩ = false ∧ (numWorld w s k n p pos).frozen? ⟨w.heap.size + 1, 1, none⟩ = false ∧ (numWorld w s k n p pos).frozen? ⟨w.heap.size + 1, 2, none⟩ = false := by
  refine ⟨?_, ?_, ?_, ?_, ?_, ?_⟩ <;> simp [numWorld, World.iter, go_sem]
theorem num_res (w : World) (s : ByteArray) (k : Int) (n p pos : Nat) : (numWorld w s k n p pos).cell? ⟨w.heap.size, 0, none⟩ = some (.int .i64 0) ∧ (numWorld w s k n p pos).cell? ⟨w.heap.size, 1, none⟩ = some (.int .i64 0) ∧ (numWorld w s k n p pos).cell? ⟨w.heap.size, 2, none⟩ = some (.int .i64 0) ∧ (numWorld w s k n p pos).frozen? ⟨w.heap.size, 0, none⟩ = false ∧ (numWorld w s k n p pos).frozen? ⟨w.heap.size, 1, none⟩ = false ∧ (numWorld w s k n p pos).frozen? ⟨w.heap.size, 2, none⟩ = false := by
  refine ⟨?_, ?_, ?_, ?_, ?_, ?_⟩ <;> simp [numWorld, World.iter, go_sem]
theorem num_below (w : World) (s : ByteArray) (k : Int) (n p pos : Nat) : Below w.heap.size w (numWorld w s k n p pos) := bl_alloc (bl_alloc (bl_alloc (Below.refl _ _) _) _) _
theorem num_pos (w : World) (s : ByteArray) (k : Int) (n p pos : Nat) : (numWorld w s k n p pos).iterPos (w.heap.size + 2) = pos := by
  have := World.iterPos_iter ((w.alloc (.cells #[.int .i64 0, .int .i64 0, .int .i64 0] 74)).alloc (.cells #[.int .i64 k, .int .i64 n, .int .i64 p] 74)) s pos
  rw [numBase_size] at this
  exact this
theorem num_set (w : World) (s : ByteArray) (k : Int) (n p pos o : Nat) (v : Value) : (numWorld w s k n p pos).setCell ⟨w.heap.size + 1, o, none⟩ v = (((w.alloc (.cells #[.int .i64 0, .int .i64 0, .int .i64 0] 74)).alloc (.cells #[.int .i64 k, .int .i64 n, .int .i64 p] 74)).setCell ⟨w.heap.size + 1, o, none⟩ v).iter s pos := iter_set_below _ _ _ _ _ _ (by rw [numBase_size]; omega)
theorem num_kind (w : World) (s : ByteArray) (k : Int) (n p pos : Nat) (j : Int) : (numWorld w s k n p pos).setCell ⟨w.heap.size + 1, 0, none⟩ (.int .i64 j) = numWorld w s j n p pos := by
  rw [num_set]; unfold numWorld; congr 1; simp [go_sem]
theorem num_n (w : World) (s : ByteArray) (k : Int) (n p pos : Nat) (j : Nat) : (numWorld w s k n p pos).setCell ⟨w.heap.size + 1, 1, none⟩ (.int .i64 j) = numWorld w s k j p pos := by
  rw [num_set]; unfold numWorld; congr 1; simp [go_sem]
theorem num_p (w : World) (s : ByteArray) (k : Int) (n p pos : Nat) (j : Nat) : (numWorld w s k n p pos).setCell ⟨w.heap.size + 1, 2, none⟩ (.int .i64 j) = numWorld w s k n j pos := by
  rw [num_set]; unfold numWorld; congr 1; simp [go_sem]
def numOf (l : List UInt8) : Stil.Dev := (Stil.inum l).getD ⟨0, 0, 0⟩
theorem scan_cons (f : Bool) (k : Int) (n p : Nat) (s : Int) (c : UInt8) (r : List UInt8) : Stil.numScan f k n p s (c :: r) = if c.toNat = 45 ∧ f = true then Stil.numScan false k n p (-1) r else if c.toNat = 46 ∧ k = 11 then Stil.numScan false 12 n p s r else if c.toNat < 48 ∨ 57 < c.toNat ∨ 99999999 < n then none else Stil.numScan false k (n * 10 + (c.toNat - 48)) (if k = 12 then p + 1 else p) s r := by
  have e1 : (c = 45) = (c.toNat = 45) := propext ⟨fun h => by rw [h]; rfl, fun h => UInt8.toNat_inj.1 h⟩
  have e2 : (c = 46) = (c.toNat = 46) := propext ⟨fun h => by rw [h]; rfl, fun h => UInt8.toNat_inj.1 h⟩
  simp only [Stil.numScan, e1, e2]
theorem num_bad (l : List UInt8) (w W : World) (hn : Stil.inum l = none) (r0 : W.cell? ⟨w.heap.size, 0, none⟩ = some (.int .i64 0)) (r1 : W.cell? ⟨w.heap.size, 1, none⟩ = some (.int .i64 0)) (r2 : W.cell? ⟨w.heap.size, 2, none⟩ = some (.int .i64 0)) (hb : Below w.heap.size w W) (a : Act) (h2 : a.tmps[2]? = some (.pointer (some ⟨w.heap.size, 0, none⟩))) (h3 : a.tmps[3]? = some (.bool false)) (hd : a.defers = []) :
    bodyPost Tryz.prog Tryz.f210 (fun e w' => e = .returned (.tuple #[.agg #[.int .i64 (numOf l).kind, .int .i64 (numOf l).n, .int .i64 (numOf l).p], .bool (Stil.inum l).isSome]) ∧ Below w.heap.size w w') Exit.ret a (((W.setCell ⟨w.heap.size, 0, none⟩ (.int .i64 0)).setCell ⟨w.heap.size, 1, none⟩ (.int .i64 0)).setCell ⟨w.heap.size, 2, none⟩ (.int .i64 0)) := by
  have hnm : numOf l = ⟨0, 0, 0⟩ := by unfold numOf; rw [hn]; rfl
  refine bodyPost_ret (v := .tuple #[.agg #[.int .i64 0, .int .i64 0, .int .i64 0], .bool false]) (by simp [results, Tryz.results210, go_sem, r0, r1, r2, h2, h3]) hd ⟨by rw [hnm, hn]; rfl, ?_⟩
  exact bl_set (Nat.le_refl _) (bl_set (Nat.le_refl _) (bl_set (Nat.le_refl _) hb _) _) _
set_option maxHeartbeats 2000000 in
set_option maxRecDepth 100000 in
theorem i_devNumber (l : List UInt8) (w : World) (hs : l.length ≤ 1000000000) :
    Calls Tryz.prog 210 #[.string ⟨l.toArray⟩] w fun e w' => e = .returned (.tuple #[.agg #[.int .i64 (numOf l).kind, .int .i64 (numOf l).n, .int .i64 (numOf l).p], .bool (Stil.inum l).isSome]) ∧ Below w.heap.size w w' := by
  have hsz : (⟨l.toArray⟩ : ByteArray).size = l.length := rfl
  go_enter Tryz.func210, Tryz.ntmps210
  go_wp2
  go_step3
  go_wp2
  go_step3
  go_wp2
  go_loopw [5] (fun sv wr => ∃ (pos : Nat) (k : Int) (n p : Nat) (sg : Int), pos ≤ l.length ∧ sv = .int .i64 sg ∧ (sg = 1 ∨ sg = -1) ∧ (k = 11 ∨ k = 12) ∧ n ≤ 999999999 ∧ p ≤ pos ∧ wr = numWorld w ⟨l.toArray⟩ k n p pos ∧ Stil.inum l = Stil.numScan (decide (pos = 0)) k n p sg (l.drop pos)) (fun _ wr => l.length - wr.iterPos (w.heap.size + 2))
  case atStart => exact ⟨0, 11, 0, 0, 1, by omega, rfl, Or.inl rfl, Or.inl rfl, by omega, by omega, rfl, rfl⟩
  case round =>
    obtain ⟨pos, k, n, p, sg, hpos, rfl, hsg, hk, hn, hp, rfl, hscan⟩ := hrel
    by_cases hlt : pos < l.length
    · have hlt' : pos < (⟨l.toArray⟩ : ByteArray).size := hlt
      have hget := ba_get l pos hlt
      obtain ⟨c, hc⟩ : ∃ c, c = l[pos] := ⟨_, rfl⟩
      rw [← hc] at hget
      have hdrop : l.drop pos = c :: l.drop (pos + 1) := by rw [List.drop_eq_getElem_cons hlt, ← hc]
      rw [hdrop, scan_cons] at hscan
      simp only [decide_eq_true_eq] at hscan
      by_cases ha : c.toNat < 128
      · have hnx : ∀ ty, (Instr.next (.pointer (some ⟨w.heap.size + 1 + 1, 0, none⟩)) true ty).run Tryz.prog (numWorld w ⟨l.toArray⟩ k n p pos) = .ok (.tuple #[.bool true, .int .i64 pos, .int .i32 c.toNat]) (numWorld w ⟨l.toArray⟩ k n p (pos + 1)) := by
          intro ty
          have h := num_next w ⟨l.toArray⟩ k n p pos ty hlt' (by rw [hget]; exact ha)
          rw [hget] at h
          exact h
        have hnone : (¬ (c.toNat = 45 ∧ pos = 0) ∧ ¬ (c.toNat = 46 ∧ k = 11) ∧ (c.toNat < 48 ∨ 57 < c.toNat ∨ 99999999 < n)) → Stil.inum l = none := by
          intro h
          rw [hscan, if_neg h.1, if_neg h.2.1, if_pos h.2.2]
        have hstep : ∀ q, decide (q + 1 = 0) = false := fun q => by simp
        obtain ⟨c0, c1, c2, f0, f1, f2⟩ := num_cells w ⟨l.toArray⟩ k n p (pos + 1)
        obtain ⟨r0, r1, r2, g0, g1, g2⟩ := num_res w ⟨l.toArray⟩ k n p (pos + 1)
        have hb := num_below w ⟨l.toArray⟩ k n p (pos + 1)
        clear hdrop hget hlt' hc ha
        by_cases t45 : c.toNat = 45
        · by_cases t0 : pos = 0
          · have e45 : ((c.toNat : Int) == 45) = true := beq_iff_eq.2 (by omega)
            have e0 : ((pos : Int) == 0) = true := beq_iff_eq.2 (by omega)
            have HN : Hid (Stil.inum l = Stil.numScan false k n p (-1) (l.drop (pos + 1))) := by show _ = _; rw [hscan, if_pos ⟨t45, t0⟩]
            clear hscan hnone
            subst t0
            have hnx1 : ∀ ty, (Instr.next (.pointer (some ⟨w.heap.size + 1 + 1, 0, none⟩)) true ty).run Tryz.prog (numWorld w ⟨l.toArray⟩ k n p 0) = .ok (.tuple #[.bool true, .int .i64 0, .int .i32 c.toNat]) (numWorld w ⟨l.toArray⟩ k n p 1) := hnx
            clear hnx e0 c0 c1 c2 f0 f1 f2 r0 r1 r2 g0 g1 g2 hb
            go_wp2
            exact ⟨⟨1, k, n, p, -1, by omega, rfl, Or.inr rfl, hk, hn, by omega, rfl, HN.out⟩, by rw [num_pos, num_pos]; omega⟩
          · have e45 : ((c.toNat : Int) == 45) = true := beq_iff_eq.2 (by omega)
            have e0 : ((pos : Int) == 0) = false := beq_eq_false_iff_ne.2 (by omega)
            have e46 : ((c.toNat : Int) == 46) = false := beq_eq_false_iff_ne.2 (by omega)
            have l48 : decide ((c.toNat : Int) < 48) = true := decide_eq_true (by omega)
            obtain ⟨W, hW⟩ : ∃ W, W = numWorld w ⟨l.toArray⟩ k n p (pos + 1) := ⟨_, rfl⟩
            rw [← hW] at hnx c0 c1 c2 f0 f1 f2 r0 r1 r2 g0 g1 g2 hb
            have HN : Hid (Stil.inum l = none) := hnone (by omega)
            clear hscan hW hnone hstep
            go_wp2
            rw [Exit.noGoto_ret]
            exact num_bad l w W HN.out r0 r1 r2 hb _ rfl rfl rfl
        · by_cases t46 : c.toNat = 46
          · by_cases tk : k = 11
            · have e45 : ((c.toNat : Int) == 45) = false := beq_eq_false_iff_ne.2 (by omega)
              have e46 : ((c.toNat : Int) == 46) = true := beq_iff_eq.2 (by omega)
              have ek : (k == 11) = true := beq_iff_eq.2 (by omega)
              have HN : Hid (Stil.inum l = Stil.numScan false 12 n p sg (l.drop (pos + 1))) := by show _ = _; rw [hscan, if_neg (fun h => t45 h.1), if_pos ⟨t46, tk⟩]
              clear hscan hnone ek
              subst tk
              go_wp2
              rw [num_kind]
              exact ⟨⟨pos + 1, 12, n, p, sg, by omega, rfl, hsg, Or.inr rfl, hn, by omega, rfl, by rw [hstep]; exact HN.out⟩, by rw [num_pos, num_pos]; omega⟩
            · have e45 : ((c.toNat : Int) == 45) = false := beq_eq_false_iff_ne.2 (by omega)
              have e46 : ((c.toNat : Int) == 46) = true := beq_iff_eq.2 (by omega)
              have ek : (k == 11) = false := beq_eq_false_iff_ne.2 (by omega)
              have l48 : decide ((c.toNat : Int) < 48) = true := decide_eq_true (by omega)
              obtain ⟨W, hW⟩ : ∃ W, W = numWorld w ⟨l.toArray⟩ k n p (pos + 1) := ⟨_, rfl⟩
              rw [← hW] at hnx c0 c1 c2 f0 f1 f2 r0 r1 r2 g0 g1 g2 hb
              have HN : Hid (Stil.inum l = none) := hnone (by omega)
              clear hscan hW hnone hstep
              go_wp2
              rw [Exit.noGoto_ret]
              exact num_bad l w W HN.out r0 r1 r2 hb _ rfl rfl rfl
          · by_cases t48 : c.toNat < 48
            · have e45 : ((c.toNat : Int) == 45) = false := beq_eq_false_iff_ne.2 (by omega)
              have e46 : ((c.toNat : Int) == 46) = false := beq_eq_false_iff_ne.2 (by omega)
              have l48 : decide ((c.toNat : Int) < 48) = true := decide_eq_true (by omega)
              obtain ⟨W, hW⟩ : ∃ W, W = numWorld w ⟨l.toArray⟩ k n p (pos + 1) := ⟨_, rfl⟩
              rw [← hW] at hnx c0 c1 c2 f0 f1 f2 r0 r1 r2 g0 g1 g2 hb
              have HN : Hid (Stil.inum l = none) := hnone (by omega)
              clear hscan hW hnone hstep
              go_wp2
              rw [Exit.noGoto_ret]
              exact num_bad l w W HN.out r0 r1 r2 hb _ rfl rfl rfl
            · by_cases t57 : 57 < c.toNat
              · have e45 : ((c.toNat : Int) == 45) = false := beq_eq_false_iff_ne.2 (by omega)
                have e46 : ((c.toNat : Int) == 46) = false := beq_eq_false_iff_ne.2 (by omega)
                have l48 : decide ((c.toNat : Int) < 48) = false := decide_eq_false (by omega)
                have g57 : decide ((57 : Int) < (c.toNat : Int)) = true := decide_eq_true (by omega)
                obtain ⟨W, hW⟩ : ∃ W, W = numWorld w ⟨l.toArray⟩ k n p (pos + 1) := ⟨_, rfl⟩
                rw [← hW] at hnx c0 c1 c2 f0 f1 f2 r0 r1 r2 g0 g1 g2 hb
                have HN : Hid (Stil.inum l = none) := hnone (by omega)
                clear hscan hW hnone hstep
                go_wp2
                rw [Exit.noGoto_ret]
                exact num_bad l w W HN.out r0 r1 r2 hb _ rfl rfl rfl
              · by_cases tn : 99999999 < n
                · have e45 : ((c.toNat : Int) == 45) = false := beq_eq_false_iff_ne.2 (by omega)
                  have e46 : ((c.toNat : Int) == 46) = false := beq_eq_false_iff_ne.2 (by omega)
                  have l48 : decide ((c.toNat : Int) < 48) = false := decide_eq_false (by omega)
                  have g57 : decide ((57 : Int) < (c.toNat : Int)) = false := decide_eq_false (by omega)
                  have gn : decide ((99999999 : Int) < (n : Int)) = true := decide_eq_true (by omega)
                  obtain ⟨W, hW⟩ : ∃ W, W = numWorld w ⟨l.toArray⟩ k n p (pos + 1) := ⟨_, rfl⟩
                  rw [← hW] at hnx c0 c1 c2 f0 f1 f2 r0 r1 r2 g0 g1 g2 hb
                  have HN : Hid (Stil.inum l = none) := hnone (by omega)
                  clear hscan hW hnone hstep
                  go_wp2
                  rw [Exit.noGoto_ret]
                  exact num_bad l w W HN.out r0 r1 r2 hb _ rfl rfl rfl
                · have e45 : ((c.toNat : Int) == 45) = false := beq_eq_false_iff_ne.2 (by omega)
                  have e46 : ((c.toNat : Int) == 46) = false := beq_eq_false_iff_ne.2 (by omega)
                  have l48 : decide ((c.toNat : Int) < 48) = false := decide_eq_false (by omega)
                  have g57 : decide ((57 : Int) < (c.toNat : Int)) = false := decide_eq_false (by omega)
                  have gn : decide ((99999999 : Int) < (n : Int)) = false := decide_eq_false (by omega)
                  have HN : Hid (Stil.inum l = Stil.numScan false k (n * 10 + (c.toNat - 48)) (if k = 12 then p + 1 else p) sg (l.drop (pos + 1))) := by show _ = _; rw [hscan, if_neg (fun h => t45 h.1), if_neg (fun h => t46 h.1), if_neg (by omega)]
                  clear hscan hnone
                  rcases hk with rfl | rfl
                  · go_wp2
                    first | rw [show (n : Int) * 10 + ((c.toNat : Int) - 48) = ((n * 10 + (c.toNat - 48) : Nat) : Int) from by omega] | rw [show (n : Int) * 10 + ((c.toNat - 48 : Nat) : Int) = ((n * 10 + (c.toNat - 48) : Nat) : Int) from by omega]
                    rw [num_n]
                    exact ⟨⟨pos + 1, 11, n * 10 + (c.toNat - 48), p, sg, by omega, rfl, hsg, Or.inl rfl, by omega, by omega, rfl, by rw [hstep]; exact HN.out⟩, by rw [num_pos, num_pos]; omega⟩
                  · go_wp2
                    first | rw [show (n : Int) * 10 + ((c.toNat : Int) - 48) = ((n * 10 + (c.toNat - 48) : Nat) : Int) from by omega] | rw [show (n : Int) * 10 + ((c.toNat - 48 : Nat) : Int) = ((n * 10 + (c.toNat - 48) : Nat) : Int) from by omega]
                    rw [num_n, show (p : Int) + 1 = ((p + 1 : Nat) : Int) from by omega, num_p]
                    exact ⟨⟨pos + 1, 12, n * 10 + (c.toNat - 48), p + 1, sg, by omega, rfl, hsg, Or.inr rfl, by omega, by omega, rfl, by rw [hstep]; exact HN.out⟩, by rw [num_pos, num_pos]; omega⟩
      · obtain ⟨hR1, _⟩ := decode_high ⟨l.toArray⟩ pos hlt' (by rw [hget]; omega)
        have hnx := fun ty => num_any w ⟨l.toArray⟩ k n p pos ty hlt'
        obtain ⟨q, hq⟩ : ∃ q, q = pos + (Utf8.decode ⟨l.toArray⟩ pos).2 := ⟨_, rfl⟩
        obtain ⟨R, hR⟩ : ∃ R, R = (Utf8.decode ⟨l.toArray⟩ pos).1 := ⟨_, rfl⟩
        have hR2 := decode_le ⟨l.toArray⟩ pos
        rw [← hq, ← hR] at hnx
        rw [← hR] at hR1 hR2
        obtain ⟨r0, r1, r2, g0, g1, g2⟩ := num_res w ⟨l.toArray⟩ k n p q
        have hb := num_below w ⟨l.toArray⟩ k n p q
        have HN : Hid (Stil.inum l = none) := by
          show _ = _
          rw [hscan, if_neg (by omega), if_neg (by omega), if_pos (by omega)]
        clear hscan hdrop hget hlt' hc ha hq hR
        have e45 : ((R : Int) == 45) = false := beq_eq_false_iff_ne.2 (by omega)
        have e46 : ((R : Int) == 46) = false := beq_eq_false_iff_ne.2 (by omega)
        have l48 : decide ((R : Int) < 48) = false := decide_eq_false (by omega)
        have g57 : decide ((57 : Int) < (R : Int)) = true := decide_eq_true (by omega)
        obtain ⟨W, hW⟩ : ∃ W, W = numWorld w ⟨l.toArray⟩ k n p q := ⟨_, rfl⟩
        rw [← hW] at hnx r0 r1 r2 g0 g1 g2 hb
        clear hW
        go_wp2
        rw [Exit.noGoto_ret]
        exact num_bad l w W HN.out r0 r1 r2 hb _ rfl rfl rfl
    · have hnx := fun ty => num_end w ⟨l.toArray⟩ k n p pos ty (fun h => hlt h)
      obtain ⟨c0, c1, c2, f0, f1, f2⟩ := num_cells w ⟨l.toArray⟩ k n p pos
      obtain ⟨r0, r1, r2, g0, g1, g2⟩ := num_res w ⟨l.toArray⟩ k n p pos
      have hb := num_below w ⟨l.toArray⟩ k n p pos
      have hend : Stil.inum l = some ⟨k, n * sg, p⟩ := by
        rw [hscan, List.drop_eq_nil_of_le (by omega)]
        rfl
      have hw : IntKind.i64.wrap ((n : Int) * sg) = (n : Int) * sg := by
        rw [IntKind.wrap_i64]
        rcases hsg with rfl | rfl <;> omega
      obtain ⟨W, hW⟩ : ∃ W, W = numWorld w ⟨l.toArray⟩ k n p pos := ⟨_, rfl⟩
      rw [← hW] at hnx c0 c1 c2 f0 f1 f2 r0 r1 r2 g0 g1 g2 hb ⊢
      clear hscan hW
      go_wp2
      rw [Exit.noGoto_ret]
      have hnm : numOf l = ⟨k, n * sg, p⟩ := by unfold numOf; rw [hend]; rfl
      refine bodyPost_ret (v := .tuple #[.agg #[.int .i64 k, .int .i64 (n * sg), .int .i64 p], .bool true]) (by simp [results, Tryz.results210, go_sem, r0, r1, r2]) rfl ⟨by rw [hnm, hend]; rfl, ?_⟩
      exact bl_set (Nat.le_refl _) (bl_set (Nat.le_refl _) (bl_set (Nat.le_refl _) (bl_set (by simp) hb _) _) _) _
end Go.Proofs.YtipdjmbgbehkaaaGreatDoor
/- Contracts of the program's chapter 1: devGuess. -/
namespace Go.Proofs.YtipdjmbgbehkaaaGreatDoor
open Go.RowKit Go.Sort Go.BigFrame
theorem numScan_bound : ∀ (l : List UInt8) (f : Bool) (k : Int) (n p : Nat) (s : Int) (d : Stil.Dev), n ≤ 999999999 → (s = 1 ∨ s = -1) → Stil.numScan f k n p s l = some d → -999999999 ≤ d.n ∧ d.n ≤ 999999999
  | [], f, k, n, p, s, d, hn, hs, h => by
    simp only [Stil.numScan, Option.some.injEq] at h
    subst h
    rcases hs with rfl | rfl <;> (constructor <;> simp only <;> omega)
  | c :: r, f, k, n, p, s, d, hn, hs, h => by
    rw [scan_cons] at h
    split at h
    · exact numScan_bound r _ _ _ _ _ d hn (Or.inr rfl) h
    · split at h
      · exact numScan_bound r _ _ _ _ _ d hn hs h
      · split at h
        · cases h
        · exact numScan_bound r _ _ _ _ _ d (by omega) hs h
theorem numOf_bound (l : List UInt8) : -999999999 ≤ (numOf l).n ∧ (numOf l).n ≤ 999999999 := by
  unfold numOf
  cases h : Stil.inum l with
  | none => exact ⟨by decide, by decide⟩
  | some d => exact numScan_bound l true 11 0 0 1 d (by omega) (Or.inl rfl) h
theorem prefix_letter (l : List UInt8) (k : Nat) (h1 : 1 ≤ k) (h2 : k ≤ 10) : Lib.hasPrefix l (Stil.devLetter k).data.toList = Stil.letterAt l k ∧ (Stil.letterAt l k = true → Lib.trimPrefix l (Stil.devLetter k).data.toList = l.drop 1) := by
  have e : (Stil.devLetter k).data.toList = [Stil.letters.getD (k - 1) 0] := by
    unfold Stil.devLetter
    rw [if_pos (by omega)]
    simp
  rw [e]
  have hp : Lib.hasPrefix l [Stil.letters.getD (k - 1) 0] = Stil.letterAt l k := by
    unfold Lib.hasPrefix Stil.letterAt
    cases l with
    | nil => rfl
    | cons x r =>
      simp only [List.isPrefixOf, List.head?_cons, Bool.and_true]
      rw [Bool.eq_iff_iff]
      simp only [beq_iff_eq, Option.some.injEq]
      exact ⟨Eq.symm, Eq.symm⟩
  refine ⟨hp, fun h => ?_⟩
  unfold Lib.trimPrefix
  rw [hp, h]
  rfl
theorem blN {n : Nat} {a b c : World} (h : Below n a b) (k : Below b.heap.size b c) (hn : n ≤ a.heap.size) : Below n a c := h.trans (k.mono (Nat.le_trans hn h.size))
theorem res3 {w W : World} (hB : Below (w.heap.size + 1) (w.alloc (.cells #[.int .i64 0, .int .i64 0, .int .i64 0] 74)) W) :
    W.cell? ⟨w.heap.size, 0, none⟩ = some (.int .i64 0) ∧ W.cell? ⟨w.heap.size, 1, none⟩ = some (.int .i64 0) ∧ W.cell? ⟨w.heap.size, 2, none⟩ = some (.int .i64 0) ∧ W.frozen? ⟨w.heap.size, 0, none⟩ = false ∧ W.frozen? ⟨w.heap.size, 1, none⟩ = false ∧ W.frozen? ⟨w.heap.size, 2, none⟩ = false ∧ w.heap.size < W.heap.size := by
  have hz : w.heap.size < W.heap.size := by have := hB.size; simp at this; omega
  have c0 : W.cell? ⟨w.heap.size, 0, none⟩ = some (.int .i64 0) := by rw [hB.cell (p := ⟨w.heap.size, 0, none⟩) (by simp)]; simp [go_sem]
  have f0 : W.frozen? ⟨w.heap.size, 0, none⟩ = false := by rw [hB.frozen (p := ⟨w.heap.size, 0, none⟩) (by simp)]; simp [go_sem]
  have c1 : W.cell? ⟨w.heap.size, 1, none⟩ = some (.int .i64 0) := by rw [hB.cell (p := ⟨w.heap.size, 1, none⟩) (by simp)]; simp [go_sem]
  have f1 : W.frozen? ⟨w.heap.size, 1, none⟩ = false := by rw [hB.frozen (p := ⟨w.heap.size, 1, none⟩) (by simp)]; simp [go_sem]
  have c2 : W.cell? ⟨w.heap.size, 2, none⟩ = some (.int .i64 0) := by rw [hB.cell (p := ⟨w.heap.size, 2, none⟩) (by simp)]; simp [go_sem]
  have f2 : W.frozen? ⟨w.heap.size, 2, none⟩ = false := by rw [hB.frozen (p := ⟨w.heap.size, 2, none⟩) (by simp)]; simp [go_sem]
  exact ⟨c0, c1, c2, f0, f1, f2, hz⟩
set_option maxHeartbeats 2000000 in
set_option maxRecDepth 100000 in
theorem i_devGuess (l : List UInt8) (w : World) (hr : RowsAt w) (hw : WordsAt w) (hs : l.length ≤ 1000000000) :
    Calls Tryz.prog 205 #[.string ⟨l.toArray⟩] w fun e w' => ∃ d : Stil.Dev, e = .returned (.tuple #[.agg #[.int .i64 d.kind, .int .i64 d.n, .int .i64 d.p], .bool (Stil.iguess l).isSome]) ∧ (∀ x, Stil.iguess l = some x → x = d) ∧ (-999999999 ≤ d.n ∧ d.n ≤ 999999999) ∧ Below w.heap.size w w' := by
  have HR : Hid (∀ W, Below w.heap.size w W → RowsAt W) := fun W h => hr.below h
  have HW : Hid (∀ W, Below w.heap.size w W → WordsAt W) := fun W h => hw.below h
  clear hr
  go_enter Tryz.func205, Tryz.ntmps205
  go_wp2
  go_loopw [10] (fun v wr => ∃ m : Nat, m ≤ 4 ∧ v = .int .i64 m ∧ Stil.iguess l = Stil.iwordFrom l (4 - m) m ∧ wr = w.alloc (.cells #[.int .i64 0, .int .i64 0, .int .i64 0] 74)) (fun v _ => 4 - (intOf v).toNat)
  case atStart => exact ⟨0, by omega, rfl, rfl, rfl⟩
  case round =>
    obtain ⟨m, hm, rfl, hg, rfl⟩ := hrel
    by_cases hlt : m < 4
    · have hc := (HW.out _ (below_alloc w (.cells #[.int .i64 0, .int .i64 0, .int .i64 0] 74))).2 m hlt
      have hg2 : Stil.iguess l = if l = Stil.words.getD m [] then some ⟨13, m, 0⟩ else Stil.iwordFrom l (4 - (m + 1)) (m + 1) := by
        rw [hg, show 4 - m = (4 - (m + 1)) + 1 from by omega, Stil.iwordFrom]
      obtain ⟨x, hx⟩ : ∃ x, x = Stil.words.getD m [] := ⟨_, rfl⟩
      rw [← hx] at hc hg2
      clear hx hg hw
      by_cases he : l = x
      · rw [if_pos he] at hg2
        subst he
        go_wp2
        refine bodyPost_ret (v := .tuple #[.agg #[.int .i64 13, .int .i64 m, .int .i64 0], .bool true]) (by simp [results, Tryz.results205, go_sem]) rfl ?_
        exact ⟨⟨13, m, 0⟩, by rw [hg2]; rfl, fun x h => by rw [hg2] at h; exact (Option.some.inj h).symm, ⟨by simp only; omega, by simp only; omega⟩, below_alloc _ _⟩
      · rw [if_neg he] at hg2
        have hne : (x == l) = false := beq_eq_false_iff_ne.2 (fun h => he h.symm)
        go_wp2
        exact ⟨⟨m + 1, by omega, by go_num, hg2, trivial⟩, by simp [intOf]; omega⟩
    · have hg2 : Stil.iguess l = Stil.iletFrom l 10 1 := by rw [hg, show 4 - m = 0 from by omega, Stil.iwordFrom]
      have HG : Hid (Stil.iguess l = Stil.iletFrom l 10 1) := hg2
      clear hg hg2 hw
      go_wp2
      go_loopw [5] (fun v wr => ∃ k : Nat, 1 ≤ k ∧ k ≤ 11 ∧ v = .int .i64 k ∧ Stil.iguess l = Stil.iletFrom l (11 - k) k ∧ Below (w.heap.size + 1) (w.alloc (.cells #[.int .i64 0, .int .i64 0, .int .i64 0] 74)) wr) (fun v _ => 11 - (intOf v).toNat)
      case atStart => exact ⟨1, by omega, by omega, rfl, HG.out, Below.refl _ _⟩
      case round =>
        clear HG
        obtain ⟨k, hk1, hk2, rfl, hg, hB⟩ := hrel
        have hz : w.heap.size < wr.heap.size := by have := hB.size; simp at this; omega
        have c0 : wr.cell? ⟨w.heap.size, 0, none⟩ = some (.int .i64 0) := by rw [hB.cell (p := ⟨w.heap.size, 0, none⟩) (by simp)]; simp [go_sem]
        have f0 : wr.frozen? ⟨w.heap.size, 0, none⟩ = false := by rw [hB.frozen (p := ⟨w.heap.size, 0, none⟩) (by simp)]; simp [go_sem]
        have c1 : wr.cell? ⟨w.heap.size, 1, none⟩ = some (.int .i64 0) := by rw [hB.cell (p := ⟨w.heap.size, 1, none⟩) (by simp)]; simp [go_sem]
        have f1 : wr.frozen? ⟨w.heap.size, 1, none⟩ = false := by rw [hB.frozen (p := ⟨w.heap.size, 1, none⟩) (by simp)]; simp [go_sem]
        have c2 : wr.cell? ⟨w.heap.size, 2, none⟩ = some (.int .i64 0) := by rw [hB.cell (p := ⟨w.heap.size, 2, none⟩) (by simp)]; simp [go_sem]
        have f2 : wr.frozen? ⟨w.heap.size, 2, none⟩ = false := by rw [hB.frozen (p := ⟨w.heap.size, 2, none⟩) (by simp)]; simp [go_sem]
        have hbw : Below w.heap.size w wr := (below_alloc _ _).trans (hB.mono (by omega))
        by_cases hle : k ≤ 10
        · obtain ⟨hp1, hp2⟩ := prefix_letter l k hk1 hle
          have hg2 : Stil.iguess l = if Stil.letterAt l k then (Stil.inum (l.drop 1)).map fun d => ⟨k, d.n, d.p⟩ else Stil.iletFrom l (11 - (k + 1)) (k + 1) := by
            rw [hg, show 11 - k = (11 - (k + 1)) + 1 from by omega, Stil.iletFrom]
          have HL : Hid (∀ W, Below wr.heap.size wr W → Calls Tryz.prog 101 #[.int .i64 k] W fun e w' => e = .returned (.string (Stil.devLetter k)) ∧ Below W.heap.size W w') := fun W h => i_devLetter k W (HR.out W (hbw.trans (h.mono hbw.size)))
          clear hg
          cases ht : Stil.letterAt l k
          · rw [ht] at hp1 hg2
            have HC : Hid (∀ W, Calls Tryz.prog 209 #[.string ⟨l.toArray⟩, .string (Stil.devLetter k)] W fun e w' => e = .returned (.tuple #[.string ⟨(Lib.trimPrefix l (Stil.devLetter k).data.toList).toArray⟩, .bool false]) ∧ w' = W) := fun W => by
              have h := Tryz.strings_CutPrefix ⟨l.toArray⟩ (Stil.devLetter k) W
              have e : (⟨l.toArray⟩ : ByteArray).data.toList = l := by simp
              rw [e, hp1] at h
              exact h
            have HG2 : Hid (Stil.iguess l = Stil.iletFrom l (11 - (k + 1)) (k + 1)) := by show _ = _; rw [hg2]; rfl
            clear hg2 hp1 hp2 ht
            go_wp2_with (first | (go_at_call 101; refine (HL.out _ (by (repeat (first | exact Below.refl _ _ | assumption | refine bl_alloc ?_ _ | refine bl_drewN ?_ _ | refine bl_drew ?_ | refine bl_grow ?_ _ _ | refine bl_set (Nat.le_refl _) ?_ _ | refine bl_call ?_ (by assumption))))).mono ?_; rintro e w1 ⟨rfl, hb1⟩) | (go_at_call 209; refine (HC.out _).mono ?_; rintro e w2 ⟨rfl, rfl⟩))
            exact ⟨⟨k + 1, by omega, by omega, by go_num, HG2.out, blN hB hb1 (by simp)⟩, by simp [intOf]; omega⟩
          · rw [ht] at hp1 hg2
            have hp3 := hp2 ht
            have HC : Hid (∀ W, Calls Tryz.prog 209 #[.string ⟨l.toArray⟩, .string (Stil.devLetter k)] W fun e w' => e = .returned (.tuple #[.string ⟨(l.drop 1).toArray⟩, .bool true]) ∧ w' = W) := fun W => by
              have h := Tryz.strings_CutPrefix ⟨l.toArray⟩ (Stil.devLetter k) W
              have e : (⟨l.toArray⟩ : ByteArray).data.toList = l := by simp
              rw [e, hp1, hp3] at h
              exact h
            have HG2 : Hid (Stil.iguess l = (Stil.inum (l.drop 1)).map fun d => ⟨k, d.n, d.p⟩) := by show _ = _; rw [hg2]; rfl
            have hdl : (l.drop 1).length ≤ 1000000000 := by simp; omega
            obtain ⟨y, hy⟩ : ∃ y, y = l.drop 1 := ⟨_, rfl⟩
            rw [← hy] at HC HG2 hdl
            clear hg2 hp1 hp2 hp3 ht hy
            go_wp2_with (first | (go_at_call 101; refine (HL.out _ (by (repeat (first | exact Below.refl _ _ | assumption | refine bl_alloc ?_ _ | refine bl_drewN ?_ _ | refine bl_drew ?_ | refine bl_grow ?_ _ _ | refine bl_set (Nat.le_refl _) ?_ _ | refine bl_call ?_ (by assumption))))).mono ?_; rintro e w1 ⟨rfl, hb1⟩) | (go_at_call 209; refine (HC.out _).mono ?_; rintro e w2 ⟨rfl, rfl⟩) | (go_at_call 210; refine (i_devNumber y _ hdl).mono ?_; rintro e w3 ⟨rfl, hb3⟩; have hB3 := blN (blN hB hb1 (by simp)) hb3 (by simp); obtain ⟨d0, d1, d2, e0, e1, e2, hz3⟩ := res3 hB3))
            have hbd := numOf_bound y
            refine bodyPost_ret (v := .tuple #[.agg #[.int .i64 k, .int .i64 (numOf y).n, .int .i64 (numOf y).p], .bool (Stil.inum y).isSome]) (by simp [results, Tryz.results205, go_sem, d0, d1, d2, hz3]) rfl ?_
            refine ⟨⟨k, (numOf y).n, (numOf y).p⟩, ?_, ?_, hbd, ?_⟩
            · rw [HG2.out]; cases Stil.inum y <;> rfl
            · intro x hx
              rw [HG2.out] at hx
              cases hi : Stil.inum y with
              | none => rw [hi] at hx; cases hx
              | some d =>
                rw [hi] at hx
                have hd : numOf y = d := by unfold numOf; rw [hi]; rfl
                rw [hd]
                exact (Option.some.inj hx).symm
            · have := (below_alloc w (.cells #[.int .i64 0, .int .i64 0, .int .i64 0] 74)).trans (hB3.mono (Nat.le_succ _))
              (repeat (first | with_reducible exact Below.refl _ _ | with_reducible assumption | with_reducible refine bl_set (by first | exact Nat.le_refl _ | (simp; done) | (simp; omega) | omega) ?_ _ | with_reducible refine bl_alloc ?_ _ | with_reducible refine bl_drewN ?_ _ | with_reducible refine bl_drew ?_ | with_reducible refine bl_grow ?_ _ _ | with_reducible refine bl_call ?_ (by assumption)))
        · have HG2 : Hid (Stil.iguess l = Stil.inum l) := by show _ = _; rw [hg, show 11 - k = 0 from by omega, Stil.iletFrom]
          clear hg
          go_wp2_with (go_at_call 210; refine (i_devNumber l _ hs).mono ?_; rintro e w3 ⟨rfl, hb3⟩; have hB3 := blN hB hb3 (by simp); obtain ⟨d0, d1, d2, e0, e1, e2, hz3⟩ := res3 hB3)
          have hbd := numOf_bound l
          refine bodyPost_ret (v := .tuple #[.agg #[.int .i64 (numOf l).kind, .int .i64 (numOf l).n, .int .i64 (numOf l).p], .bool (Stil.inum l).isSome]) (by simp [results, Tryz.results205, go_sem, d0, d1, d2]) rfl ?_
          refine ⟨numOf l, by rw [HG2.out], ?_, hbd, ?_⟩
          · intro x hx
            rw [HG2.out] at hx
            unfold numOf
            rw [hx]
            rfl
          · have := (below_alloc w (.cells #[.int .i64 0, .int .i64 0, .int .i64 0] 74)).trans (hB3.mono (Nat.le_succ _))
            (repeat (first | with_reducible exact Below.refl _ _ | with_reducible assumption | with_reducible refine bl_set (by first | exact Nat.le_refl _ | (simp; done) | (simp; omega) | omega) ?_ _ | with_reducible refine bl_alloc ?_ _ | with_reducible refine bl_drewN ?_ _ | with_reducible refine bl_drew ?_ | with_reducible refine bl_grow ?_ _ _ | with_reducible refine bl_call ?_ (by assumption)))
end Go.Proofs.YtipdjmbgbehkaaaGreatDoor
/- Contracts of the program's chapter 1: DevRead. -/
namespace Go.Proofs.YtipdjmbgbehkaaaGreatDoor
open Go.RowKit Go.Sort Go.BigFrame
theorem read_none {l : List UInt8} (h : Stil.idevRead l = none) : Stil.devReadB l = false ∧ Stil.devRead l = ⟨0, 0, 0⟩ := by
  rw [Stil.idevRead_eq] at h
  cases hb : Stil.devReadB l
  · exact ⟨rfl, by unfold Stil.devRead; rw [hb]; rfl⟩
  · rw [hb] at h; cases h
theorem read_some {l : List UInt8} {d : Stil.Dev} (h : Stil.idevRead l = some d) : Stil.devReadB l = true ∧ Stil.devRead l = d := by
  rw [Stil.idevRead_eq] at h
  cases hb : Stil.devReadB l
  · rw [hb] at h; cases h
  · rw [hb] at h; exact ⟨rfl, Option.some.inj h⟩
theorem dr_ret {w W : World} (hB : Below (w.heap.size + 1) (w.alloc (.cells #[.int .i64 0, .int .i64 0, .int .i64 0] 74)) W) : Below w.heap.size w W := (below_alloc w _).trans (hB.mono (Nat.le_succ _))
set_option maxHeartbeats 2000000 in
set_option maxRecDepth 100000 in
theorem i_devRead (l : List UInt8) (w : World) (hr : RowsAt w) (hw : WordsAt w) (hp : PowAt w) (hs : l.length ≤ 1000000000) :
    Calls Tryz.prog 194 #[.string ⟨l.toArray⟩] w fun e w' => e = .returned (.tuple #[.agg #[.int .i64 (Stil.devRead l).kind, .int .i64 (Stil.devRead l).n, .int .i64 (Stil.devRead l).p], .bool (Stil.devReadB l)]) ∧ Below w.heap.size w w' := by
  have HR : Hid (∀ W, Below w.heap.size w W → RowsAt W) := fun W h => hr.below h
  have HW : Hid (∀ W, Below w.heap.size w W → WordsAt W) := fun W h => hw.below h
  have HP : Hid (∀ W, Below w.heap.size w W → PowAt W) := fun W h => hp.below h
  have HGs : Hid (∀ W, Below w.heap.size w W → Calls Tryz.prog 205 #[.string ⟨l.toArray⟩] W fun e w' => ∃ d : Stil.Dev, e = .returned (.tuple #[.agg #[.int .i64 d.kind, .int .i64 d.n, .int .i64 d.p], .bool (Stil.iguess l).isSome]) ∧ (∀ x, Stil.iguess l = some x → x = d) ∧ (-999999999 ≤ d.n ∧ d.n ≤ 999999999) ∧ Below W.heap.size W w') := fun W h => i_devGuess l W (HR.out W h) (HW.out W h) hs
  clear hr hw hp
  cases hi : Stil.iguess l with
  | none =>
    obtain ⟨hb, hd⟩ := read_none (l := l) (by unfold Stil.idevRead; rw [hi]; rfl)
    rw [hb, hd]
    rw [hi] at HGs
    go_enter Tryz.func194, Tryz.ntmps194
    go_wp2_with (go_at_call 205; refine (HGs.out _ (by (repeat (first | exact Below.refl _ _ | assumption | refine bl_alloc ?_ _ | refine bl_drewN ?_ _ | refine bl_drew ?_ | refine bl_grow ?_ _ _ | refine bl_set (Nat.le_refl _) ?_ _ | refine bl_call ?_ (by assumption))))).mono ?_; rintro e w1 ⟨d, rfl, hd, hbd, hb1⟩; have hB1 : Below (w.heap.size + 1) (w.alloc (.cells #[.int .i64 0, .int .i64 0, .int .i64 0] 74)) w1 := (by have := hb1; rw [World.size_alloc] at this; exact this); obtain ⟨d0, d1, d2, e0, e1, e2, hz1⟩ := res3 hB1)
    refine bodyPost_ret (v := .tuple #[.agg #[.int .i64 0, .int .i64 0, .int .i64 0], .bool false]) (by simp [results, Tryz.results194, go_sem, d0, d1, d2, hz1]) rfl ⟨rfl, ?_⟩
    have := dr_ret hB1
    (repeat (first | with_reducible exact Below.refl _ _ | with_reducible assumption | with_reducible refine bl_set (by first | exact Nat.le_refl _ | (simp; done) | (simp; omega) | omega) ?_ _ | with_reducible refine bl_alloc ?_ _ | with_reducible refine bl_drewN ?_ _ | with_reducible refine bl_drew ?_ | with_reducible refine bl_grow ?_ _ _ | with_reducible refine bl_call ?_ (by assumption)))
  | some x =>
    rw [hi] at HGs
    have HI : Hid (Stil.idevRead l = if Stil.devOkB x.kind x.n x.p && x.text == l then some x else none) := by show _ = _; unfold Stil.idevRead; rw [hi]; rfl
    clear hi
    have HK : Hid (∀ W, Below w.heap.size w W → -999999999 ≤ x.n ∧ x.n ≤ 999999999 → Calls Tryz.prog 98 #[.agg #[.int .i64 x.kind, .int .i64 x.n, .int .i64 x.p]] W fun e w' => e = .returned (.bool (Stil.devOkB x.kind x.n x.p)) ∧ Below W.heap.size W w') := fun W h hx => i_devOk _ _ _ W (HR.out W h) (by omega) (by omega)
    have HT : Hid (∀ W, Below w.heap.size w W → -999999999 ≤ x.n ∧ x.n ≤ 999999999 → Calls Tryz.prog 73 #[.agg #[.int .i64 x.kind, .int .i64 x.n, .int .i64 x.p]] W fun e w' => e = .returned (.string ⟨(x.text).toArray⟩) ∧ Below W.heap.size W w') := fun W h hx => i_devText _ _ _ W (HR.out W h) (HW.out W h) (HP.out W h) (by omega) (by omega)
    obtain ⟨y, hy⟩ : ∃ y, y = x.text := ⟨_, rfl⟩
    rw [← hy] at HI HT
    clear hy
    cases hok : Stil.devOkB x.kind x.n x.p
    · rw [hok] at HI HK
      obtain ⟨hb, hd⟩ := read_none (l := l) (by rw [HI.out]; rfl)
      rw [hb, hd]
      clear HI hb hd hok
      go_enter Tryz.func194, Tryz.ntmps194
      go_wp2_with (first | (go_at_call 205; refine (HGs.out _ (by (repeat (first | exact Below.refl _ _ | assumption | refine bl_alloc ?_ _ | refine bl_drewN ?_ _ | refine bl_drew ?_ | refine bl_grow ?_ _ _ | refine bl_set (Nat.le_refl _) ?_ _ | refine bl_call ?_ (by assumption))))).mono ?_; rintro e w1 ⟨d, rfl, hd, hbd, hb1⟩; have hB1 : Below (w.heap.size + 1) (w.alloc (.cells #[.int .i64 0, .int .i64 0, .int .i64 0] 74)) w1 := (by have := hb1; rw [World.size_alloc] at this; exact this); obtain ⟨d0, d1, d2, e0, e1, e2, hz1⟩ := res3 hB1; have hxd := hd x rfl; subst hxd; clear hd) | (go_at_call 98; refine (HK.out _ (by have := dr_ret hB1; (repeat (first | exact Below.refl _ _ | assumption | refine bl_alloc ?_ _ | refine bl_drewN ?_ _ | refine bl_drew ?_ | refine bl_grow ?_ _ _ | refine bl_set (Nat.le_refl _) ?_ _ | refine bl_call ?_ (by assumption)))) hbd).mono ?_; rintro e w2 ⟨rfl, hb2⟩; have hB2 := blN (blN hB1 (below_alloc _ _) (by simp)) hb2 (by simp); obtain ⟨d0, d1, d2, e0, e1, e2, hz2⟩ := res3 hB2; have k0 : w2.cell? ⟨w1.heap.size, 0, none⟩ = some (.int .i64 x.kind) := (by refine (hb2.cell (p := ⟨w1.heap.size, 0, none⟩) (by first | with_reducible assumption | (simp; done) | (simp; omega))).trans ?_; (repeat (first | with_reducible assumption | with_reducible refine cell_drew.trans ?_ | with_reducible refine (cell_set_other (by omega)).trans ?_ | with_reducible refine (cell_set_off (by omega)).trans ?_ | with_reducible refine (cell_alloc_old (by first | with_reducible assumption | (simp; done) | (simp; omega))).trans ?_ | with_reducible apply cell_set_at | (simp [go_sem]; done)))); have k1 : w2.cell? ⟨w1.heap.size, 1, none⟩ = some (.int .i64 x.n) := (by refine (hb2.cell (p := ⟨w1.heap.size, 1, none⟩) (by first | with_reducible assumption | (simp; done) | (simp; omega))).trans ?_; (repeat (first | with_reducible assumption | with_reducible refine cell_drew.trans ?_ | with_reducible refine (cell_set_other (by omega)).trans ?_ | with_reducible refine (cell_set_off (by omega)).trans ?_ | with_reducible refine (cell_alloc_old (by first | with_reducible assumption | (simp; done) | (simp; omega))).trans ?_ | with_reducible apply cell_set_at | (simp [go_sem]; done)))); have k2 : w2.cell? ⟨w1.heap.size, 2, none⟩ = some (.int .i64 x.p) := (by refine (hb2.cell (p := ⟨w1.heap.size, 2, none⟩) (by first | with_reducible assumption | (simp; done) | (simp; omega))).trans ?_; (repeat (first | with_reducible assumption | with_reducible refine cell_drew.trans ?_ | with_reducible refine (cell_set_other (by omega)).trans ?_ | with_reducible refine (cell_set_off (by omega)).trans ?_ | with_reducible refine (cell_alloc_old (by first | with_reducible assumption | (simp; done) | (simp; omega))).trans ?_ | with_reducible apply cell_set_at | (simp [go_sem]; done)))); have hyw2 : w1.heap.size < w2.heap.size := Nat.lt_of_lt_of_le (by first | with_reducible assumption | (simp; done) | (simp; omega)) hb2.size))
      refine bodyPost_ret (v := .tuple #[.agg #[.int .i64 0, .int .i64 0, .int .i64 0], .bool false]) (by simp [results, Tryz.results194, go_sem, d0, d1, d2]) rfl ⟨rfl, ?_⟩
      have := dr_ret hB2
      (repeat (first | with_reducible exact Below.refl _ _ | with_reducible assumption | with_reducible refine bl_set (by first | exact Nat.le_refl _ | (simp; done) | (simp; omega) | omega) ?_ _ | with_reducible refine bl_alloc ?_ _ | with_reducible refine bl_drewN ?_ _ | with_reducible refine bl_drew ?_ | with_reducible refine bl_grow ?_ _ _ | with_reducible refine bl_call ?_ (by assumption)))
    · rw [hok] at HI HK
      by_cases ht : y = l
      · obtain ⟨hb, hd⟩ := read_some (l := l) (d := x) (by rw [HI.out, if_pos (by simp [ht])])
        rw [hb, hd]
        have hte : (y == l) = true := beq_iff_eq.2 ht
        clear HI hb hd hok
        subst ht
        clear hte
        go_enter Tryz.func194, Tryz.ntmps194
        go_wp2_with (first | (go_at_call 205; refine (HGs.out _ (by (repeat (first | exact Below.refl _ _ | assumption | refine bl_alloc ?_ _ | refine bl_drewN ?_ _ | refine bl_drew ?_ | refine bl_grow ?_ _ _ | refine bl_set (Nat.le_refl _) ?_ _ | refine bl_call ?_ (by assumption))))).mono ?_; rintro e w1 ⟨d, rfl, hd, hbd, hb1⟩; have hB1 : Below (w.heap.size + 1) (w.alloc (.cells #[.int .i64 0, .int .i64 0, .int .i64 0] 74)) w1 := (by have := hb1; rw [World.size_alloc] at this; exact this); obtain ⟨d0, d1, d2, e0, e1, e2, hz1⟩ := res3 hB1; have hxd := hd x rfl; subst hxd; clear hd) | (go_at_call 98; refine (HK.out _ (by have := dr_ret hB1; (repeat (first | exact Below.refl _ _ | assumption | refine bl_alloc ?_ _ | refine bl_drewN ?_ _ | refine bl_drew ?_ | refine bl_grow ?_ _ _ | refine bl_set (Nat.le_refl _) ?_ _ | refine bl_call ?_ (by assumption)))) hbd).mono ?_; rintro e w2 ⟨rfl, hb2⟩; have hB2 := blN (blN hB1 (below_alloc _ _) (by simp)) hb2 (by simp); obtain ⟨d0, d1, d2, e0, e1, e2, hz2⟩ := res3 hB2; have k0 : w2.cell? ⟨w1.heap.size, 0, none⟩ = some (.int .i64 x.kind) := (by refine (hb2.cell (p := ⟨w1.heap.size, 0, none⟩) (by first | with_reducible assumption | (simp; done) | (simp; omega))).trans ?_; (repeat (first | with_reducible assumption | with_reducible refine cell_drew.trans ?_ | with_reducible refine (cell_set_other (by omega)).trans ?_ | with_reducible refine (cell_set_off (by omega)).trans ?_ | with_reducible refine (cell_alloc_old (by first | with_reducible assumption | (simp; done) | (simp; omega))).trans ?_ | with_reducible apply cell_set_at | (simp [go_sem]; done)))); have k1 : w2.cell? ⟨w1.heap.size, 1, none⟩ = some (.int .i64 x.n) := (by refine (hb2.cell (p := ⟨w1.heap.size, 1, none⟩) (by first | with_reducible assumption | (simp; done) | (simp; omega))).trans ?_; (repeat (first | with_reducible assumption | with_reducible refine cell_drew.trans ?_ | with_reducible refine (cell_set_other (by omega)).trans ?_ | with_reducible refine (cell_set_off (by omega)).trans ?_ | with_reducible refine (cell_alloc_old (by first | with_reducible assumption | (simp; done) | (simp; omega))).trans ?_ | with_reducible apply cell_set_at | (simp [go_sem]; done)))); have k2 : w2.cell? ⟨w1.heap.size, 2, none⟩ = some (.int .i64 x.p) := (by refine (hb2.cell (p := ⟨w1.heap.size, 2, none⟩) (by first | with_reducible assumption | (simp; done) | (simp; omega))).trans ?_; (repeat (first | with_reducible assumption | with_reducible refine cell_drew.trans ?_ | with_reducible refine (cell_set_other (by omega)).trans ?_ | with_reducible refine (cell_set_off (by omega)).trans ?_ | with_reducible refine (cell_alloc_old (by first | with_reducible assumption | (simp; done) | (simp; omega))).trans ?_ | with_reducible apply cell_set_at | (simp [go_sem]; done)))); have hyw2 : w1.heap.size < w2.heap.size := Nat.lt_of_lt_of_le (by first | with_reducible assumption | (simp; done) | (simp; omega)) hb2.size) | (go_at_call 73; refine (HT.out _ (by have := dr_ret hB2; (repeat (first | exact Below.refl _ _ | assumption | refine bl_alloc ?_ _ | refine bl_drewN ?_ _ | refine bl_drew ?_ | refine bl_grow ?_ _ _ | refine bl_set (Nat.le_refl _) ?_ _ | refine bl_call ?_ (by assumption)))) hbd).mono ?_; rintro e w3 ⟨rfl, hb3⟩; have hB3 := blN hB2 hb3 (by simp); obtain ⟨d0, d1, d2, e0, e1, e2, hz3⟩ := res3 hB3; have k0 : w3.cell? ⟨w1.heap.size, 0, none⟩ = some (.int .i64 x.kind) := (by refine (hb3.cell (p := ⟨w1.heap.size, 0, none⟩) (by first | with_reducible assumption | (simp; done) | (simp; omega))).trans ?_; (repeat (first | with_reducible assumption | with_reducible refine cell_drew.trans ?_ | with_reducible refine (cell_set_other (by omega)).trans ?_ | with_reducible refine (cell_set_off (by omega)).trans ?_ | with_reducible refine (cell_alloc_old (by first | with_reducible assumption | (simp; done) | (simp; omega))).trans ?_ | with_reducible apply cell_set_at | (simp [go_sem]; done)))); have k1 : w3.cell? ⟨w1.heap.size, 1, none⟩ = some (.int .i64 x.n) := (by refine (hb3.cell (p := ⟨w1.heap.size, 1, none⟩) (by first | with_reducible assumption | (simp; done) | (simp; omega))).trans ?_; (repeat (first | with_reducible assumption | with_reducible refine cell_drew.trans ?_ | with_reducible refine (cell_set_other (by omega)).trans ?_ | with_reducible refine (cell_set_off (by omega)).trans ?_ | with_reducible refine (cell_alloc_old (by first | with_reducible assumption | (simp; done) | (simp; omega))).trans ?_ | with_reducible apply cell_set_at | (simp [go_sem]; done)))); have k2 : w3.cell? ⟨w1.heap.size, 2, none⟩ = some (.int .i64 x.p) := (by refine (hb3.cell (p := ⟨w1.heap.size, 2, none⟩) (by first | with_reducible assumption | (simp; done) | (simp; omega))).trans ?_; (repeat (first | with_reducible assumption | with_reducible refine cell_drew.trans ?_ | with_reducible refine (cell_set_other (by omega)).trans ?_ | with_reducible refine (cell_set_off (by omega)).trans ?_ | with_reducible refine (cell_alloc_old (by first | with_reducible assumption | (simp; done) | (simp; omega))).trans ?_ | with_reducible apply cell_set_at | (simp [go_sem]; done)))); have hyw3 : w1.heap.size < w3.heap.size := Nat.lt_of_lt_of_le (by first | with_reducible assumption | (simp; done) | (simp; omega)) hb3.size))
        refine bodyPost_ret (v := .tuple #[.agg #[.int .i64 x.kind, .int .i64 x.n, .int .i64 x.p], .bool true]) (by simp [results, Tryz.results194, go_sem, d0, d1, d2]) rfl ⟨rfl, ?_⟩
        have := dr_ret hB3
        (repeat (first | with_reducible exact Below.refl _ _ | with_reducible assumption | with_reducible refine bl_set (by first | exact Nat.le_refl _ | (simp; done) | (simp; omega) | omega) ?_ _ | with_reducible refine bl_alloc ?_ _ | with_reducible refine bl_drewN ?_ _ | with_reducible refine bl_drew ?_ | with_reducible refine bl_grow ?_ _ _ | with_reducible refine bl_call ?_ (by assumption)))
      · obtain ⟨hb, hd⟩ := read_none (l := l) (by rw [HI.out, if_neg (by simpa using ht)])
        rw [hb, hd]
        have hte : (y == l) = false := beq_eq_false_iff_ne.2 ht
        clear HI hb hd hok
        go_enter Tryz.func194, Tryz.ntmps194
        go_wp2_with (first | (go_at_call 205; refine (HGs.out _ (by (repeat (first | exact Below.refl _ _ | assumption | refine bl_alloc ?_ _ | refine bl_drewN ?_ _ | refine bl_drew ?_ | refine bl_grow ?_ _ _ | refine bl_set (Nat.le_refl _) ?_ _ | refine bl_call ?_ (by assumption))))).mono ?_; rintro e w1 ⟨d, rfl, hd, hbd, hb1⟩; have hB1 : Below (w.heap.size + 1) (w.alloc (.cells #[.int .i64 0, .int .i64 0, .int .i64 0] 74)) w1 := (by have := hb1; rw [World.size_alloc] at this; exact this); obtain ⟨d0, d1, d2, e0, e1, e2, hz1⟩ := res3 hB1; have hxd := hd x rfl; subst hxd; clear hd) | (go_at_call 98; refine (HK.out _ (by have := dr_ret hB1; (repeat (first | exact Below.refl _ _ | assumption | refine bl_alloc ?_ _ | refine bl_drewN ?_ _ | refine bl_drew ?_ | refine bl_grow ?_ _ _ | refine bl_set (Nat.le_refl _) ?_ _ | refine bl_call ?_ (by assumption)))) hbd).mono ?_; rintro e w2 ⟨rfl, hb2⟩; have hB2 := blN (blN hB1 (below_alloc _ _) (by simp)) hb2 (by simp); obtain ⟨d0, d1, d2, e0, e1, e2, hz2⟩ := res3 hB2; have k0 : w2.cell? ⟨w1.heap.size, 0, none⟩ = some (.int .i64 x.kind) := (by refine (hb2.cell (p := ⟨w1.heap.size, 0, none⟩) (by first | with_reducible assumption | (simp; done) | (simp; omega))).trans ?_; (repeat (first | with_reducible assumption | with_reducible refine cell_drew.trans ?_ | with_reducible refine (cell_set_other (by omega)).trans ?_ | with_reducible refine (cell_set_off (by omega)).trans ?_ | with_reducible refine (cell_alloc_old (by first | with_reducible assumption | (simp; done) | (simp; omega))).trans ?_ | with_reducible apply cell_set_at | (simp [go_sem]; done)))); have k1 : w2.cell? ⟨w1.heap.size, 1, none⟩ = some (.int .i64 x.n) := (by refine (hb2.cell (p := ⟨w1.heap.size, 1, none⟩) (by first | with_reducible assumption | (simp; done) | (simp; omega))).trans ?_; (repeat (first | with_reducible assumption | with_reducible refine cell_drew.trans ?_ | with_reducible refine (cell_set_other (by omega)).trans ?_ | with_reducible refine (cell_set_off (by omega)).trans ?_ | with_reducible refine (cell_alloc_old (by first | with_reducible assumption | (simp; done) | (simp; omega))).trans ?_ | with_reducible apply cell_set_at | (simp [go_sem]; done)))); have k2 : w2.cell? ⟨w1.heap.size, 2, none⟩ = some (.int .i64 x.p) := (by refine (hb2.cell (p := ⟨w1.heap.size, 2, none⟩) (by first | with_reducible assumption | (simp; done) | (simp; omega))).trans ?_; (repeat (first | with_reducible assumption | with_reducible refine cell_drew.trans ?_ | with_reducible refine (cell_set_other (by omega)).trans ?_ | with_reducible refine (cell_set_off (by omega)).trans ?_ | with_reducible refine (cell_alloc_old (by first | with_reducible assumption | (simp; done) | (simp; omega))).trans ?_ | with_reducible apply cell_set_at | (simp [go_sem]; done)))); have hyw2 : w1.heap.size < w2.heap.size := Nat.lt_of_lt_of_le (by first | with_reducible assumption | (simp; done) | (simp; omega)) hb2.size) | (go_at_call 73; refine (HT.out _ (by have := dr_ret hB2; (repeat (first | exact Below.refl _ _ | assumption | refine bl_alloc ?_ _ | refine bl_drewN ?_ _ | refine bl_drew ?_ | refine bl_grow ?_ _ _ | refine bl_set (Nat.le_refl _) ?_ _ | refine bl_call ?_ (by assumption)))) hbd).mono ?_; rintro e w3 ⟨rfl, hb3⟩; have hB3 := blN hB2 hb3 (by simp); obtain ⟨d0, d1, d2, e0, e1, e2, hz3⟩ := res3 hB3; have k0 : w3.cell? ⟨w1.heap.size, 0, none⟩ = some (.int .i64 x.kind) := (by refine (hb3.cell (p := ⟨w1.heap.size, 0, none⟩) (by first | with_reducible assumption | (simp; done) | (simp; omega))).trans ?_; (repeat (first | with_reducible assumption | with_reducible refine cell_drew.trans ?_ | with_reducible refine (cell_set_other (by omega)).trans ?_ | with_reducible refine (cell_set_off (by omega)).trans ?_ | with_reducible refine (cell_alloc_old (by first | with_reducible assumption | (simp; done) | (simp; omega))).trans ?_ | with_reducible apply cell_set_at | (simp [go_sem]; done)))); have k1 : w3.cell? ⟨w1.heap.size, 1, none⟩ = some (.int .i64 x.n) := (by refine (hb3.cell (p := ⟨w1.heap.size, 1, none⟩) (by first | with_reducible assumption | (simp; done) | (simp; omega))).trans ?_; (repeat (first | with_reducible assumption | with_reducible refine cell_drew.trans ?_ | with_reducible refine (cell_set_other (by omega)).trans ?_ | with_reducible refine (cell_set_off (by omega)).trans ?_ | with_reducible refine (cell_alloc_old (by first | with_reducible assumption | (simp; done) | (simp; omega))).trans ?_ | with_reducible apply cell_set_at | (simp [go_sem]; done)))); have k2 : w3.cell? ⟨w1.heap.size, 2, none⟩ = some (.int .i64 x.p) := (by refine (hb3.cell (p := ⟨w1.heap.size, 2, none⟩) (by first | with_reducible assumption | (simp; done) | (simp; omega))).trans ?_; (repeat (first | with_reducible assumption | with_reducible refine cell_drew.trans ?_ | with_reducible refine (cell_set_other (by omega)).trans ?_ | with_reducible refine (cell_set_off (by omega)).trans ?_ | with_reducible refine (cell_alloc_old (by first | with_reducible assumption | (simp; done) | (simp; omega))).trans ?_ | with_reducible apply cell_set_at | (simp [go_sem]; done)))); have hyw3 : w1.heap.size < w3.heap.size := Nat.lt_of_lt_of_le (by first | with_reducible assumption | (simp; done) | (simp; omega)) hb3.size))
        refine bodyPost_ret (v := .tuple #[.agg #[.int .i64 0, .int .i64 0, .int .i64 0], .bool false]) (by simp [results, Tryz.results194, go_sem, d0, d1, d2]) rfl ⟨rfl, ?_⟩
        have := dr_ret hB3
        (repeat (first | with_reducible exact Below.refl _ _ | with_reducible assumption | with_reducible refine bl_set (by first | exact Nat.le_refl _ | (simp; done) | (simp; omega) | omega) ?_ _ | with_reducible refine bl_alloc ?_ _ | with_reducible refine bl_drewN ?_ _ | with_reducible refine bl_drew ?_ | with_reducible refine bl_grow ?_ _ _ | with_reducible refine bl_call ?_ (by assumption)))
end Go.Proofs.YtipdjmbgbehkaaaGreatDoor
/- Contracts of the program's chapter 2: elemOf. -/
namespace Go.Proofs.YtipdjmbgbehkaaaGreatDoor
open Go.RowKit Go.Sort Go.BigFrame
/-- A slice of texts in memory. -/
def TextsAt (w : World) (v : Value) (ts : List (List UInt8)) : Prop := ∃ a cap, v = .slice a ts.length cap ∧ ∀ i (h : i < ts.length), ∃ b o, a = some ⟨b, o, none⟩ ∧ b < w.heap.size ∧ w.cell? ⟨b, o + i, none⟩ = some (.string ⟨ts[i].toArray⟩)
/-- A variable of a contact or coil. -/
def EBox (w : World) (b : Nat) (op : Int) (v : Value) : Prop := b < w.heap.size ∧ w.cell? ⟨b, 0, none⟩ = some (.int .i64 op) ∧ w.cell? ⟨b, 1, none⟩ = some v ∧ w.frozen? ⟨b, 0, none⟩ = false ∧ w.frozen? ⟨b, 1, none⟩ = false
theorem EBox.below {w W : World} {b : Nat} {op : Int} {v : Value} (h : EBox w b op v) (hb : Below w.heap.size w W) : EBox W b op v := by
  obtain ⟨h0, h1, h2, h3, h4⟩ := h
  exact ⟨Nat.lt_of_lt_of_le h0 hb.size, by rw [hb.cell (p := ⟨b, 0, none⟩) h0]; exact h1, by rw [hb.cell (p := ⟨b, 1, none⟩) h0]; exact h2, by rw [hb.frozen (p := ⟨b, 0, none⟩) h0]; exact h3, by rw [hb.frozen (p := ⟨b, 1, none⟩) h0]; exact h4⟩
theorem EBox.grown {w W : World} {b : Nat} {op : Int} {v : Value} {r : Option Nat} (h : EBox w b op v) (hg : w.grownBy W r) (hr : ∀ k, r = some k → b ≠ k) : EBox W b op v := by
  obtain ⟨h0, h1, h2, h3, h4⟩ := h
  have hh : W.heap[b]? = w.heap[b]? := hg.block b h0 (fun e => hr b e.symm rfl)
  exact ⟨Nat.lt_of_lt_of_le h0 hg.size, by unfold World.cell? at *; rw [hh]; exact h1, by unfold World.cell? at *; rw [hh]; exact h2, by unfold World.frozen? at *; rw [hh]; exact h3, by unfold World.frozen? at *; rw [hh]; exact h4⟩
theorem ireadAll_step (ts : List (List UInt8)) (k : Nat) (h : k < ts.length) (ds : List Stil.Dev) (hi : Stil.ireadAll ts = (Stil.ireadAll (ts.drop k)).map (ds ++ ·)) : (Stil.devReadB ts[k] = true → Stil.ireadAll ts = (Stil.ireadAll (ts.drop (k + 1))).map ((ds ++ [Stil.devRead ts[k]]) ++ ·)) ∧ (Stil.devReadB ts[k] = false → Stil.ireadAll ts = none) := by
  rw [List.drop_eq_getElem_cons h, Stil.ireadAll, Stil.idevRead_eq] at hi
  constructor
  · intro hb
    rw [hb, if_pos rfl] at hi
    rw [hi]
    simp only [Option.bind_some, Option.map_map]
    congr 1
    funext x
    simp
  · intro hb
    rw [hb] at hi
    rw [hi]
    rfl
set_option maxHeartbeats 2000000 in
set_option maxRecDepth 100000 in
theorem i_elemOf (op : Int) (v : Value) (ts : List (List UInt8)) (w : World) (hr : RowsAt w) (hw : WordsAt w) (hp : PowAt w) (hat : TextsAt w v ts) (hl : ts.length ≤ 10) (hs : ∀ x ∈ ts, x.length ≤ 1000000000) :
    Calls Tryz.prog 176 #[.int .i64 op, v] w fun e w' => ∃ rv ev, e = .returned (.tuple #[rv, ev]) ∧ ((∃ u ds, Stil.ireadAll ts = some ds ∧ rv = .agg #[.int .i64 op, u] ∧ ev = .nilIface ∧ w'.ownsRow w.heap.size 74 3 u ds.length (devsCells ds)) ∨ (Stil.ireadAll ts = none ∧ rv = .agg #[.int .i64 0, .slice none 0 0] ∧ ∃ x, ev = .iface 155 (.agg #[.string x]))) ∧ Below w.heap.size w w' := by
  obtain ⟨i0, hi, hz0, hz1, hz2⟩ := info_parts info_dev
  have HR : Hid (∀ W, Below w.heap.size w W → ∀ l : List UInt8, l.length ≤ 1000000000 → Calls Tryz.prog 194 #[.string ⟨l.toArray⟩] W fun e w' => e = .returned (.tuple #[.agg #[.int .i64 (Stil.devRead l).kind, .int .i64 (Stil.devRead l).n, .int .i64 (Stil.devRead l).p], .bool (Stil.devReadB l)]) ∧ Below W.heap.size W w') := fun W h l hl => i_devRead l W (hr.below h) (hw.below h) (hp.below h) hl
  obtain ⟨a, cap, rfl, hx⟩ := hat
  have HT : Hid (∀ i (h : i < ts.length), ∃ b o, a = some ⟨b, o, none⟩ ∧ b < w.heap.size ∧ w.cell? ⟨b, o + i, none⟩ = some (.string ⟨ts[i].toArray⟩)) := hx
  have HS : Hid (∀ x ∈ ts, x.length ≤ 1000000000) := hs
  clear hr hw hp hx hs
  go_enter Tryz.func176, Tryz.ntmps176
  go_wp2
  go_loopw [15] (fun iv wr => ∃ (k : Nat) (ds : List Stil.Dev) (u : Value), k ≤ ts.length ∧ iv = .int .i64 k ∧ ds.length = k ∧ Stil.ireadAll ts = (Stil.ireadAll (ts.drop k)).map (ds ++ ·) ∧ wr.ownsRow (w.heap.size + 2) 74 3 u k (devsCells ds) ∧ EBox wr w.heap.size 0 (.slice none 0 0) ∧ EBox wr (w.heap.size + 1) op u ∧ w.heap.size + 2 ≤ wr.heap.size ∧ Below w.heap.size w wr) (fun iv _ => ts.length - (intOf iv).toNat)
  case atStart =>
    refine ⟨0, [], .slice none 0 0, by omega, rfl, rfl, ?_, ⟨rfl, Or.inl ⟨rfl, rfl⟩⟩, ?_, ?_, by simp, by (repeat (first | exact Below.refl _ _ | assumption | refine bl_alloc ?_ _ | refine bl_drewN ?_ _ | refine bl_drew ?_ | refine bl_grow ?_ _ _ | refine bl_set (Nat.le_refl _) ?_ _ | refine bl_call ?_ (by assumption)))⟩
    · rw [List.drop_zero]; cases Stil.ireadAll ts <;> rfl
    · refine ⟨by simp; omega, ?_, ?_, ?_, ?_⟩ <;> simp [go_sem]
    · refine ⟨by simp, ?_, ?_, ?_, ?_⟩ <;> simp [go_sem]
  case round =>
    obtain ⟨k, ds, u, hk, rfl, hdl, hi2, hown, hE0, hE1, hsz, hB⟩ := hrel
    by_cases hlt : k < ts.length
    · obtain ⟨b, o, rfl, hbl, hc⟩ := HT.out k hlt
      have hc2 : wr.cell? ⟨b, o + k, none⟩ = some (.string ⟨ts[k].toArray⟩) := by rw [hB.cell (p := ⟨b, o + k, none⟩) hbl]; exact hc
      have hst := ireadAll_step ts k hlt ds hi2
      have hxl := HS.out ts[k] (List.getElem_mem hlt)
      obtain ⟨x, hx⟩ : ∃ x, x = ts[k] := ⟨_, rfl⟩
      rw [← hx] at hc2 hst hxl
      have HE0 : Hid (EBox wr w.heap.size 0 (.slice none 0 0)) := hE0
      have HE1 : Hid (EBox wr (w.heap.size + 1) op u) := hE1
      have HO : Hid (wr.ownsRow (w.heap.size + 2) 74 3 u k (devsCells ds)) := hown
      clear hx hc hi2 hown hE0 hE1
      cases hrb : Stil.devReadB x
      · have HN : Hid (Stil.ireadAll ts = none) := hst.2 hrb
        clear hst
        have HRx : Hid (∀ W, Below w.heap.size w W → Calls Tryz.prog 194 #[.string ⟨x.toArray⟩] W fun e w' => e = .returned (.tuple #[.agg #[.int .i64 (Stil.devRead x).kind, .int .i64 (Stil.devRead x).n, .int .i64 (Stil.devRead x).p], .bool false]) ∧ Below W.heap.size W w') := fun W h => by have := HR.out W h x hxl; rwa [hrb] at this
        go_wp2_with (go_at_call 194; refine (HRx.out _ (by (repeat (first | exact Below.refl _ _ | assumption | refine bl_alloc ?_ _ | refine bl_drewN ?_ _ | refine bl_drew ?_ | refine bl_grow ?_ _ _ | refine bl_set (Nat.le_refl _) ?_ _ | refine bl_call ?_ (by assumption))))).mono ?_; rintro e w1 ⟨rfl, hb1⟩; obtain ⟨y0, y1, y2, y3, y4⟩ := HE0.out.below hb1)
        refine bodyPost_ret (v := .tuple #[.agg #[.int .i64 0, .slice none 0 0], .iface 155 (.agg #[.string ⟨x.toArray⟩])]) (by simp [results, Tryz.results176, go_sem, y1, y2, y0]) rfl ?_
        exact ⟨_, _, rfl, Or.inr ⟨HN.out, rfl, _, rfl⟩, by (repeat (first | with_reducible exact Below.refl _ _ | with_reducible assumption | with_reducible refine bl_set (by first | exact Nat.le_refl _ | (simp; done) | (simp; omega) | omega) ?_ _ | with_reducible refine bl_alloc ?_ _ | with_reducible refine bl_drewN ?_ _ | with_reducible refine bl_drew ?_ | with_reducible refine bl_grow ?_ _ _ | with_reducible refine bl_call ?_ (by assumption)))⟩
      · have HN := hst.1 hrb
        clear hst
        have HRx : Hid (∀ W, Below w.heap.size w W → Calls Tryz.prog 194 #[.string ⟨x.toArray⟩] W fun e w' => e = .returned (.tuple #[.agg #[.int .i64 (Stil.devRead x).kind, .int .i64 (Stil.devRead x).n, .int .i64 (Stil.devRead x).p], .bool true]) ∧ Below W.heap.size W w') := fun W h => by have := HR.out W h x hxl; rwa [hrb] at this
        obtain ⟨d, hd⟩ : ∃ d, d = Stil.devRead x := ⟨_, rfl⟩
        rw [← hd] at HRx HN
        have HN2 : Hid (Stil.ireadAll ts = (Stil.ireadAll (ts.drop (k + 1))).map ((ds ++ [d]) ++ ·)) := HN
        clear HN hd
        go_wp2_with (first | (go_at_call 194; refine (HRx.out _ (by (repeat (first | exact Below.refl _ _ | assumption | refine bl_alloc ?_ _ | refine bl_drewN ?_ _ | refine bl_drew ?_ | refine bl_grow ?_ _ _ | refine bl_set (Nat.le_refl _) ?_ _ | refine bl_call ?_ (by assumption))))).mono ?_; rintro e w1 ⟨rfl, hb1⟩; have hO1 := ownsRow_below HO.out hb1; obtain ⟨y0, y1, y2, y3, y4⟩ := HE1.out.below hb1) | (at_builtin; refine wpList_append_own _ rfl _ _ 27 rfl (w.heap.size + 2) 74 i0 (.agg #[.int .i64 0, .int .i64 0, .int .i64 0]) 3 24 Tryz.underlying27 hi hz0 hz1 hz2 rfl (by decide) _ _ _ rfl ((hO1.alloc _).alloc _) ⟨w1.heap.size + 1, 0, none⟩ 1 1 (devCells d) rfl rfl ?c1 ?c2 ?c3 ?c4 ?c5 ?_))
        case c1 => exact cells_new _ (devCells d) _ _ (by simp)
        case c2 => intro z hz; simp [devCells] at hz; rcases hz with rfl | rfl | rfl <;> rfl
        case c3 => unfold maxLen; omega
        case c4 => omega
        case c5 => have := hb1.size; simp; omega
        intro v' w3 hown' hgrow _
        obtain ⟨b6, cap6, rfl, hb6, hb7, _, _⟩ := ownsRow_cells hown' (by omega)
        have hbb : Below w.heap.size w ((w1.alloc (.cells #[.int .i64 d.kind, .int .i64 d.n, .int .i64 d.p] 74)).alloc (.cells #[.int .i64 d.kind, .int .i64 d.n, .int .i64 d.p] 74)) := bl_alloc (bl_alloc (bl_call hB hb1) _) _
        have hlow : ∀ j, u.ownBlock = some j → w.heap.size + 2 ≤ j := fun j hj => (hO1.lt j hj).1
        have hB3 : Below w.heap.size w w3 := hbb.grown hgrow hbb.size (fun j hj => by have := hlow j hj; omega)
        have hX0 : EBox w3 w.heap.size 0 (.slice none 0 0) := (((HE0.out.below hb1).below (below_alloc _ _)).below (below_alloc _ _)).grown hgrow (fun j hj => by have := hlow j hj; omega)
        have hX1 : EBox w3 (w.heap.size + 1) op u := (((HE1.out.below hb1).below (below_alloc _ _)).below (below_alloc _ _)).grown hgrow (fun j hj => by have := hlow j hj; omega)
        have hX1' := hX1
        obtain ⟨z0, z1, z2, z3, z4⟩ := hX1'
        clear hgrow hO1 hbb y0 y1 y2 y3 y4
        go_wp2
        refine ⟨⟨k + 1, ds ++ [d], .slice (some ⟨b6, 0, none⟩) (k + 1) cap6, by omega, by go_num, by simp [hdl], HN2.out, ?_, ?_, ?_, ?_, ?_⟩, by simp [intOf]; omega⟩
        · rw [devsCells_snoc]; exact ownsRow_setCell_below hown' (Nat.lt_succ_self _) _
        · obtain ⟨a0, a1, a2, a3, a4⟩ := hX0
          refine ⟨by simpa using a0, ?_, ?_, ?_, ?_⟩ <;> simp [go_sem, a1, a2, a3, a4]
        · refine ⟨by simpa using z0, ?_, ?_, ?_, ?_⟩ <;> simp [go_sem, z1, z2, z3, z4]
        · simp; omega
        · exact bl_set (by simp) hB3 _
    · have hE1' := hE1
      obtain ⟨z0, z1, z2, z3, z4⟩ := hE1'
      have hE0' := hE0
      obtain ⟨y0, y1, y2, y3, y4⟩ := hE0'
      have HI : Hid (Stil.ireadAll ts = some ds) := by
        show _ = _
        rw [hi2, List.drop_eq_nil_of_le (by omega)]
        simp [Stil.ireadAll]
      have HO : Hid (wr.ownsRow (w.heap.size + 2) 74 3 u ds.length (devsCells ds)) := by rw [hdl]; exact hown
      clear hi2 hown
      obtain ⟨ua, un, uc, rfl⟩ : ∃ ua un uc, u = .slice ua un uc := by
        rcases HO.out.2 with ⟨h0, _⟩ | ⟨g, c, cur, h0, _⟩
        · exact ⟨_, _, _, h0⟩
        · exact ⟨_, _, _, h0⟩
      go_wp2
      refine bodyPost_ret (v := .tuple #[.agg #[.int .i64 op, .slice ua un uc], .nilIface]) (by simp [results, Tryz.results176, go_sem, y1, y2]) rfl ?_
      exact ⟨_, _, rfl, Or.inl ⟨_, ds, HI.out, rfl, rfl, Joins.ownsRow_le (ownsRow_setCell_below (ownsRow_setCell_below HO.out (show w.heap.size < w.heap.size + 2 by omega) _) (show w.heap.size < w.heap.size + 2 by omega) _) (by omega)⟩, by (repeat (first | with_reducible exact Below.refl _ _ | with_reducible assumption | with_reducible refine bl_set (by first | exact Nat.le_refl _ | (simp; done) | (simp; omega) | omega) ?_ _ | with_reducible refine bl_alloc ?_ _ | with_reducible refine bl_drewN ?_ _ | with_reducible refine bl_drew ?_ | with_reducible refine bl_grow ?_ _ _ | with_reducible refine bl_call ?_ (by assumption)))⟩
end Go.Proofs.YtipdjmbgbehkaaaGreatDoor
/- Contracts of the program's chapter 2: elemFind. -/
namespace Go.Proofs.YtipdjmbgbehkaaaGreatDoor
open Go.RowKit Go.Sort Go.BigFrame
set_option maxRecDepth 100000 in
theorem ixRow38 (k : Nat) (h : k < 38) (w : World) : Sem.run Tryz.prog (Instr.index 137 (.agg rowsList.toArray) (.int .i64 k)) w = .ok (rowVal (rowOf k)) w := by
  have hk : k = 0 ∨ k = 1 ∨ k = 2 ∨ k = 3 ∨ k = 4 ∨ k = 5 ∨ k = 6 ∨ k = 7 ∨ k = 8 ∨ k = 9 ∨ k = 10 ∨ k = 11 ∨ k = 12 ∨ k = 13 ∨ k = 14 ∨ k = 15 ∨ k = 16 ∨ k = 17 ∨ k = 18 ∨ k = 19 ∨ k = 20 ∨ k = 21 ∨ k = 22 ∨ k = 23 ∨ k = 24 ∨ k = 25 ∨ k = 26 ∨ k = 27 ∨ k = 28 ∨ k = 29 ∨ k = 30 ∨ k = 31 ∨ k = 32 ∨ k = 33 ∨ k = 34 ∨ k = 35 ∨ k = 36 ∨ k = 37 := by omega
  rcases hk with rfl | rfl | rfl | rfl | rfl | rfl | rfl | rfl | rfl | rfl | rfl | rfl | rfl | rfl | rfl | rfl | rfl | rfl | rfl | rfl | rfl | rfl | rfl | rfl | rfl | rfl | rfl | rfl | rfl | rfl | rfl | rfl | rfl | rfl | rfl | rfl | rfl | rfl <;> first | kernel_rfl | (show _ = _; kernel_rfl)
theorem rowWord38 : ∀ k : Nat, k < 38 → (rowOf (k : Int)).1 = Stil.wordOf k := by
  have all : ∀ k : Fin 38, (rowOf ((k : Nat) : Int)).1 = Stil.wordOf k := by decide +kernel
  exact fun k h => all ⟨k, h⟩
set_option maxHeartbeats 2000000 in
set_option maxRecDepth 100000 in
theorem i_findCoil (x : List UInt8) (w : World) :
    Calls Tryz.prog 175 #[.string ⟨x.toArray⟩, .func (.func 72) #[] #[]] w fun e w' => e = .returned (.int .i64 (Stil.findCoil x : Nat)) ∧ Below w.heap.size w w' := by
  have hst := run_store_fnv
  go_enter Tryz.func175, Tryz.ntmps175
  go_wp2_with (go_at_call 102; refine (i_rows _).mono ?_; rintro e w1 ⟨rfl, hb1⟩)
  obtain ⟨tab, htab⟩ : ∃ tab, tab = rowsList.toArray := ⟨_, rfl⟩
  have HIX : Hid (∀ (k : Nat) (_ : k < 38) (W : World), Sem.run Tryz.prog (Instr.index 137 (.agg tab) (.int .i64 k)) W = .ok (rowVal (rowOf k)) W) := fun k h W => by rw [htab]; exact ixRow38 k h W
  rw [← htab]
  clear htab
  go_loopw [8] (fun v wr => ∃ k : Nat, k ≤ 38 ∧ v = .int .i64 k ∧ Stil.findCoil x = Stil.findOp Stil.coilOp x (38 - k) k ∧ Below w.heap.size w wr) (fun v _ => 38 - (intOf v).toNat)
  case atStart => exact ⟨0, by omega, rfl, rfl, hb1⟩
  case round =>
    clear hb1
    obtain ⟨k, hk, rfl, hg, hB⟩ := hrel
    by_cases hlt : k < 38
    · have hix := HIX.out k hlt
      have hword := rowWord38 k hlt
      have HP : Hid (∀ W, Calls Tryz.prog 72 #[.int .i64 k] W fun e w' => e = .returned (.bool (Stil.coilOp k)) ∧ w' = W) := fun W => by
        have h := i_isCoilOp k W
        have e : decide ((21 : Int) ≤ (k : Int) ∧ (k : Int) ≤ 37) = Stil.coilOp k := by
          unfold Stil.coilOp
          rw [Bool.eq_iff_iff]
          simp only [decide_eq_true_eq]
          omega
        rw [e] at h
        exact h
      have hg2 : Stil.findCoil x = if Stil.coilOp k && Stil.wordOf k == x then k else Stil.findOp Stil.coilOp x (38 - (k + 1)) (k + 1) := by
        rw [hg, show 38 - k = (38 - (k + 1)) + 1 from by omega, Stil.findOp]
      unfold rowVal at hix
      rw [hword] at hix
      obtain ⟨r, hr⟩ : ∃ r, r = rowOf (k : Int) := ⟨_, rfl⟩
      rw [← hr] at hix
      obtain ⟨y, hy⟩ : ∃ y, y = Stil.wordOf k := ⟨_, rfl⟩
      rw [← hy] at hix hg2
      obtain ⟨n0, h0⟩ : ∃ n, n = r.2.1 := ⟨_, rfl⟩
      obtain ⟨n1, h1⟩ : ∃ n, n = r.2.2.1.getD 0 0 := ⟨_, rfl⟩
      obtain ⟨n2, h2⟩ : ∃ n, n = r.2.2.1.getD 1 0 := ⟨_, rfl⟩
      obtain ⟨n3, h3⟩ : ∃ n, n = r.2.2.1.getD 2 0 := ⟨_, rfl⟩
      obtain ⟨n4, h4⟩ : ∃ n, n = r.2.2.2.getD 0 0 := ⟨_, rfl⟩
      obtain ⟨n5, h5⟩ : ∃ n, n = r.2.2.2.getD 1 0 := ⟨_, rfl⟩
      obtain ⟨n6, h6⟩ : ∃ n, n = r.2.2.2.getD 2 0 := ⟨_, rfl⟩
      rw [← h0, ← h1, ← h2, ← h3, ← h4, ← h5, ← h6] at hix
      clear hg hword hr hy h0 h1 h2 h3 h4 h5 h6 HIX
      cases hp : Stil.coilOp k
      · rw [hp] at HP hg2
        have HG2 : Hid (Stil.findCoil x = Stil.findOp Stil.coilOp x (38 - (k + 1)) (k + 1)) := by show _ = _; rw [hg2]; rfl
        clear hg2
        go_wp2_with (go_at_call 72; refine (HP.out _).mono ?_; rintro e w2 ⟨rfl, rfl⟩)
        exact ⟨⟨k + 1, by omega, by go_num, HG2.out, by (repeat (first | exact Below.refl _ _ | assumption | refine bl_alloc ?_ _ | refine bl_drewN ?_ _ | refine bl_drew ?_ | refine bl_grow ?_ _ _ | refine bl_set (Nat.le_refl _) ?_ _ | refine bl_call ?_ (by assumption)))⟩, by simp [intOf]; omega⟩
      · rw [hp, Bool.true_and] at hg2
        rw [hp] at HP
        cases he : (y == x)
        · rw [he] at hg2
          have HG2 : Hid (Stil.findCoil x = Stil.findOp Stil.coilOp x (38 - (k + 1)) (k + 1)) := by show _ = _; rw [hg2]; rfl
          clear hg2
          go_wp2_with (go_at_call 72; refine (HP.out _).mono ?_; rintro e w2 ⟨rfl, rfl⟩)
          exact ⟨⟨k + 1, by omega, by go_num, HG2.out, by (repeat (first | exact Below.refl _ _ | assumption | refine bl_alloc ?_ _ | refine bl_drewN ?_ _ | refine bl_drew ?_ | refine bl_grow ?_ _ _ | refine bl_set (Nat.le_refl _) ?_ _ | refine bl_call ?_ (by assumption)))⟩, by simp [intOf]; omega⟩
        · rw [he] at hg2
          have HG2 : Hid (Stil.findCoil x = k) := by show _ = _; rw [hg2]; rfl
          clear hg2
          have hyx : y = x := beq_iff_eq.1 he
          clear he
          subst hyx
          go_wp2_with (go_at_call 72; refine (HP.out _).mono ?_; rintro e w2 ⟨rfl, rfl⟩)
          go_ret
          exact ⟨ret_int (by rw [HG2.out]), by (repeat (first | exact Below.refl _ _ | assumption | refine bl_alloc ?_ _ | refine bl_drewN ?_ _ | refine bl_drew ?_ | refine bl_grow ?_ _ _ | refine bl_set (Nat.le_refl _) ?_ _ | refine bl_call ?_ (by assumption)))⟩
    · have HG2 : Hid (Stil.findCoil x = 0) := by show _ = _; rw [hg, show 38 - k = 0 from by omega]; rfl
      clear hg
      go_wp2
      go_ret
      exact ⟨ret_int (by rw [HG2.out]; rfl), by (repeat (first | exact Below.refl _ _ | assumption | refine bl_alloc ?_ _ | refine bl_drewN ?_ _ | refine bl_drew ?_ | refine bl_grow ?_ _ _ | refine bl_set (Nat.le_refl _) ?_ _ | refine bl_call ?_ (by assumption)))⟩
set_option maxHeartbeats 2000000 in
set_option maxRecDepth 100000 in
theorem i_findContact (x : List UInt8) (w : World) :
    Calls Tryz.prog 175 #[.string ⟨x.toArray⟩, .func (.func 70) #[] #[]] w fun e w' => e = .returned (.int .i64 (Stil.findContact x : Nat)) ∧ Below w.heap.size w w' := by
  have hst := run_store_fnv
  go_enter Tryz.func175, Tryz.ntmps175
  go_wp2_with (go_at_call 102; refine (i_rows _).mono ?_; rintro e w1 ⟨rfl, hb1⟩)
  obtain ⟨tab, htab⟩ : ∃ tab, tab = rowsList.toArray := ⟨_, rfl⟩
  have HIX : Hid (∀ (k : Nat) (_ : k < 38) (W : World), Sem.run Tryz.prog (Instr.index 137 (.agg tab) (.int .i64 k)) W = .ok (rowVal (rowOf k)) W) := fun k h W => by rw [htab]; exact ixRow38 k h W
  rw [← htab]
  clear htab
  go_loopw [8] (fun v wr => ∃ k : Nat, k ≤ 38 ∧ v = .int .i64 k ∧ Stil.findContact x = Stil.findOp Stil.contactOp x (38 - k) k ∧ Below w.heap.size w wr) (fun v _ => 38 - (intOf v).toNat)
  case atStart => exact ⟨0, by omega, rfl, rfl, hb1⟩
  case round =>
    clear hb1
    obtain ⟨k, hk, rfl, hg, hB⟩ := hrel
    by_cases hlt : k < 38
    · have hix := HIX.out k hlt
      have hword := rowWord38 k hlt
      have HP : Hid (∀ W, Calls Tryz.prog 70 #[.int .i64 k] W fun e w' => e = .returned (.bool (Stil.contactOp k)) ∧ w' = W) := fun W => by
        have h := i_isContactOp k W
        have e : decide ((1 : Int) ≤ (k : Int) ∧ (k : Int) ≤ 10) = Stil.contactOp k := by
          unfold Stil.contactOp
          rw [Bool.eq_iff_iff]
          simp only [decide_eq_true_eq]
          omega
        rw [e] at h
        exact h
      have hg2 : Stil.findContact x = if Stil.contactOp k && Stil.wordOf k == x then k else Stil.findOp Stil.contactOp x (38 - (k + 1)) (k + 1) := by
        rw [hg, show 38 - k = (38 - (k + 1)) + 1 from by omega, Stil.findOp]
      unfold rowVal at hix
      rw [hword] at hix
      obtain ⟨r, hr⟩ : ∃ r, r = rowOf (k : Int) := ⟨_, rfl⟩
      rw [← hr] at hix
      obtain ⟨y, hy⟩ : ∃ y, y = Stil.wordOf k := ⟨_, rfl⟩
      rw [← hy] at hix hg2
      obtain ⟨n0, h0⟩ : ∃ n, n = r.2.1 := ⟨_, rfl⟩
      obtain ⟨n1, h1⟩ : ∃ n, n = r.2.2.1.getD 0 0 := ⟨_, rfl⟩
      obtain ⟨n2, h2⟩ : ∃ n, n = r.2.2.1.getD 1 0 := ⟨_, rfl⟩
      obtain ⟨n3, h3⟩ : ∃ n, n = r.2.2.1.getD 2 0 := ⟨_, rfl⟩
      obtain ⟨n4, h4⟩ : ∃ n, n = r.2.2.2.getD 0 0 := ⟨_, rfl⟩
      obtain ⟨n5, h5⟩ : ∃ n, n = r.2.2.2.getD 1 0 := ⟨_, rfl⟩
      obtain ⟨n6, h6⟩ : ∃ n, n = r.2.2.2.getD 2 0 := ⟨_, rfl⟩
      rw [← h0, ← h1, ← h2, ← h3, ← h4, ← h5, ← h6] at hix
      clear hg hword hr hy h0 h1 h2 h3 h4 h5 h6 HIX
      cases hp : Stil.contactOp k
      · rw [hp] at HP hg2
        have HG2 : Hid (Stil.findContact x = Stil.findOp Stil.contactOp x (38 - (k + 1)) (k + 1)) := by show _ = _; rw [hg2]; rfl
        clear hg2
        go_wp2_with (go_at_call 70; refine (HP.out _).mono ?_; rintro e w2 ⟨rfl, rfl⟩)
        exact ⟨⟨k + 1, by omega, by go_num, HG2.out, by (repeat (first | exact Below.refl _ _ | assumption | refine bl_alloc ?_ _ | refine bl_drewN ?_ _ | refine bl_drew ?_ | refine bl_grow ?_ _ _ | refine bl_set (Nat.le_refl _) ?_ _ | refine bl_call ?_ (by assumption)))⟩, by simp [intOf]; omega⟩
      · rw [hp, Bool.true_and] at hg2
        rw [hp] at HP
        cases he : (y == x)
        · rw [he] at hg2
          have HG2 : Hid (Stil.findContact x = Stil.findOp Stil.contactOp x (38 - (k + 1)) (k + 1)) := by show _ = _; rw [hg2]; rfl
          clear hg2
          go_wp2_with (go_at_call 70; refine (HP.out _).mono ?_; rintro e w2 ⟨rfl, rfl⟩)
          exact ⟨⟨k + 1, by omega, by go_num, HG2.out, by (repeat (first | exact Below.refl _ _ | assumption | refine bl_alloc ?_ _ | refine bl_drewN ?_ _ | refine bl_drew ?_ | refine bl_grow ?_ _ _ | refine bl_set (Nat.le_refl _) ?_ _ | refine bl_call ?_ (by assumption)))⟩, by simp [intOf]; omega⟩
        · rw [he] at hg2
          have HG2 : Hid (Stil.findContact x = k) := by show _ = _; rw [hg2]; rfl
          clear hg2
          have hyx : y = x := beq_iff_eq.1 he
          clear he
          subst hyx
          go_wp2_with (go_at_call 70; refine (HP.out _).mono ?_; rintro e w2 ⟨rfl, rfl⟩)
          go_ret
          exact ⟨ret_int (by rw [HG2.out]), by (repeat (first | exact Below.refl _ _ | assumption | refine bl_alloc ?_ _ | refine bl_drewN ?_ _ | refine bl_drew ?_ | refine bl_grow ?_ _ _ | refine bl_set (Nat.le_refl _) ?_ _ | refine bl_call ?_ (by assumption)))⟩
    · have HG2 : Hid (Stil.findContact x = 0) := by show _ = _; rw [hg, show 38 - k = 0 from by omega]; rfl
      clear hg
      go_wp2
      go_ret
      exact ⟨ret_int (by rw [HG2.out]; rfl), by (repeat (first | exact Below.refl _ _ | assumption | refine bl_alloc ?_ _ | refine bl_drewN ?_ _ | refine bl_drew ?_ | refine bl_grow ?_ _ _ | refine bl_set (Nat.le_refl _) ?_ _ | refine bl_call ?_ (by assumption)))⟩
end Go.Proofs.YtipdjmbgbehkaaaGreatDoor
