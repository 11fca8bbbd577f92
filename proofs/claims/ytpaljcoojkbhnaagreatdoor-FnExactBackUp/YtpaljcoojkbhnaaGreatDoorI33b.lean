/- A range over a function that keeps a reader of its own: rounds that always go on, each with a value that was made since the last one. -/
import Derived.Test.YtpaljcoojkbhnaaGreatDoorI33
import Derived.Maps.OwnIn
namespace Go.Proofs.YtpaljcoojkbhnaaGreatDoor
open Go.RowKit Go.Sort Go.BigFrame Go.Shelf
theorem grown_block {A W : World} {P k : Nat} (h : A.grownBy W (some P)) (hk : k < A.heap.size) (hne : k ≠ P) : W.heap[k]? = A.heap[k]? := h.block k hk (fun e => by injection e with e; exact hne e)
/-- The record of the loop lies in the block behind w's last but one, the rounds' deferred calls in the one ahead of it; the function's own reader in the next. -/
theorem range_own {α : Type} {P : Program} {g : Operand} {ps : Array Tmp} {assign body : Code} {Q : Exit → Act → World → Prop} {a : Act} {w : World} {n gf : Nat} {lb : Array Value}
  (hg : a.eval g = .func (.func gf) #[] lb) (eg : ∀ args w, (callFunc gf args).run P w = .ok (.enter gf args) w) (enc : α → Value) (hps : ps.size = 1)
  (I : List α → World → Prop) (S : List α → Prop) (Pre : List α → α → World → World → Prop) (Kp : World → World → Prop)
  (h0 : ∀ W, W.heap.size = w.heap.size + 2 → Below w.heap.size w W → I [] W)
  (hseq : ∀ (J : List α → World → Prop) (W : World), W.heap.size = w.heap.size + 2 → Below w.heap.size w W → J [] W →
   (∀ pre x A W1, J pre A → A.grownBy W1 (some W.heap.size) → Pre pre x A W1 → YieldAt Fence.wide (n - 1 - 1) P (w.heap.size + 1) #[enc x] W1 fun e W' => e = .returned (.bool true) ∧ J (pre ++ [x]) W' ∧ Kp W1 W') →
   CallsIn Fence.wide (n - 1) P gf (#[.func (.yield (w.heap.size + 1)) #[] #[]] ++ lb) W fun e W' => (∃ v, e = .returned v) ∧ ∃ ys A, S ys ∧ J ys A ∧ A.grownBy W' (some W.heap.size))
  (hround : ∀ pre x A W1 (r' : Loop), I pre A → w.heap.size + 1 < A.heap.size → A.grownBy W1 (some (w.heap.size + 2)) → Pre pre x A W1 → (∃ r, W1.heap[w.heap.size + 1]? = some (.loop r)) → W1.heap[w.heap.size]? = some (.deferred (some [])) →
   assign.wpIn (Fence.wide.inRound (w.heap.size + 1)) (n - 1 - 1) P (Exit.then (fun a₁ Wa => Wa.heap[w.heap.size + 1]? = W1.heap[w.heap.size + 1]? ∧
    body.wpIn (Fence.wide.inRound (w.heap.size + 1)) (n - 1 - 1) P (fun e _ W' => e = .normal ∧ W'.heap[w.heap.size + 1]? = (Wa.putObj (w.heap.size + 1) (.loop r')).heap[w.heap.size + 1]? ∧ W'.heap[w.heap.size]? = some (.deferred (some [])) ∧ ∀ r'', I (pre ++ [x]) (W'.putObj (w.heap.size + 1) (.loop r'')) ∧ Kp W1 (W'.putObj (w.heap.size + 1) (.loop r''))) a₁ (Wa.putObj (w.heap.size + 1) (.loop r'))) (fun _ _ _ => False))
    { tmps := (ps.zip #[enc x]).foldl (fun t (p, v) => t.setIfInBounds p v) a.tmps, defers := [] } W1)
  (hdone : ∀ ys A W W', S ys → I ys A → A.grownBy W (some (w.heap.size + 2)) → (∃ r, W' = W.putObj (w.heap.size + 1) (.loop r)) → W'.heap[w.heap.size]? = some (.deferred (some [])) → Q .normal { a with defers := { target := .collected w.heap.size, args := #[] } :: a.defers } W') :
  (Code.rangeFunc g ps assign body).wpIn Fence.wide n P Q a w := by
 refine wpIn_rangeFunc fun fn hfn => ?_
 obtain ⟨R, hR⟩ : ∃ R : LoopState → Option Code → Loop, R = fun st pe => { state := st, pending := pe, fn := fn, tmps := a.tmps, params := ps, assign := assign, body := body, defers := w.heap.size } := ⟨_, rfl⟩
 obtain ⟨W0, hW0⟩ : ∃ W0, W0 = (w.alloc (.deferred (some []))).alloc (.loop (R .ready none)) := ⟨_, rfl⟩
 have hs0 : W0.heap.size = w.heap.size + 2 := by rw [hW0]; simp
 have hb0 : Below w.heap.size w W0 := by rw [hW0]; exact (below_alloc _ _).trans ((below_alloc _ _).mono (by simp))
 have hl0 : W0.heap[w.heap.size + 1]? = some (.loop (R .ready none)) := by
  have h := World.alloc_heap_new (w.alloc (.deferred (some []))) (.loop (R .ready none))
  rw [World.size_alloc] at h
  rw [hW0]; exact h
 have hd0 : W0.heap[w.heap.size]? = some (.deferred (some [])) := by
  have h := (below_alloc (w.alloc (.deferred (some []))) (.loop (R .ready none))).block w.heap.size (by simp)
  rw [hW0]
  exact h.trans (World.alloc_heap_new w _)
 refine ⟨w.heap.size + 1, [{ target := .collected w.heap.size, args := #[] }], W0, { target := .fn (.func gf) lb, args := #[.func (.yield (w.heap.size + 1)) #[] #[]] }, W0, gf, #[.func (.yield (w.heap.size + 1)) #[] #[]] ++ lb, W0, ?_, ?_, fun _ _ => trivial, ?_, (fun h => by cases h), ?_⟩
 ·rw [hW0, hR]; exact run_enterLoop_outer _ _ _ _ _
 ·simp only [resolve, hg]
  simp [go_sem]
 ·simp [invoke, go_sem, eg]
 ·refine (hseq (fun pre W => I pre W ∧ W.heap[w.heap.size + 1]? = some (.loop (R .ready none)) ∧ W.heap[w.heap.size]? = some (.deferred (some []))) W0 hs0 hb0 ⟨h0 W0 hs0 hb0, hl0, hd0⟩ ?_).mono ?_
  ·rintro pre x A W1 ⟨hi, hl, hd⟩ hgr hpre
   rw [hs0] at hgr
   have hlt : w.heap.size + 1 < A.heap.size := (Array.getElem?_eq_some_iff.1 hl).1
   have hl1 : W1.heap[w.heap.size + 1]? = some (.loop (R .ready none)) := (grown_block hgr hlt (by omega)).trans hl
   have hd1 : W1.heap[w.heap.size]? = some (.deferred (some [])) := (grown_block hgr (by omega) (by omega)).trans hd
   have hy := run_yield (P := P) (args := #[enc x]) hl1 (by rw [hR]; exact hps.symm)
   rw [hR] at hy
   refine ⟨fn, _, assign, body, hy, roundIn_of_wpIn hfn ?_⟩
   refine wpIn_mono (hround pre x A W1 { R .ready none with state := .busy } hi hlt hgr hpre ⟨_, hl1⟩ hd1) ?_
   rintro e a2 Wa hp
   cases e with
   | normal =>
    obtain ⟨hla, hbody⟩ := hp
    rw [hl1] at hla
    have hla2 : w.heap.size + 1 < Wa.heap.size := (Array.getElem?_eq_some_iff.1 hla).1
    refine ⟨_, run_beginRound hla (by rw [hR]), wpIn_mono hbody ?_⟩
    rintro e3 a3 W3 ⟨rfl, hl3, hd3, hall⟩
    have hl3' : W3.heap[w.heap.size + 1]? = some (.loop { R .ready none with state := .busy }) := hl3.trans (World.putObj_heap_same hla2)
    have hend := run_endRound (P := P) none hl3'
    have hlt3 : w.heap.size + 1 < W3.heap.size := (Array.getElem?_eq_some_iff.1 hl3').1
    refine ⟨_, _, hend, rfl, ⟨(hall _).1, ?_, ?_⟩, (hall _).2⟩
    ·rw [hR]; exact World.putObj_heap_same hlt3
    ·exact (World.putObj_heap_other (by omega)).trans hd3
   | ret => exact hp.elim
   | exit id => exact hp.elim
   | goto t => exact hp.elim
   | panic ch => exact hp.elim
   | outgrown => exact hp.elim
  ·rintro e W2 ⟨⟨v, rfl⟩, ys, A, hS, ⟨hi, hl, hd⟩, hgr⟩
   rw [hs0] at hgr
   have hlt : w.heap.size + 1 < A.heap.size := (Array.getElem?_eq_some_iff.1 hl).1
   have hl2 : W2.heap[w.heap.size + 1]? = some (.loop (R .ready none)) := (grown_block hgr hlt (by omega)).trans hl
   have hd2 : W2.heap[w.heap.size]? = some (.deferred (some [])) := (grown_block hgr (by omega) (by omega)).trans hd
   have hend := run_endLoop (P := P) hl2 (by rw [hR]; simp)
   rw [hR] at hend
   exact ⟨none, _, hend, hdone ys A W2 _ hS hi hgr ⟨_, rfl⟩ ((World.putObj_heap_other (by omega)).trans hd2)⟩
end Go.Proofs.YtpaljcoojkbhnaaGreatDoor
