/- Ladders that were drawn: the functions over them, in one form. -/
import Derived.Test.YtenoanhonjdpjaaGreatDoorG4
import Derived.Test.YtenoanhonjdpjaaGreatDoorGH
import Derived.Test.YtenoanhonjdpjaaGreatDoorGV
import Derived.Test.YtenoanhonjdpjaaGreatDoorGY
import Derived.Test.YtenoanhonjdpjaaGreatDoorGO
import Derived.Test.YtenoanhonjdpjaaGreatDoorGN
import Derived.Test.YtenoanhonjdpjaaGreatDoorGU
namespace Go.Proofs.YtenoanhonjdpjaaGreatDoor
open Go.RowKit Go.Sort Go.BigFrame
/-- A ladder that a value stands for, from a world on; nothing in it is great. -/
def Lad (w : World) (v : Value) (l : List Stil.Arm) : Prop := ArmsAt w v l ∧ (∀ x ∈ l, Stil.armFits x) ∧ l.length ≤ 1048576 ∧ Stil.treeSize l ≤ 1000000000 ∧ (∀ d, Stil.treeUses d l ≤ 4194304)
theorem Lad.below {w W : World} {v : Value} {l : List Stil.Arm} (h : Lad w v l) (hb : Below w.heap.size w W) : Lad W v l := ⟨h.1.below hb, h.2⟩
theorem sum_cap {α : Type} (f : α → Nat) (l : List α) (N : Nat) (h : ∀ x ∈ l, f x ≤ N) : (l.map f).sum ≤ l.length * N := by
  induction l with
  | nil => simp
  | cons x r ih =>
    have h1 := h x (by simp)
    have h2 := ih (fun y hy => h y (by simp [hy]))
    rw [List.map_cons, List.sum_cons, List.length_cons, Nat.add_mul]
    omega
theorem lad_of {w : World} {v : Value} {l : List Stil.Arm} {N k : Nat} (h : ArmsAt w v l) (ht : ∀ a ∈ l, ATame a ∧ Stil.armSz a ≤ N) (hl : l.length ≤ k) (hN : N ≤ 10000) (hk : k ≤ 300) : Lad w v l := by
  have hb : ∀ x ∈ l, Stil.armFits x := fun x hx => Stil.armFits_of x (ATame.wf x (ht x hx).1 (by have := (ht x hx).2; omega)) (by have := (ht x hx).2; omega)
  refine ⟨h, hb, by omega, ?_, fun d => ?_⟩
  · have h1 : Stil.treeSize l ≤ l.length * 20002 := sum_cap Stil.armSize l 20002 fun x hx => by
      have := Stil.armSize_le x
      have := (ht x hx).2
      omega
    have h2 : l.length * 20002 ≤ 300 * 20002 := Nat.mul_le_mul_right _ (by omega)
    omega
  · have h1 : Stil.treeUses d l ≤ l.length * 10000 := sum_cap (Stil.armUses d) l 10000 fun x hx => by
      have := Stil.armUses_le d x
      have := (ht x hx).2
      omega
    have h2 : l.length * 10000 ≤ 300 * 10000 := Nat.mul_le_mul_right _ (by omega)
    omega
theorem i_same {W : World} {v u : Value} {l m : List Stil.Arm} (h1 : Lad W v l) (h2 : Lad W u m) : Calls Tryz.prog 15 #[v, u] W fun e w' => ∃ b : Bool, e = .returned (.bool b) ∧ (b = true ↔ l = m) ∧ Below W.heap.size W w' := by
  classical
  refine (i_treeSame l m v u W h1.1 h2.1 h1.2.1 h2.2.1 h1.2.2.1 h2.2.2.1).mono ?_
  rintro e w' ⟨he, hb⟩
  exact ⟨_, he, by simp, hb⟩
theorem s_same {W : World} {v u : Value} {l m : List Stil.Arm} (h1 : Lad W v l) (h2 : Lad W u m) : Calls Tryz.prog 16 #[v, u] W fun e w' => ∃ b : Bool, e = .returned (.bool b) ∧ (b = true ↔ l = m) ∧ Below W.heap.size W w' := by
  classical
  refine (s_treeSame l m v u W h1.1 h2.1 h1.2.1 h2.2.1 h1.2.2.1 h2.2.2.1).mono ?_
  rintro e w' ⟨he, hb⟩
  exact ⟨_, he, by simp, hb⟩
theorem i_size {W : World} {v : Value} {l : List Stil.Arm} (h : Lad W v l) : Calls Tryz.prog 12 #[v] W fun e w' => e = .returned (.int .i64 (Stil.treeSize l)) ∧ Below W.heap.size W w' :=
  i_treeSize l v W h.1 h.2.2.2.1 h.2.1 h.2.2.1
theorem i_check {W : World} {v : Value} {l : List Stil.Arm} (hr : RowsAt W) (hg : ErrTypeAt W) (h : Lad W v l) : Calls Tryz.prog 10 #[v] W fun e w' => e = .returned (.agg #[.int .i64 (Stil.treeCheck l).1, .int .i64 (Stil.treeCheck l).2]) ∧ Below W.heap.size W w' :=
  i_treeCheck l v W hr hg h.1 h.2.2.1 h.2.2.2.1 h.2.1
theorem i_uses {W : World} {v : Value} {l : List Stil.Arm} (d : Stil.Dev) (h : Lad W v l) : Calls Tryz.prog 17 #[v, .agg #[.int .i64 d.kind, .int .i64 d.n, .int .i64 d.p]] W fun e w' => e = .returned (.int .i64 (Stil.treeUses d l)) ∧ Below W.heap.size W w' :=
  i_treeUses d l v W h.1 h.2.1 h.2.2.1 h.2.2.2.1 (h.2.2.2.2 d)
/-- A ladder from a world on. -/
def LadF (w : World) (v : Value) (l : List Stil.Arm) : Prop := ∀ W, Below w.heap.size w W → Lad W v l
theorem ladF {w : World} {v : Value} {l : List Stil.Arm} (h : Lad w v l) : LadF w v l := fun _ hb => h.below hb
theorem LadF.later {w W : World} {v : Value} {l : List Stil.Arm} (h : LadF w v l) (hb : Below w.heap.size w W) : LadF W v l := fun _ h2 => h _ (hb.trans (h2.mono hb.size))
theorem i_sameG {w W : World} {v u : Value} {l m : List Stil.Arm} (h1 : LadF w v l) (h2 : LadF w u m) (hb : Below w.heap.size w W) : Calls Tryz.prog 15 #[v, u] W fun e w' => ∃ b : Bool, e = .returned (.bool b) ∧ (b = true ↔ l = m) ∧ Below W.heap.size W w' := i_same (h1 W hb) (h2 W hb)
theorem s_sameG {w W : World} {v u : Value} {l m : List Stil.Arm} (h1 : LadF w v l) (h2 : LadF w u m) (hb : Below w.heap.size w W) : Calls Tryz.prog 16 #[v, u] W fun e w' => ∃ b : Bool, e = .returned (.bool b) ∧ (b = true ↔ l = m) ∧ Below W.heap.size W w' := s_same (h1 W hb) (h2 W hb)
theorem i_sizeG {w W : World} {v : Value} {l : List Stil.Arm} (h1 : LadF w v l) (hb : Below w.heap.size w W) : Calls Tryz.prog 12 #[v] W fun e w' => e = .returned (.int .i64 (Stil.treeSize l)) ∧ Below W.heap.size W w' := i_size (h1 W hb)
theorem i_checkG {w W : World} {v : Value} {l : List Stil.Arm} (hr : ∀ W, Below w.heap.size w W → RowsAt W ∧ ErrTypeAt W) (h1 : LadF w v l) (hb : Below w.heap.size w W) : Calls Tryz.prog 10 #[v] W fun e w' => e = .returned (.agg #[.int .i64 (Stil.treeCheck l).1, .int .i64 (Stil.treeCheck l).2]) ∧ Below W.heap.size W w' := i_check (hr W hb).1 (hr W hb).2 (h1 W hb)
theorem i_usesG {w W : World} {v : Value} {l : List Stil.Arm} (d : Stil.Dev) (h1 : LadF w v l) (hb : Below w.heap.size w W) : Calls Tryz.prog 17 #[v, .agg #[.int .i64 d.kind, .int .i64 d.n, .int .i64 d.p]] W fun e w' => e = .returned (.int .i64 (Stil.treeUses d l)) ∧ Below W.heap.size W w' := i_uses d (h1 W hb)
end Go.Proofs.YtenoanhonjdpjaaGreatDoor
