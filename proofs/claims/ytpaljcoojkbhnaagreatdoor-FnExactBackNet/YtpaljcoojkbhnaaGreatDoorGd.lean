/- I8: texts put together. -/
import Derived.Test.YtpaljcoojkbhnaaGreatDoorGJ
import Derived.Test.YtpaljcoojkbhnaaGreatDoorGO
import Derived.Test.YtpaljcoojkbhnaaGreatDoorGa
/- Contracts of the program's chapter 5: ListWord, ListOk. -/
namespace Go.Proofs.YtpaljcoojkbhnaaGreatDoor
open Go.RowKit Go.Sort Go.BigFrame
/-- The words of the instructions lie where the program's text lays them. -/
def LWordsAt (w : World) : Prop := 1 < w.heap.size ∧ ∀ k : Nat, k < 12 → w.cell? ⟨1, k, none⟩ = some (.string ⟨(Stil.listWords.getD k []).toArray⟩)
theorem LWordsAt.below {w w' : World} (h : LWordsAt w) (hb : Below w.heap.size w w') : LWordsAt w' :=
  ⟨Nat.lt_of_lt_of_le h.1 hb.size, fun k hk => by rw [hb.cell (p := ⟨1, k, none⟩) h.1]; exact h.2 k hk⟩
set_option maxHeartbeats 1000000 in
set_option maxRecDepth 100000 in
theorem i_listWord_no (c : Int) (w : World) (h : c < 0 ∨ 12 ≤ c) :
    Calls Tryz.prog 85 #[.int .i64 c] w fun e w' => e = .returned (.string ⟨#[]⟩) ∧ w' = w := by
  go_enter Tryz.func85, Tryz.ntmps85
  go_wp2
  all_goals first | (exfalso; omega) | (go_ret; exact ⟨rfl, rfl⟩)
set_option maxHeartbeats 1000000 in
set_option maxRecDepth 100000 in
theorem i_listWord (k : Nat) (w : World) (hw : LWordsAt w) (h : k < 12) :
    Calls Tryz.prog 85 #[.int .i64 k] w fun e w' => e = .returned (.string ⟨(Stil.listWords.getD k []).toArray⟩) ∧ w' = w := by
  have hk := hw.2 k h
  obtain ⟨s, hs⟩ : ∃ s : ByteArray, s = ⟨(Stil.listWords.getD k []).toArray⟩ := ⟨_, rfl⟩
  rw [← hs] at hk ⊢
  clear hs hw
  go_enter Tryz.func85, Tryz.ntmps85
  go_wp2
  go_ret
  exact ⟨rfl, rfl⟩
end Go.Proofs.YtpaljcoojkbhnaaGreatDoor
