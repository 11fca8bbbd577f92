/- Contracts of the specification's chapter 2, twelfth part: ElemRead. -/
import Derived.Test.YtnbdgpepancfnabDoorS2k
import Derived.Test.YtnbdgpepancfnabDoorM2g
namespace Go.Proofs.YtnbdgpepancfnabDoor
open Go.RowKit Go.Sort Go.BigFrame
theorem devOk_fits (d : Stil.Dev) (h : Stil.devOkB d.kind d.n d.p = true) : d.fits := by
  unfold Stil.Dev.fits
  by_cases h1 : d.kind = 11
  · rw [h1] at h; simp [Stil.devOkB] at h; omega
  · by_cases h2 : d.kind = 12
    · rw [h2] at h; have := devOk_dec h; omega
    · by_cases h3 : d.kind = 13
      · rw [h3] at h; simp [Stil.devOkB] at h; omega
      · have := devOk_dev h h1 h2 h3; omega
theorem devRead_fits (l : List UInt8) : (Stil.devRead l).fits := by
  unfold Stil.devRead
  split
  · rename_i h
    apply devOk_fits
    cases hok : Stil.devOkB (Stil.guess l).kind (Stil.guess l).n (Stil.guess l).p
    · exfalso
      have ht : (Stil.guess l).text = [] := by unfold Stil.Dev.text Stil.devText; rw [hok]; rfl
      unfold Stil.devReadB at h
      rw [ht] at h
      cases l <;> simp at h
    · rfl
  · unfold Stil.Dev.fits; simp
theorem args_fits (c : UInt8) (l : List UInt8) : ∀ d ∈ Stil.args c l, d.fits := by
  intro d hd
  obtain ⟨p, _, rfl⟩ := List.mem_map.1 (List.mem_of_mem_take hd)
  exact devRead_fits p
theorem signFrom_fits (l : List UInt8) (i n : Nat) : ∀ m k, ∀ d ∈ (Stil.signFrom l i n m k).args, d.fits
  | 0, k, d, hd => by simp [Stil.signFrom] at hd
  | m + 1, k, d, hd => by
    unfold Stil.signFrom at hd
    split at hd
    · rcases List.mem_append.1 hd with h | h <;> exact args_fits _ _ d h
    · exact signFrom_fits l i n m (k + 1) d hd
theorem guessHead_fits (l : List UInt8) : ∀ d ∈ (Stil.guessHead l).args, d.fits := by
  intro d hd
  unfold Stil.guessHead at hd
  split at hd
  · exact args_fits _ _ d hd
  · split at hd
    · exact args_fits _ _ d hd
    · split at hd <;> exact args_fits _ _ d hd
theorem guessName_fits (l : List UInt8) : ∀ m k, ∀ d ∈ (Stil.guessName l m k).args, d.fits
  | 0, _, d, hd => guessHead_fits l d hd
  | m + 1, k, d, hd => by
    unfold Stil.guessName at hd
    split at hd
    · exact args_fits _ _ d hd
    · exact guessName_fits l m (k + 1) d hd
theorem scan_fits (l : List UInt8) : ∀ m k, ∀ d ∈ (Stil.scan l m k).args, d.fits
  | 0, _, d, hd => guessName_fits l _ _ d hd
  | m + 1, k, d, hd => by
    unfold Stil.scan at hd
    split at hd
    · exact signFrom_fits _ _ _ _ _ d hd
    · exact scan_fits l m (k + 1) d hd
theorem eguess_fits (l : List UInt8) : ∀ d ∈ (Stil.eguess l).args, d.fits := scan_fits l _ _
theorem args8 (c : UInt8) (a b : List UInt8) : (Stil.args c a ++ Stil.args c b).length ≤ 8 := by
  have := args_le c a; have := args_le c b; simp; omega
theorem signFrom_len (l : List UInt8) (i n : Nat) : ∀ m k, (Stil.signFrom l i n m k).args.length ≤ 8
  | 0, k => by simp [Stil.signFrom]
  | m + 1, k => by
    unfold Stil.signFrom
    split
    · exact args8 _ _ _
    · exact signFrom_len l i n m (k + 1)
theorem guessName_len (l : List UInt8) : ∀ m k, (Stil.guessName l m k).args.length ≤ 8
  | 0, _ => by
    show (Stil.guessHead l).args.length ≤ 8
    have h1 := args_le 32 (l.drop 1); have h2 := args_le 58 (l.drop 1); have h3 := args_le 32 l
    unfold Stil.guessHead
    split
    · simp only; omega
    · split
      · simp only; omega
      · split <;> (simp only; omega)
  | m + 1, k => by
    unfold Stil.guessName
    split
    · have := args_le 44 (l.drop ((Stil.elemName k).length + 1)); simp only; omega
    · exact guessName_len l m (k + 1)
theorem scan_len (l : List UInt8) : ∀ m k, (Stil.scan l m k).args.length ≤ 8
  | 0, _ => guessName_len l _ _
  | m + 1, k => by
    unfold Stil.scan
    split
    · exact signFrom_len _ _ _ _ _
    · exact scan_len l m (k + 1)
theorem eguess_len (l : List UInt8) : (Stil.eguess l).args.length ≤ 8 := scan_len l _ _
theorem elem_chain {w w1 w2 : World} {o : Obj} (hb : Below (w.alloc (.cells #[.int .i64 0, .slice none 0 0] 29)).heap.size (w.alloc (.cells #[.int .i64 0, .slice none 0 0] 29)) w1) (hb2 : Below (w1.alloc o).heap.size (w1.alloc o) w2) :
    Below (w.heap.size + 1) (w.alloc (.cells #[.int .i64 0, .slice none 0 0] 29)) w2 := by
  have h1 := hb.size
  simp at h1
  exact (hb.mono (by simp)).trans ((below_two hb2).mono (by omega))
end Go.Proofs.YtnbdgpepancfnabDoor
