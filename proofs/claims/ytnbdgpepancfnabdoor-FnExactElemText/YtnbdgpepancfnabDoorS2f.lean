/- Contracts of the specification's chapter 2, sixth part: ElemIsCoil whole. -/
import Derived.Test.YtnbdgpepancfnabDoorS2e
namespace Go.Proofs.YtnbdgpepancfnabDoor
open Go.RowKit Go.Sort Go.BigFrame
theorem arity_cases {op : Int} (h1 : 21 ≤ op) (h2 : op ≤ 37) : (Stil.arity op = 1 ∧ (op = 21 ∨ op = 22 ∨ op = 23 ∨ op = 25)) ∨ (Stil.arity op = 2 ∧ (op = 24 ∨ op = 26 ∨ op = 27 ∨ op = 28 ∨ op = 29 ∨ op = 30 ∨ op = 36 ∨ op = 37)) ∨ (Stil.arity op = 3 ∧ 31 ≤ op ∧ op ≤ 35) := by
  unfold Stil.arity
  by_cases a : op = 1 ∨ op = 2 ∨ op = 21 ∨ op = 22 ∨ op = 23 ∨ op = 25
  · rw [if_pos a]; left; exact ⟨rfl, by omega⟩
  · rw [if_neg a]
    by_cases b : 31 ≤ op ∧ op ≤ 35
    · rw [if_pos b]; right; right; exact ⟨rfl, b⟩
    · rw [if_neg b, if_pos (by omega)]; right; left; exact ⟨rfl, by omega⟩
theorem DevsAt.cons {w : World} {v : Value} {d : Stil.Dev} {r : List Stil.Dev} (h : DevsAt w v (d :: r)) : ∃ b o cap, v = .slice (some ⟨b, o, none⟩) (r.length + 1) cap ∧ b < w.heap.size ∧ ∀ i (hi : i < (d :: r).length), DevAt w b (o + i * 3) (d :: r)[i] := by
  obtain ⟨a, cap, hv, hc⟩ := h
  obtain ⟨b, o, rfl, hlt, _⟩ := hc 0 (by simp)
  refine ⟨b, o, cap, hv, hlt, fun i hi => ?_⟩
  obtain ⟨b', o', e1, _, hd'⟩ := hc i hi
  simp only [Option.some.injEq, Addr.mk.injEq, and_true] at e1
  obtain ⟨rfl, rfl⟩ := e1
  exact hd'
theorem s_isCoil (op : Int) (v : Value) (ds : List Stil.Dev) (w : World) (hat : DevsAt w v ds) (hfit : ∀ d ∈ ds, d.fits) (hl : ds.length ≤ 9223372036854775807) :
    Calls Tryd.prog 6 #[.agg #[.int .i64 op, v]] w fun e w' => e = .returned (.bool (Stil.isCoil op ds)) ∧ Below w.heap.size w w' := by
  by_cases h : op < 21 ∨ 37 < op ∨ (ds.length : Int) ≠ Stil.arity op
  · have e : Stil.isCoil op ds = false := by unfold Stil.isCoil; rw [if_pos h]
    obtain ⟨a, cap, rfl, _⟩ := hat
    rw [e]
    exact s_isCoil_no op a ds.length cap w h hl
  · have h1 : 21 ≤ op := by omega
    have h2 : op ≤ 37 := by omega
    have h3 : (ds.length : Int) = Stil.arity op := by omega
    rcases arity_cases h1 h2 with ⟨ha, ho⟩ | ⟨ha, ho⟩ | ⟨ha, ho⟩
    · match ds, hat, hfit, h, h3 with
      | [], _, _, _, h3 => rw [ha] at h3; simp at h3
      | [d], hat, hfit, h, h3 =>
        obtain ⟨b, o, cap, rfl, hlt, hd⟩ := hat.one
        have k1 := (hfit d (by simp)).2.1
        exact s_isCoil_one op b o cap d w h1 h2 ha hlt hd k1.1 k1.2
      | d :: f :: r, _, _, _, h3 => rw [ha] at h3; simp at h3; omega
    · match ds, hat, hfit, h, h3 with
      | [], _, _, _, h3 => rw [ha] at h3; simp at h3
      | [d], _, _, _, h3 => rw [ha] at h3; simp at h3
      | [d, f], hat, hfit, h, h3 =>
        by_cases h30 : op = 30
        · obtain ⟨b, o, cap, hv, hlt, hd⟩ := hat.cons
          have e : Stil.isCoil op [d, f] = Stil.calcB op [d, f] := by
            unfold Stil.isCoil; rw [if_neg h]; simp [h30]
          rw [e, hv]
          exact s_isCoil_calc op b o cap d [f] w (by omega) (by rw [ha]; rfl) hlt hd hfit
        · obtain ⟨b, o, cap, rfl, hlt, hd, hd2⟩ := hat.two
          have k1 := (hfit d (by simp)).2.1
          have k2 := (hfit f (by simp)).2.1
          rcases ho with rfl | rfl | rfl | rfl | rfl | rfl | rfl | rfl
          · have e : Stil.isCoil 24 [d, f] = (Stil.kindB d.kind d.n d.p 2 3 && Stil.kindB f.kind f.n f.p 5 5) := by unfold Stil.isCoil; rw [if_neg h]; rfl
            rw [e]; exact s_isCoil_pulse 24 b o cap d f w rfl hlt hd hd2 k1.1 k1.2 k2.1 k2.2
          · have e : Stil.isCoil 26 [d, f] = (Stil.kindB d.kind d.n d.p 7 7 && Stil.kindB f.kind f.n f.p 11 11 && decide (0 ≤ f.n)) := by unfold Stil.isCoil; rw [if_neg h]; rfl
            rw [e]; exact s_isCoil_timer 26 b o cap d f w (by omega) hlt hd hd2 k1.1 k1.2 k2.1 k2.2
          · have e : Stil.isCoil 27 [d, f] = (Stil.kindB d.kind d.n d.p 7 7 && Stil.kindB f.kind f.n f.p 11 11 && decide (0 ≤ f.n)) := by unfold Stil.isCoil; rw [if_neg h]; rfl
            rw [e]; exact s_isCoil_timer 27 b o cap d f w (by omega) hlt hd hd2 k1.1 k1.2 k2.1 k2.2
          · have e : Stil.isCoil 28 [d, f] = (Stil.kindB d.kind d.n d.p 7 7 && Stil.kindB f.kind f.n f.p 11 11 && decide (0 ≤ f.n)) := by unfold Stil.isCoil; rw [if_neg h]; rfl
            rw [e]; exact s_isCoil_timer 28 b o cap d f w (by omega) hlt hd hd2 k1.1 k1.2 k2.1 k2.2
          · have e : Stil.isCoil 29 [d, f] = (Stil.kindB d.kind d.n d.p 8 8 && Stil.kindB f.kind f.n f.p 11 11 && decide (0 ≤ f.n)) := by unfold Stil.isCoil; rw [if_neg h]; rfl
            rw [e]; exact s_isCoil_count 29 b o cap d f w rfl hlt hd hd2 k1.1 k1.2 k2.1 k2.2
          · exact absurd rfl h30
          · have e : Stil.isCoil 36 [d, f] = (Stil.kindB d.kind d.n d.p 10 10 && Stil.devIsWholeB f.kind f.n f.p) := by unfold Stil.isCoil; rw [if_neg h]; rfl
            rw [e]; exact s_isCoil_real 36 b o cap d f w rfl hlt hd hd2 k1.1 k1.2 k2.1 k2.2
          · have e : Stil.isCoil 37 [d, f] = (Stil.kindB d.kind d.n d.p 9 9 && Stil.devIsRealB f.kind f.n f.p) := by unfold Stil.isCoil; rw [if_neg h]; rfl
            rw [e]; exact s_isCoil_whole 37 b o cap d f w rfl hlt hd hd2 k1.1 k1.2 k2.1 k2.2
      | d :: f :: g :: r, _, _, _, h3 => rw [ha] at h3; simp at h3; omega
    · match ds, hat, hfit, h, h3 with
      | [], _, _, _, h3 => rw [ha] at h3; simp at h3
      | [d], _, _, _, h3 => rw [ha] at h3; simp at h3
      | [d, f], _, _, _, h3 => rw [ha] at h3; simp at h3
      | d :: f :: g :: r, hat, hfit, h, h3 =>
        obtain ⟨b, o, cap, hv, hlt, hd⟩ := hat.cons
        have e : Stil.isCoil op (d :: f :: g :: r) = Stil.calcB op (d :: f :: g :: r) := by
          unfold Stil.isCoil; rw [if_neg h]
        rw [e, hv]
        exact s_isCoil_calc op b o cap d (f :: g :: r) w (by omega) (by rw [← h3]; simp) hlt hd hfit
end Go.Proofs.YtnbdgpepancfnabDoor
