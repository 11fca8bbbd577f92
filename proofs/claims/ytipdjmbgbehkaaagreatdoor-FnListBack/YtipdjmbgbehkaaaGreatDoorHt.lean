/- I8s: texts put together. -/
import Derived.Test.YtipdjmbgbehkaaaGreatDoorGd
import Derived.Test.YtipdjmbgbehkaaaGreatDoorGB
import Derived.WalkLawsBesides
import Derived.Deep.Light
import Derived.Test.YtipdjmbgbehkaaaGreatDoorI8b
import Derived.Test.YtipdjmbgbehkaaaGreatDoorGZ
import Derived.Defers
import Derived.Recover
import Derived.Test.YtipdjmbgbehkaaaGreatDoorS7
import Derived.Test.YtipdjmbgbehkaaaGreatDoorHh
import Derived.Test.YtipdjmbgbehkaaaGreatDoorHm
import Derived.Test.YtipdjmbgbehkaaaGreatDoorHu
import Derived.Test.YtipdjmbgbehkaaaGreatDoorGH
/- Contracts of the program's chapter 6: a step of the run. -/
namespace Go.Proofs.YtipdjmbgbehkaaaGreatDoor
open Go.RowKit Go.Sort Go.BigFrame
end Go.Proofs.YtipdjmbgbehkaaaGreatDoor
/- I8c, I8d, I8e: texts put together. -/
/- Contracts of the program's chapter 6: a step of the run, the table of rules, what a run was left with. -/
namespace Go.Proofs.YtipdjmbgbehkaaaGreatDoor
open Go.RowKit Go.Sort Go.BigFrame
end Go.Proofs.YtipdjmbgbehkaaaGreatDoor
/- Contracts of the program's chapter 6: the run of a list. -/
namespace Go.Proofs.YtipdjmbgbehkaaaGreatDoor
open Go.RowKit Go.Sort Go.BigFrame
end Go.Proofs.YtipdjmbgbehkaaaGreatDoor
/- Contracts of the program's chapter 6: SureCheck. -/
namespace Go.Proofs.YtipdjmbgbehkaaaGreatDoor
open Go.RowKit Go.Sort Go.BigFrame
end Go.Proofs.YtipdjmbgbehkaaaGreatDoor
/- Contracts of the specification's chapter 6: what is wrong with an instruction, what is known behind it. -/
namespace Go.Proofs.YtipdjmbgbehkaaaGreatDoor
open Go.RowKit Go.Sort Go.BigFrame
end Go.Proofs.YtipdjmbgbehkaaaGreatDoor
/- S7c, S7d: texts put together. -/
/- Contracts of the specification's chapter 6: what is known behind an instruction; SureCheck. -/
namespace Go.Proofs.YtipdjmbgbehkaaaGreatDoor
open Go.RowKit Go.Sort Go.BigFrame
end Go.Proofs.YtipdjmbgbehkaaaGreatDoor
/- Contracts of the specification's chapter 6: SureCheck. -/
namespace Go.Proofs.YtipdjmbgbehkaaaGreatDoor
open Go.RowKit Go.Sort Go.BigFrame
end Go.Proofs.YtipdjmbgbehkaaaGreatDoor
/- Lists that were drawn: the functions over them, in one form. -/
namespace Go.Proofs.YtipdjmbgbehkaaaGreatDoor
open Go.RowKit Go.Sort Go.BigFrame
theorem ITame.fits {i : Stil.Inst} (h : ITame i) : i.fits := ⟨⟨by have := h.1.1; omega, by have := h.1.2; omega⟩, h.2.wf.1, by have := h.2.2.2; omega, h.2.wf.2.2⟩
end Go.Proofs.YtipdjmbgbehkaaaGreatDoor
/- D42b, D44: texts put together. -/
/- Contracts of the specification's draws: a list spoilt somewhere, whatever the number of operands. -/
namespace Go.Proofs.YtipdjmbgbehkaaaGreatDoor
open Go.RowKit Go.Sort Go.BigFrame
end Go.Proofs.YtipdjmbgbehkaaaGreatDoor
/- Contracts of the specification's draws: lists for chapter 5. -/
namespace Go.Proofs.YtipdjmbgbehkaaaGreatDoor
open Go.RowKit Go.Sort Go.BigFrame
set_option maxHeartbeats 2000000 in
set_option maxRecDepth 100000 in
theorem s_l5Any (g P : Nat) (w : World) (hr : RdAt w g P) (hP : P ≤ 100000) :
    Calls Tryz.prog 25 #[.pointer (some ⟨g, 0, none⟩)] w fun e w' => ListOut 4 e w w' g (P + 3700000) 80000 := by
  have HR : Hid (RdAt w g P) := hr
  have hg := rd_lt hr
  clear hr
  go_enter Tryz.func25, Tryz.ntmps25
  go_upto_region 2 with (go_at_call 55; refine (s_l5Sure g _ _ HR.out (by omega)).mono ?_; rintro e w3 ⟨l3, v3, rfl, hi3, ht3, hn3, hrd3, hb3⟩; obtain ⟨a3, c3, rfl, -⟩ := id hi3)
  have HI3 : Hid (InstsIn (fun b => g < b) w3 (.slice a3 l3.length c3) l3) := hi3
  have HT3 : Hid (∀ i ∈ l3, ITame i ∧ i.one.args.length ≤ 3) := ht3
  have HR3 : Hid (RdAt w3 g (P + 3600000)) := hrd3
  have HB3 : Hid (Below g w w3) := hb3
  have hz3 := hb3.size
  clear hi3 ht3 hrd3 hb3 HR
  obtain ⟨n3, hn⟩ : ∃ n, n = l3.length := ⟨_, rfl⟩
  have HN : Hid (n3 = l3.length) := hn
  rw [← hn] at HI3 hn3 ⊢
  clear hn
  go_upto_if 8 with (go_at_call 35; refine (s_pick g _ _ _ HR3.out (by omega) (by omega) (by omega)).mono ?_; rintro e w4 ⟨x, rfl, hx0, hx1, hrd4, hgr4⟩; have HR4 : Hid (RdAt w4 g (P + 3600000 + 1)) := hrd4; have HI4 : Hid (InstsIn (fun b => g < b) w4 (.slice a3 n3 c3) l3) := HI3.out.keep (KeepsIn.of_grown hgr4 fun b hb e => (by simp only [Option.some.injEq] at e; omega)); have HB4 : Hid (Below g w w4) := HB3.out.trans (below_grown_at hgr4 (by omega)); clear hrd4 hgr4)
  by_cases hx : x = 0
  · subst hx
    go_wp2_with (go_at_call 51; refine (s_l5Spoil g _ _ l3 _ HR4.out HI4.out HT3.out (by have := HN.out; omega) (by omega)).mono ?_; rintro e w5 ⟨l5, v5, rfl, hi5, ht5, hn5, hrd5, hb5⟩; have HO : Hid (ListOut 4 (.returned v5) w w5 g (P + 3700000) 80000) := ⟨l5, v5, rfl, hi5, ht5, hn5, rd_mono hrd5 (by omega), HB4.out.trans hb5⟩; clear hi5 ht5 hn5 hrd5 hb5)
    go_ret
    exact HO.out
  · have hxb : (x == 0) = false := beq_eq_false_iff_ne.2 hx
    go_wp2
    go_ret
    exact ⟨l3, _, rfl, HI4.out, fun i hi => ⟨(HT3.out i hi).1, by have := (HT3.out i hi).2; omega⟩, by have := HN.out; omega, rd_mono HR4.out (by omega), HB4.out⟩
set_option maxHeartbeats 1000000 in
set_option maxRecDepth 100000 in
theorem s_drawListText (v : Value) (w : World) (hv : BytesAt w v) : Calls Tryz.prog 7 #[v] w fun e w' => HalfOut e w w' := by
  have HV : Hid (BytesAt w v) := hv
  obtain ⟨av, lv, cv, rfl, -⟩ := hv
  go_enter Tryz.func7, Tryz.ntmps7
  go_wp2_with (first | (go_at_call 26; refine (s_l9Open _ _ HV.out).mono ?_; rintro e w1 ⟨rfl, hrd1, hb1⟩; have HB1 : Hid (Below w.heap.size w w1) := hb1; have HR1 : Hid (RdAt w1 w.heap.size 0) := hrd1; clear hrd1 hb1) | (go_at_call 25; refine (s_l5Any w.heap.size _ _ HR1.out (by omega)).mono ?_; rintro e w3 ⟨l3, v3, rfl, h3⟩; have HO : Hid (ListOut 4 (.returned v3) w1 w3 w.heap.size (0 + 3700000) 80000) := ⟨l3, v3, rfl, h3⟩; clear h3))
  go_ret
  exact HO.out.half HB1.out (by omega) (by omega)
end Go.Proofs.YtipdjmbgbehkaaaGreatDoor
