/- FnExactTreeCheck: at every argument the program's TreeCheck answers as the specification's and writes into no argument. The table of kinds and the handle of the type 'error' are as the program's text lays them (the card's tie). No other condition. -/
import Derived.Test.YtodialneapakgaaGreatDoorGP
import Derived.Test.YtodialneapakgaaGreatDoorFR3
import Derived.Test.YtodialneapakgaaGreatDoorLW6
import Derived.LaidHandle
import Derived.SevenTiedAt
import Derived.Test.YtodialneapakgaaGreatDoorCards
import Derived.Test.YtodialneapakgaaGreatDoorTie
namespace Go.Proofs.YtodialneapakgaaGreatDoor.fnTreeCheck
open Go.ChangeShapes Go.WideShapes Go.ChangeAt Go.RowKit
theorem own : ownKnob Tryz.prog.godebug = none := by kernel_rfl
theorem laidOut : laidOutB Tryz.prog = true := by kernel_rfl
theorem et : Tryz.prog.globalNamed "errors.errorType" = some 1 := by kernel_rfl
theorem rt : (Tryz.prog.cutTypes.find? (·.1 == "internal/reflectlite.rtype")).map (·.2) = some 162 := by kernel_rfl
theorem oneRow : ((List.range Tryz.prog.types.size).filter fun t => Tryz.prog.rowNamed t [101, 114, 114, 111, 114]) = [65] := by kernel_rfl
theorem err_of_laid {W : World} (h : handlesMet Tryz.prog [("errors.errorType", Rows.laid_errors_errorType)] W) : ErrTypeAt W := by
  obtain ⟨name, u, ty, e1, e2, e3, e4, e5⟩ := h _ (List.mem_singleton.2 rfl)
  have en : name = [101, 114, 114, 111, 114] := (Option.some.inj e1).symm
  subst en
  obtain rfl := Option.some.inj (rt.symm.trans e2)
  have hm : ty ∈ (List.range Tryz.prog.types.size).filter fun t => Tryz.prog.rowNamed t [101, 114, 114, 111, 114] := List.mem_filter.2 ⟨List.mem_range.2 e3, e4⟩
  rw [oneRow] at hm
  obtain rfl := List.mem_singleton.1 hm
  have hh : typeHandle Tryz.prog 65 = .pointer (some ⟨9, 65, none⟩) := by kernel_rfl
  rw [hh] at e5
  have hc := World.var?_cell et e5 0
  unfold ErrTypeAt
  simpa using hc
set_option maxRecDepth 100000 in
theorem contract (H : Type) (enc : TypeId × Value → H) (W : World) (base : Nat) (args : Array Value) (ds gs : List (DataW H)) (before : List MemPlace)
    (hval : ∀ (j : Nat) t v, Tryz.f5.params[j]? = some t → args[j]? = some v → Value.okWide Tryz.prog W .any base t v)
    (hW : DataW.Whole enc Tryz.prog Tryz.f5.params.toList Rows.fnExactTreeCheckSpec.vars false W args.toList ds gs before) (hL : laidMetH Tryz.prog Rows.fnExactTreeCheckRow.laid W) :
    Calls Tryz.prog 5 args W fun e W' => ∃ v, e = .returned v ∧ Rows.fnExactTreeCheckSpec.post enc Tryz.prog Tryz.f5 false true false false W args v W' := by
  have hW' := hW
  obtain ⟨p, q, hA0, hV, rfl, hfz, hnd⟩ := hW
  have hA : DataW.TrodAll enc Tryz.prog W 0 (fun _ => true) true Tryz.f5.params.toList args.toList ds p := hA0
  rw [Tryz.params5] at hA hval
  obtain ⟨v0, vs0, d0, ds0, p0, q0, hargs, rfl, rfl, h0, r0⟩ := trodAll_cons hA
  obtain ⟨rfl, rfl, rfl⟩ := trodAll_nil r0
  obtain rfl : args = #[v0] := by cases args; simp_all
  have h0k := h0
  have hlt : ∀ x ∈ p0, x.block < W.heap.size := fun x hx => by simpa using hW'.lt x (by simp [hx])
  obtain ⟨g1, hgs⟩ : ∃ g1, gs = [g1] := by
    obtain ⟨g, t, cs, fuel, d, p', hq, e⟩ := trodVars_one hV
    exact ⟨d, hq⟩
  subst hgs
  obtain ⟨a0, l0, c0, rfl⟩ := okWide_slice Tryz.underlying36 (hval 0 36 v0 rfl rfl)
  obtain ⟨fu0, t0⟩ := h0
  obtain ⟨la0, hla0, wf0, ll0⟩ := arms_of_trod fu0 _ _ t0
  have hL' : laidMet Tryz.prog [("loop.example/stilway/impl.devRows", Rows.laid_loop_example_stilway_impl_devRows)] W ∧ handlesMet Tryz.prog [("errors.errorType", Rows.laid_errors_errorType)] W := hL
  have hrow : RowsAt W := rows_of_laid hL'.1 (List.mem_cons_self ..)
  have herr : ErrTypeAt W := err_of_laid hL'.2
  refine (law_treeCheck _ la0 W hrow herr hla0 wf0 ll0).mono fun e W' ⟨he, hb⟩ => ?_
  subst he
  exact ⟨_, rfl, ⟨_, _, _, [], _, q, hW', trodAll_mk1 (shut_bool Tryz.underlying4 _), trodAll_mk1 (Below.trod laidOut (by kernel_rfl) (of_decide_eq_true (by kernel_rfl)) h0k hb hlt), hb.trodVars laidOut (by kernel_rfl) hV, hb.frame _, fun h => by cases h⟩⟩
def plainLaid : List (String × DataW Unit) := [("loop.example/stilway/impl.devRows", Rows.laid_loop_example_stilway_impl_devRows)]
theorem plain_met (os : Os) : laidMet Tryz.prog plainLaid (((World.holding Tryz.prog os ⟨#[], #[], []⟩).setCell ⟨1, 0, none⟩ (.iface 162 (.agg #[.pointer (some ⟨9, 65, none⟩)]))).layVars Tryz.prog plainLaid) :=
  laidMet_layVars (w0 := ((World.holding Tryz.prog os ⟨#[], #[], []⟩).setCell ⟨1, 0, none⟩ (.iface 162 (.agg #[.pointer (some ⟨9, 65, none⟩)])))) (plainLaid.map (·.1)) [] (by rfl) (by kernel_rfl) (by kernel_rfl) LaidIn.none
theorem laid_met (os : Os) : laidMetH Tryz.prog Rows.fnExactTreeCheckRow.laid ((((World.holding Tryz.prog os ⟨#[], #[], []⟩).setCell ⟨1, 0, none⟩ (.iface 162 (.agg #[.pointer (some ⟨9, 65, none⟩)]))).layVars Tryz.prog plainLaid).forCall (fun _ _ => 0) ⟨#[], #[.slice none 0 0], []⟩).memory :=
  laidMetH_of_parts (show laidMet Tryz.prog plainLaid _ from (plain_met os).of_heap (by simp [World.memory, World.forCall, Input.heap])) (by kernel_rfl)
theorem reads (os : Os) {H : Type} (enc : TypeId × Value → H) : ∃ g places, DataW.whole enc Tryz.prog ((((World.holding Tryz.prog os ⟨#[], #[], []⟩).setCell ⟨1, 0, none⟩ (.iface 162 (.agg #[.pointer (some ⟨9, 65, none⟩)]))).layVars Tryz.prog plainLaid).forCall (fun _ _ => 0) ⟨#[], #[.slice none 0 0], []⟩).memory Tryz.f5.params.toList Rows.fnExactTreeCheckSpec.vars false #[Value.slice none 0 0].toList 8 = some ([.nil], [g], places) := by
  have h : (DataW.whole enc Tryz.prog ((((World.holding Tryz.prog os ⟨#[], #[], []⟩).setCell ⟨1, 0, none⟩ (.iface 162 (.agg #[.pointer (some ⟨9, 65, none⟩)]))).layVars Tryz.prog plainLaid).forCall (fun _ _ => 0) ⟨#[], #[.slice none 0 0], []⟩).memory Tryz.f5.params.toList Rows.fnExactTreeCheckSpec.vars false #[Value.slice none 0 0].toList 8).map (fun x => (x.1, x.2.1)) = some ([.nil], [Rows.laid_loop_example_stilway_impl_devRows]) := by kernel_rfl
  obtain ⟨⟨a, b, c⟩, hx, e⟩ := Option.map_eq_some_iff.1 h
  simp only [Prod.mk.injEq] at e
  obtain ⟨rfl, rfl⟩ := e
  exact ⟨_, c, hx⟩
set_option maxRecDepth 100000 in
theorem lifted (os : Os) (started : os.Started) (H : Type) (enc : TypeId × Value → H) (F : Stop.Interp) :
    ReturnsInHanded {} Tryz.checked os 5 .any ((OpenSpec.ofChange Rows.fnExactTreeCheckSpec).preRow enc Tryz.prog Tryz.f5 Rows.fnExactTreeCheckRow.domain false Rows.fnExactTreeCheckRow.laid) (((OpenSpec.ofChange Rows.fnExactTreeCheckSpec).at F).post enc Tryz.prog Tryz.f5 false true false false) := by
  obtain ⟨g, places, hx⟩ := reads os enc
  refine returnsInHanded_of_row (C := Tryz.checked) (s := OpenSpec.ofChange Rows.fnExactTreeCheckSpec) own started (by kernel_rfl) Tryz.func5
    (witness_row_at (enc := enc) (C := Tryz.checked) false (((World.holding Tryz.prog os ⟨#[], #[], []⟩).setCell ⟨1, 0, none⟩ (.iface 162 (.agg #[.pointer (some ⟨9, 65, none⟩)]))).layVars Tryz.prog plainLaid) #[.slice none 0 0] (World.layVars_os _ _ _) (by kernel_rfl) (by kernel_rfl) (by kernel_rfl)
      (OpenSpec.preRow_of_cond 8 hx (by kernel_rfl) (fun k hk => by cases hk) (by kernel_rfl) (laid_met os))) ?_
  intro W base args ds gs before hval hW _ _ _ hL _ _
  exact contract H enc W base args ds gs before hval hW hL
theorem said : Rows.FnExactTreeCheckSaid :=
  OpenClaim.holds_of_cond 5 Tryz.f5 rfl rfl rfl rfl rfl rfl rfl ⟨rfl, rfl, rfl, rfl, rfl⟩ rfl rfl rfl rfl rfl (by kernel_rfl) Tryz.func5 (by kernel_rfl)
    (of_decide_eq_true (by kernel_rfl)) (by unfold Func.isWrapper; first | (rw [if_pos (by decide +kernel)]; kernel_rfl) | (rw [if_neg (by decide +kernel)]; exact ⟨rfl, rfl⟩))
    (fun os started H enc _ F => by rw [OpenClaim.pre_eq_preRow]; exact lifted os started H enc F)
theorem plain (f : FuncId) (fn : Func) (hf : Tryz.pinned.checked.prog.funcNamed "loop.example/stilway/laws.FnExactTreeCheck" = some f) (hfn : Tryz.pinned.checked.prog.funcs[f]? = some fn) :
    true = Tryz.pinned.checked.prog.looks [] ∧ ∀ (j : Nat) t, fn.params[j]? = some t → Tryz.pinned.checked.prog.wantsStandIn t = false := by
  obtain rfl : f = 5 := Option.some.inj ((show Tryz.prog.funcNamed "loop.example/stilway/laws.FnExactTreeCheck" = some 5 by kernel_rfl).symm.trans hf) |>.symm
  obtain rfl : fn = Tryz.f5 := (Option.some.inj (Tryz.func5.symm.trans hfn)).symm
  refine ⟨by kernel_rfl, fun j t ht => ?_⟩
  rw [Tryz.params5] at ht
  obtain rfl : t = 36 := by simpa using Array.mem_of_getElem? ht
  exact (show Tryz.prog.wantsStandIn 36 = false by kernel_rfl)
end Go.Proofs.YtodialneapakgaaGreatDoor.fnTreeCheck
namespace Go.Proofs.YtodialneapakgaaGreatDoor
theorem treeCheck_card : Rows.FnExactTreeCheckCardSaid :=
  Claim7.holds_tied_plain_at .later [] _ _ _ _ fnTreeCheck.said (fun _ h => by cases h) (by kernel_rfl) (fun _ h => by cases h) fnExactTreeCheck_row_tie rfl ⟨rfl, rfl⟩ (by kernel_rfl) rfl fnTreeCheck.plain (by kernel_rfl)
#print axioms treeCheck_card
end Go.Proofs.YtodialneapakgaaGreatDoor
