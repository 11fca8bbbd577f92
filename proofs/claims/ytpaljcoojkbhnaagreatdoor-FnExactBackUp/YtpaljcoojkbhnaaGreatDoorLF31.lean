/- FnExactBackUp: at every list the program's BackUp answers as the specification's, the arms and the word, writes into no argument, and its answer owns its memory. The tables of kinds and of words and the handle of the type 'error' are as the program's text lays them (the card's tie). No other condition. -/
import Derived.Test.YtpaljcoojkbhnaaGreatDoorFR7
import Derived.Test.YtpaljcoojkbhnaaGreatDoorLW31
import Derived.LaidHandle
import Derived.SevenTiedAt
import Derived.Test.YtpaljcoojkbhnaaGreatDoorCards
import Derived.Test.YtpaljcoojkbhnaaGreatDoorTie
set_option maxHeartbeats 4000000
set_option maxRecDepth 100000
namespace Go.Proofs.YtpaljcoojkbhnaaGreatDoor.fnBackUp
open Go.ChangeShapes Go.WideShapes Go.ChangeAt Go.RowKit
theorem own : ownKnob Tryz.prog.godebug = none := by kernel_rfl
theorem laidOut : laidOutB Tryz.prog = true := by kernel_rfl
def plainLaid : List (String × DataW Unit) := [("loop.example/stilway/impl.devRows", Rows.laid_loop_example_stilway_impl_devRows), ("loop.example/stilway/impl.listWords", Rows.laid_loop_example_stilway_impl_listWords)]
theorem contract (H : Type) (enc : TypeId × Value → H) (W : World) (base : Nat) (args : Array Value) (ds gs : List (DataW H)) (before : List MemPlace)
  (hval : ∀ (j : Nat) t v, Tryz.f4.params[j]? = some t → args[j]? = some v → Value.okWide Tryz.prog W .any base t v)
  (hW : DataW.Whole enc Tryz.prog Tryz.f4.params.toList Rows.fnExactBackUpSpec.vars false W args.toList ds gs before) (hL : laidMetH Tryz.prog Rows.fnExactBackUpRow.laid W) (_hsh : W.ShapedOpen Tryz.prog) :
  Calls Tryz.prog 4 args W fun e W' => ∃ v, e = .returned v ∧ Rows.fnExactBackUpSpec.post enc Tryz.prog Tryz.f4 false true false false W args v W' := by
 have hW' := hW
 obtain ⟨p, q, hA0, hV, rfl, hfz, hnd⟩ := hW
 have hA : DataW.TrodAll enc Tryz.prog W 0 (fun _ => true) true Tryz.f4.params.toList args.toList ds p := hA0
 rw [Tryz.params4] at hA hval
 obtain ⟨v0, vs0, d0, ds0, p0, q0, hargs, rfl, rfl, h0, r0⟩ := trodAll_cons hA
 obtain ⟨rfl, rfl, rfl⟩ := trodAll_nil r0
 obtain rfl : args = #[v0] := by cases args; simp_all
 have h0k := h0
 have hlt0 : ∀ x ∈ p0, x.block < W.heap.size := fun x hx => by simpa using hW'.lt x (by simp [hx])
 obtain ⟨g1, g2, hgs⟩ : ∃ g1 g2, gs = [g1, g2] := by
  match gs, hV with
  | [g1, g2], _ => exact ⟨g1, g2, rfl⟩
  | [], h => exact h.elim
  | [_], ⟨_, _, _, _, _, _, _, _, _, _, h, _⟩ => exact h.elim
  | _ :: _ :: _ :: _, ⟨_, _, _, _, _, _, _, _, _, _, ⟨_, _, _, _, _, _, _, _, _, _, h, _⟩, _⟩ => exact h.elim
 subst hgs
 obtain ⟨a0, l0, c0, rfl⟩ := okWide_slice Tryz.underlying22 (hval 0 22 v0 rfl rfl)
 obtain ⟨fu0, t0⟩ := h0
 obtain ⟨la0, hla0, wf0, ll0⟩ := insts_of_trod t0
 have hL' : laidMet Tryz.prog plainLaid W ∧ handlesMet Tryz.prog [("errors.errorType", Rows.laid_errors_errorType)] W := hL
 have hP := hL'.1
 have hrow : RowsAt W := rows_of_laid hP (List.mem_cons_self ..)
 have hlw : LWordsAt W := lwords_of_laid hP (List.mem_cons_of_mem _ (List.mem_cons_self ..))
 have herr : ErrTypeAt W := err_of_laid hL'.2
 refine (law_backUp _ la0 W herr hrow hlw hla0 wf0 ll0).mono fun e W' ⟨he, hb⟩ => ?_
 subst he
 exact ⟨_, rfl, ⟨_, _, _, [], _, q, hW', trodAll_mk1 (shut_bool Tryz.underlying4 _), trodAll_mk1 (Below.trod laidOut (by kernel_rfl) (of_decide_eq_true (by kernel_rfl)) h0k hb hlt0), hb.trodVars laidOut (by kernel_rfl) hV, hb.frame _, fun h => by cases h⟩⟩
theorem plain_met (os : Os) : laidMet Tryz.prog plainLaid (((World.holding Tryz.prog os ⟨#[], #[], []⟩).setCell ⟨0, 0, none⟩ (.iface 142 (.agg #[.pointer (some ⟨4, 58, none⟩)]))).layVars Tryz.prog plainLaid) :=
 laidMet_layVars (w0 := ((World.holding Tryz.prog os ⟨#[], #[], []⟩).setCell ⟨0, 0, none⟩ (.iface 142 (.agg #[.pointer (some ⟨4, 58, none⟩)])))) (plainLaid.map (·.1)) [] (by rfl) (by kernel_rfl) (by kernel_rfl) LaidIn.none
theorem laid_met (os : Os) : laidMetH Tryz.prog Rows.fnExactBackUpRow.laid ((((World.holding Tryz.prog os ⟨#[], #[], []⟩).setCell ⟨0, 0, none⟩ (.iface 142 (.agg #[.pointer (some ⟨4, 58, none⟩)]))).layVars Tryz.prog plainLaid).forCall (fun _ _ => 0) ⟨#[], #[.slice none 0 0], []⟩).memory :=
 laidMetH_of_parts (show laidMet Tryz.prog plainLaid _ from (plain_met os).of_heap (by simp [World.memory, World.forCall, Input.heap])) (by kernel_rfl)
theorem reads (os : Os) {H : Type} (enc : TypeId × Value → H) : ∃ g1 g2 places, DataW.whole enc Tryz.prog ((((World.holding Tryz.prog os ⟨#[], #[], []⟩).setCell ⟨0, 0, none⟩ (.iface 142 (.agg #[.pointer (some ⟨4, 58, none⟩)]))).layVars Tryz.prog plainLaid).forCall (fun _ _ => 0) ⟨#[], #[.slice none 0 0], []⟩).memory Tryz.f4.params.toList Rows.fnExactBackUpSpec.vars false #[Value.slice none 0 0].toList 8 = some ([.nil], [g1, g2], places) := by
 have h : (DataW.whole enc Tryz.prog ((((World.holding Tryz.prog os ⟨#[], #[], []⟩).setCell ⟨0, 0, none⟩ (.iface 142 (.agg #[.pointer (some ⟨4, 58, none⟩)]))).layVars Tryz.prog plainLaid).forCall (fun _ _ => 0) ⟨#[], #[.slice none 0 0], []⟩).memory Tryz.f4.params.toList Rows.fnExactBackUpSpec.vars false #[Value.slice none 0 0].toList 8).map (fun x => (x.1, x.2.1)) = some ([.nil], [Rows.laid_loop_example_stilway_impl_devRows, Rows.laid_loop_example_stilway_impl_listWords]) := by kernel_rfl
 obtain ⟨⟨a, b, c⟩, hx, e⟩ := Option.map_eq_some_iff.1 h
 simp only [Prod.mk.injEq] at e
 obtain ⟨rfl, rfl⟩ := e
 exact ⟨_, _, c, hx⟩
theorem lifted (os : Os) (started : os.Started) (H : Type) (enc : TypeId × Value → H) (F : Stop.Interp) :
  ReturnsInHanded {} Tryz.checked os 4 .any ((OpenSpec.ofChange Rows.fnExactBackUpSpec).preRow enc Tryz.prog Tryz.f4 Rows.fnExactBackUpRow.domain false Rows.fnExactBackUpRow.laid) (((OpenSpec.ofChange Rows.fnExactBackUpSpec).at F).post enc Tryz.prog Tryz.f4 false true false false) := by
 obtain ⟨g1, g2, places, hx⟩ := reads os enc
 refine returnsInHanded_of_row (C := Tryz.checked) (s := OpenSpec.ofChange Rows.fnExactBackUpSpec) own started (by kernel_rfl) Tryz.func4
  (witness_row_at (enc := enc) (C := Tryz.checked) false (((World.holding Tryz.prog os ⟨#[], #[], []⟩).setCell ⟨0, 0, none⟩ (.iface 142 (.agg #[.pointer (some ⟨4, 58, none⟩)]))).layVars Tryz.prog plainLaid) #[.slice none 0 0] (World.layVars_os _ _ _) (by kernel_rfl) (by kernel_rfl) (by kernel_rfl)
   (OpenSpec.preRow_of_cond 8 hx (by kernel_rfl) (fun k hk => by cases hk) (by kernel_rfl) (laid_met os))) ?_
 intro W base args ds gs before hval hW _ _ _ hL hsh _
 exact contract H enc W base args ds gs before hval hW hL hsh
theorem closed : joinedFacts Tryz.pinned.checked.prog 4 Tryz.f4 (OpenSpec.ofChange Rows.fnExactBackUpSpec).bare Rows.fnExactBackUpRow = true := by
 unfold joinedFacts
 simp only [Bool.and_eq_true]
 repeat' apply And.intro
 all_goals (as_aux_lemma => kernel_rfl)
theorem said : Rows.FnExactBackUpSaid :=
 OpenClaim.holds_of_cond 4 Tryz.f4 rfl rfl rfl rfl rfl rfl rfl ⟨rfl, rfl, rfl, rfl, rfl⟩ rfl rfl rfl rfl rfl (by kernel_rfl) Tryz.func4 closed
  (of_decide_eq_true (by kernel_rfl)) (by unfold Func.isWrapper; first | (rw [if_pos (by decide +kernel)]; kernel_rfl) | (rw [if_neg (by decide +kernel)]; exact ⟨rfl, rfl⟩))
  (fun os started H enc _ F => by rw [OpenClaim.pre_eq_preRow]; exact lifted os started H enc F)
theorem plain (f : FuncId) (fn : Func) (hf : Tryz.pinned.checked.prog.funcNamed "loop.example/stilway/laws.FnExactBackUp" = some f) (hfn : Tryz.pinned.checked.prog.funcs[f]? = some fn) :
  true = Tryz.pinned.checked.prog.looks [] ∧ ∀ (j : Nat) t, fn.params[j]? = some t → Tryz.pinned.checked.prog.wantsStandIn t = false := by
 obtain rfl : f = 4 := Option.some.inj ((show Tryz.prog.funcNamed "loop.example/stilway/laws.FnExactBackUp" = some 4 by kernel_rfl).symm.trans hf) |>.symm
 obtain rfl : fn = Tryz.f4 := (Option.some.inj (Tryz.func4.symm.trans hfn)).symm
 refine ⟨by kernel_rfl, fun j t ht => ?_⟩
 rw [Tryz.params4] at ht
 obtain rfl : t = 22 := by simpa using Array.mem_of_getElem? ht
 exact (show Tryz.prog.wantsStandIn 22 = false by kernel_rfl)
end Go.Proofs.YtpaljcoojkbhnaaGreatDoor.fnBackUp
namespace Go.Proofs.YtpaljcoojkbhnaaGreatDoor
theorem backUp_card : Rows.FnExactBackUpCardSaid :=
 Claim7.holds_tied_plain_at .later [] _ _ _ _ fnBackUp.said (fun _ h => by cases h) (by kernel_rfl) (fun _ h => by cases h) fnExactBackUp_row_tie rfl ⟨rfl, rfl⟩ (by kernel_rfl) rfl fnBackUp.plain (by kernel_rfl)
#print axioms backUp_card
end Go.Proofs.YtpaljcoojkbhnaaGreatDoor
