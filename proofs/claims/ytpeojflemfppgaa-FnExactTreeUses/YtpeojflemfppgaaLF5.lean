/- FnExactTreeUses: at every argument the program's TreeUses answers as the specification's and writes into no argument. No condition beyond the row's own. -/
import Derived.Test.YtpeojflemfppgaaFR3
import Derived.Test.YtpeojflemfppgaaLW5
import Derived.Test.YtpeojflemfppgaaRows
import Derived.Lib.SmallJoins
namespace Go.Proofs.Ytpeojflemfppgaa.fnTreeUses
open Go.ChangeShapes Go.WideShapes Go.ChangeAt Go.RowKit
theorem own : ownKnob Try.prog.godebug = none := by kernel_rfl
theorem laidOut : laidOutB Try.prog = true := by kernel_rfl
set_option maxRecDepth 100000 in
theorem contract (H : Type) (enc : TypeId × Value → H) (W : World) (base : Nat) (args : Array Value) (ds gs : List (DataW H)) (before : List MemPlace)
    (hval : ∀ (j : Nat) t v, Try.f5.params[j]? = some t → args[j]? = some v → Value.okWide Try.prog W .any base t v)
    (hW : DataW.Whole enc Try.prog Try.f5.params.toList Rows.fnExactTreeUsesSpec.vars false W args.toList ds gs before) :
    Calls Try.prog 5 args W fun e W' => ∃ v, e = .returned v ∧ Rows.fnExactTreeUsesSpec.post enc Try.prog Try.f5 false true false false W args v W' := by
  have hW' := hW
  obtain ⟨p, q, hA0, hV, rfl, hfz, hnd⟩ := hW
  have hA : DataW.TrodAll enc Try.prog W 0 (fun _ => true) true Try.f5.params.toList args.toList ds p := hA0
  rw [Try.params5] at hA hval
  obtain ⟨v0, vs0, d0, ds0, p0, q0, hargs, rfl, rfl, h0, r0⟩ := trodAll_cons hA
  obtain ⟨v1, vs1, d1, ds1, p1, q1, rfl, rfl, rfl, h1, r1⟩ := trodAll_cons r0
  obtain ⟨rfl, rfl, rfl⟩ := trodAll_nil r1
  obtain rfl : args = #[v0, v1] := by cases args; simp_all
  have h0k := h0
  have hlt0 : ∀ x ∈ p0, x.block < W.heap.size := fun x hx => by simpa using hW'.lt x (by simp [hx])
  have h1k := h1
  have hlt1 : ∀ x ∈ p1, x.block < W.heap.size := fun x hx => by simpa using hW'.lt x (by simp [hx])
  have hgs : gs = [] := by
    cases gs with
    | nil => rfl
    | cons g gs => exact hV.elim
  subst hgs
  obtain ⟨a0, l0, c0, rfl⟩ := okWide_slice Try.underlying22 (hval 0 22 v0 rfl rfl)
  obtain ⟨fu0, t0⟩ := h0
  obtain ⟨la0, hla0, wf0, ll0⟩ := arms_of_trod fu0 _ _ t0
  obtain ⟨ua, ub, uc, ya, yb, yc, nn, rfl, rfl, rfl, ta, tb, tc⟩ := Joins.open_agg3 Try.underlying31 (by kernel_rfl) cDev (hval 1 31 v1 rfl rfl) h1
  obtain ⟨ka, hka, _, _⟩ := DataW.trod_int Try.underlying3 ta
  obtain ⟨kb, hkb, _, _⟩ := DataW.trod_int Try.underlying3 tb
  obtain ⟨kc, hkc, _, _⟩ := DataW.trod_int Try.underlying3 tc
  obtain rfl : ua = .int .i64 ka := by simpa using hka
  obtain rfl : ub = .int .i64 kb := by simpa using hkb
  obtain rfl : uc = .int .i64 kc := by simpa using hkc
  obtain ⟨de1, hde1⟩ : ∃ de : Stil.Dev, de = ⟨ka, kb, kc⟩ := ⟨_, rfl⟩
  obtain ⟨ea, eb, ec⟩ : ka = de1.kind ∧ kb = de1.n ∧ kc = de1.p := by rw [hde1]; exact ⟨rfl, rfl, rfl⟩
  subst ea eb ec
  refine (law_treeUses _ la0 de1 W hla0 wf0 ll0).mono fun e W' ⟨he, hb⟩ => ?_
  subst he
  exact ⟨_, rfl, ⟨_, [], _, [], _, q, hW', trodAll_mk1 (shut_bool Try.underlying4 _), trodAll_mk2 (Below.trod laidOut (by kernel_rfl) (of_decide_eq_true (by kernel_rfl)) h0k hb hlt0) (Below.trod laidOut (by kernel_rfl) (of_decide_eq_true (by kernel_rfl)) h1k hb hlt1), hb.trodVars laidOut (by kernel_rfl) hV, hb.frame _, fun h => by cases h⟩⟩
theorem laid_met (os : Os) : laidMet Try.prog Rows.fnExactTreeUsesRow.laid ((World.laidAll Try.prog os Rows.fnExactTreeUsesRow.laid).forCall (fun _ _ => 0) ⟨#[], #[.slice none 0 0, .agg #[.int .i64 0, .int .i64 0, .int .i64 0]], []⟩).memory :=
  laidMet_laidAll _ (by kernel_rfl) (by kernel_rfl)
theorem reads (os : Os) {H : Type} (enc : TypeId × Value → H) : ∃ g places, DataW.whole enc Try.prog ((World.laidAll Try.prog os Rows.fnExactTreeUsesRow.laid).forCall (fun _ _ => 0) ⟨#[], #[.slice none 0 0, .agg #[.int .i64 0, .int .i64 0, .int .i64 0]], []⟩).memory Try.f5.params.toList Rows.fnExactTreeUsesSpec.vars false #[Value.slice none 0 0, Value.agg #[.int .i64 0, .int .i64 0, .int .i64 0]].toList 8 = some ([.nil, .agg [.lit (.int .i64 0), .lit (.int .i64 0), .lit (.int .i64 0)]], g, places) := by
  have h : (DataW.whole enc Try.prog ((World.laidAll Try.prog os Rows.fnExactTreeUsesRow.laid).forCall (fun _ _ => 0) ⟨#[], #[.slice none 0 0, .agg #[.int .i64 0, .int .i64 0, .int .i64 0]], []⟩).memory Try.f5.params.toList Rows.fnExactTreeUsesSpec.vars false #[Value.slice none 0 0, Value.agg #[.int .i64 0, .int .i64 0, .int .i64 0]].toList 8).map (fun x => (x.1, x.2.1)) = some ([.nil, .agg [.lit (.int .i64 0), .lit (.int .i64 0), .lit (.int .i64 0)]], []) := by kernel_rfl
  obtain ⟨⟨a, b, c⟩, hx, e⟩ := Option.map_eq_some_iff.1 h
  simp only [Prod.mk.injEq] at e
  obtain ⟨rfl, rfl⟩ := e
  exact ⟨_, c, hx⟩
set_option maxRecDepth 100000 in
theorem lifted (os : Os) (started : os.Started) (H : Type) (enc : TypeId × Value → H) (F : Stop.Interp) :
    ReturnsInHanded {} Try.checked os 5 .any ((OpenSpec.ofChange Rows.fnExactTreeUsesSpec).preRow enc Try.prog Try.f5 Rows.fnExactTreeUsesRow.domain false Rows.fnExactTreeUsesRow.laid) (((OpenSpec.ofChange Rows.fnExactTreeUsesSpec).at F).post enc Try.prog Try.f5 false true false false) := by
  obtain ⟨g, places, hx⟩ := reads os enc
  refine returnsInHanded_of_row (C := Try.checked) (s := OpenSpec.ofChange Rows.fnExactTreeUsesSpec) own started (by kernel_rfl) Try.func5
    (witness_row_at (enc := enc) (C := Try.checked) false (World.laidAll Try.prog os Rows.fnExactTreeUsesRow.laid) #[.slice none 0 0, .agg #[.int .i64 0, .int .i64 0, .int .i64 0]] (World.laidAll_os _ _ _) (by kernel_rfl) (by kernel_rfl) (by kernel_rfl)
      (OpenSpec.preRow_of_cond 8 hx (by kernel_rfl) (fun k hk => by cases hk) (by kernel_rfl) (laid_met os))) ?_
  intro W base args ds gs before hval hW _ _ _ hL _ _
  exact contract H enc W base args ds gs before hval hW
theorem said : Rows.FnExactTreeUsesSaid :=
  OpenClaim.holds_of_cond 5 Try.f5 rfl rfl rfl rfl rfl rfl rfl ⟨rfl, rfl, rfl, rfl, rfl⟩ rfl rfl rfl rfl rfl (by kernel_rfl) Try.func5 (by kernel_rfl)
    (of_decide_eq_true (by kernel_rfl)) (by unfold Func.isWrapper; first | (rw [if_pos (by decide +kernel)]; kernel_rfl) | (rw [if_neg (by decide +kernel)]; exact ⟨rfl, rfl⟩))
    (fun os started H enc _ F => by rw [OpenClaim.pre_eq_preRow]; exact lifted os started H enc F)
end Go.Proofs.Ytpeojflemfppgaa.fnTreeUses
namespace Go.Proofs.Ytpeojflemfppgaa
theorem treeUses_said : Rows.FnExactTreeUsesSaid := fnTreeUses.said
#print axioms treeUses_said
end Go.Proofs.Ytpeojflemfppgaa
