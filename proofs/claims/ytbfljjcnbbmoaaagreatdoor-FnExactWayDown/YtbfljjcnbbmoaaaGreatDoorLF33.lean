/- FnExactWayDown: at every ladder the program's WayDown, which starts goroutines, answers as the specification's, list and word, writes into no argument, and its answer owns its memory. The table of kinds and the handle of the type 'error' are as the program's text lays them (the card's tie). No other condition. -/
import Derived.Test.YtbfljjcnbbmoaaaGreatDoorFR3
import Derived.Test.YtbfljjcnbbmoaaaGreatDoorLW33
import Derived.LaidHandle
import Derived.SevenTiedAt
import Derived.Test.YtbfljjcnbbmoaaaGreatDoorCards
import Derived.Test.YtbfljjcnbbmoaaaGreatDoorTie
set_option maxHeartbeats 4000000
set_option maxRecDepth 100000
namespace Go.Proofs.YtbfljjcnbbmoaaaGreatDoor.fnWayDown
open Go.ChangeShapes Go.WideShapes Go.ChangeAt Go.RowKit Go.Conc
theorem own:ownKnob Tryz.prog.godebug=none:=by kernel_rfl
theorem laidOut:laidOutB Tryz.prog=true:=by kernel_rfl
def Ox:List (String × DataW Unit):=[("loop.example/stilway/impl.devRows",Rows.laid_loop_example_stilway_impl_devRows)]
theorem contract (H:Type)(enc:TypeId × Value->H)(W:World)(base:Nat)(args:Array Value)(ds gs:List (DataW H))(before:List MemPlace)
  (hval:∀(j:Nat) t v,Tryz.f4.params[j]?=some t->args[j]?=some v->Value.okWide Tryz.prog W .any base t v)
  (hW:DataW.Whole enc Tryz.prog Tryz.f4.params.toList Rows.fnExactWayDownSpec.vars false W args.toList ds gs before) (hL:laidMetH Tryz.prog Rows.fnExactWayDownRow.laid W):
  ∃N last o w' t',runNT Tryz.prog (N+1) (solo (G (Frame.enter Tryz.prog 4 args .normal) []) W) #[]=(.ended o w',t')/\runN Tryz.prog N (solo (G (Frame.enter Tryz.prog 4 args .normal) []) W)=.next last/\step Tryz.prog last=.ended o w'/\
   Conc.Good Tryz.prog (λv W'=>Rows.fnExactWayDownSpec.post enc Tryz.prog Tryz.f4 false true false false W args v W') last o w' t':=by
 have hW':=hW;obtain⟨p,q,hA0,hV,rfl,hfz,hnd⟩:=hW;have hA:DataW.TrodAll enc Tryz.prog W 0 (λ_=>true) true Tryz.f4.params.toList args.toList ds p:=hA0;rw[Tryz.params4] at hA hval;obtain⟨v0,vs0,d0,ds0,p0,q0,hargs,rfl,rfl,h0,r0⟩:=trodAll_cons hA;obtain⟨rfl,rfl,rfl⟩:=trodAll_nil r0;obtain rfl:args=#[v0]:=by cases args;simp_all
 have h0k:=h0;have hlt:∀x∈p0,x.block<W.heap.size:=λx hx=>by simpa using hW'.lt x (by simp[hx])
 obtain⟨g1,hgs⟩:∃g1,gs=[g1]:=by
  obtain⟨g,t,cs,fuel,d,p',hq,e⟩:=trodVars_one hV;exact⟨d,hq⟩
 subst hgs;obtain⟨a0,l0,c0,rfl⟩:=okWide_slice Tryz.underlying22 (hval 0 22 v0 rfl rfl);obtain⟨fu0,t0⟩:=h0;obtain⟨la0,hla0,wf0,ll0⟩:=Ako fu0 _ _ t0;have hL':laidMet Tryz.prog [("loop.example/stilway/impl.devRows",Rows.laid_loop_example_stilway_impl_devRows)] W/\handlesMet Tryz.prog [("errors.errorType",Rows.laid_errors_errorType)] W:=hL;have hrow:Es W:=Aim hL'.1 (List.mem_cons_self ..);have herr:Et W:=Aml hL'.2;refine Ayx Tryz.func4 rfl rfl (by kernel_rfl) (Al4 _ la0 W hrow herr hla0 wf0 ll0) λw' hB=>?_
 have hb:=hB.tape w'.drawn;have hp:Rows.fnExactWayDownSpec.post enc Tryz.prog Tryz.f4 false true false false W #[.slice a0 l0 c0] (.bool true) {w' with tape:=W.tape,drawn:=w'.drawn}:=⟨_,_,_,[],_,q,hW',trodAll_mk1 (shut_bool Tryz.underlying4 _),trodAll_mk1 (Below.trod laidOut (by kernel_rfl) (of_decide_eq_true (by kernel_rfl)) h0k hb hlt),hb.trodVars laidOut (by kernel_rfl) hV,hb.frame _,λh=>by cases h⟩
 obtain⟨ds,gs,before,pr,pa,pv,h1,h2,h3,h4,h5,h6⟩:=hp;exact⟨ds,gs,before,pr,pa,pv,h1,h2.of_heap (by rfl),h3.of_heap (by rfl),h4.of_heap (by rfl),h5,λh=>by cases h⟩
theorem Auj (os:Os):laidMet Tryz.prog Ox (((World.holding Tryz.prog os ⟨#[],#[],[]⟩).setCell ⟨0,0,none⟩ (.iface 156 (.agg #[.pointer (some ⟨3,113,none⟩)]))).layVars Tryz.prog Ox):=
 laidMet_layVars (w0:=((World.holding Tryz.prog os ⟨#[],#[],[]⟩).setCell ⟨0,0,none⟩ (.iface 156 (.agg #[.pointer (some ⟨3,113,none⟩)])))) (Ox.map (·.1)) [] (by rfl) (by kernel_rfl) (by kernel_rfl) LaidIn.none
theorem laid_met (os:Os):laidMetH Tryz.prog Rows.fnExactWayDownRow.laid ((((World.holding Tryz.prog os ⟨#[],#[],[]⟩).setCell ⟨0,0,none⟩ (.iface 156 (.agg #[.pointer (some ⟨3,113,none⟩)]))).layVars Tryz.prog Ox).forCall (λ_ _=>0) ⟨#[],#[.slice none 0 0],[]⟩).memory:=
 laidMetH_of_parts (show laidMet Tryz.prog Ox _ from(Auj os).of_heap (by simp[World.memory,World.forCall,Input.heap])) (by kernel_rfl)
theorem reads (os:Os){H:Type}(enc:TypeId × Value->H):∃g places,DataW.whole enc Tryz.prog ((((World.holding Tryz.prog os ⟨#[],#[],[]⟩).setCell ⟨0,0,none⟩ (.iface 156 (.agg #[.pointer (some ⟨3,113,none⟩)]))).layVars Tryz.prog Ox).forCall (λ_ _=>0) ⟨#[],#[.slice none 0 0],[]⟩).memory Tryz.f4.params.toList Rows.fnExactWayDownSpec.vars false #[Value.slice none 0 0].toList 8=some ([.nil],[g],places):=by
 have h:(DataW.whole enc Tryz.prog ((((World.holding Tryz.prog os ⟨#[],#[],[]⟩).setCell ⟨0,0,none⟩ (.iface 156 (.agg #[.pointer (some ⟨3,113,none⟩)]))).layVars Tryz.prog Ox).forCall (λ_ _=>0) ⟨#[],#[.slice none 0 0],[]⟩).memory Tryz.f4.params.toList Rows.fnExactWayDownSpec.vars false #[Value.slice none 0 0].toList 8).map (λx=>(x.1,x.2.1))=some ([.nil],[Rows.laid_loop_example_stilway_impl_devRows]):=by kernel_rfl
 obtain⟨⟨a,b,c⟩,hx,e⟩:=Option.map_eq_some_iff.1 h;simp only[Prod.mk.injEq] at e;obtain⟨rfl,rfl⟩:=e;exact⟨_,c,hx⟩
theorem lifted (os:Os)(started:os.Started)(H:Type)(enc:TypeId × Value->H):
  ReturnsInLeavingWide {} Tryz.checked os 4 .any ((OpenSpec.ofChange Rows.fnExactWayDownSpec).preRow enc Tryz.prog Tryz.f4 Rows.fnExactWayDownRow.domain false Rows.fnExactWayDownRow.laid) (Rows.fnExactWayDownSpec.post enc Tryz.prog Tryz.f4 false true false false):=by
 obtain⟨g,places,hx⟩:=reads os enc;refine returnsInLeavingWide_of_good (C:=Tryz.checked) own started
  (witness_row_at (enc:=enc) (C:=Tryz.checked) false (((World.holding Tryz.prog os ⟨#[],#[],[]⟩).setCell ⟨0,0,none⟩ (.iface 156 (.agg #[.pointer (some ⟨3,113,none⟩)]))).layVars Tryz.prog Ox) #[.slice none 0 0] (World.layVars_os _ _ _) (by kernel_rfl) (by kernel_rfl) (by kernel_rfl)
   (OpenSpec.preRow_of_cond 8 hx (by kernel_rfl) (λk hk=>by cases hk) (by kernel_rfl) (laid_met os))) ?_
 intro w tape i _ _ _ hok hpre _;obtain⟨_,_,_,fn',hfn',_,_,_,_,hval⟩:=hok;have e:fn'=Tryz.f4:=Option.some.inj (hfn'.symm.trans Tryz.func4);subst e;obtain⟨⟨hp,hl⟩,_⟩:=hpre;obtain⟨ds,gs,before,hw,_,_⟩:=OpenSpec.pre_parts hp;have hw':=DataW.Whole.of_heap (w':=w.forCall tape i) (by rfl) hw;obtain⟨M,last,o,w',t',h1,h2,h3,h4⟩:=contract H enc (w.forCall tape i) w.heap.size i.args ds gs before hval hw' (hl.of_heap (by rfl));exact⟨M,last,o,w',t',h1,h2,h3,h4.mono λv hp=>ChangeSpec.post_blind hp⟩
theorem closed:joinedFacts Tryz.pinned.checked.prog 4 Tryz.f4 Rows.fnExactWayDownSpec Rows.fnExactWayDownRow=true:=by
 unfold joinedFacts;simp only[Bool.and_eq_true];repeat' apply And.intro
 all_goals (as_aux_lemma=>kernel_rfl)
theorem said:Rows.FnExactWayDownSaid:=
 OpenClaim.holds_of_wide_leaving 4 Tryz.f4 rfl rfl rfl rfl rfl rfl rfl ⟨rfl,rfl,rfl,rfl,rfl⟩ rfl rfl rfl rfl rfl (by kernel_rfl) Tryz.func4 closed
  (of_decide_eq_true (by kernel_rfl)) (by unfold Func.isWrapper;first | (rw[if_pos (by decide+kernel)];kernel_rfl) | (rw[if_neg (by decide+kernel)];exact⟨rfl,rfl⟩))
  (λos started H enc _=>by rw[OpenClaim.pre_eq_preRow];exact lifted os started H enc)
theorem plain (f:FuncId)(fn:Func)(hf:Tryz.pinned.checked.prog.funcNamed "loop.example/stilway/laws.FnExactWayDown" =some f)(hfn:Tryz.pinned.checked.prog.funcs[f]?=some fn):
  true=Tryz.pinned.checked.prog.looks []/\∀(j:Nat) t,fn.params[j]?=some t->Tryz.pinned.checked.prog.wantsStandIn t=false:=by
 obtain rfl:f=4:=Option.some.inj ((show Tryz.prog.funcNamed "loop.example/stilway/laws.FnExactWayDown" =some 4 by kernel_rfl).symm.trans hf) |>.symm
 obtain rfl:fn=Tryz.f4:=(Option.some.inj (Tryz.func4.symm.trans hfn)).symm;refine⟨by kernel_rfl,λj t ht=>?_⟩;rw[Tryz.params4] at ht;obtain rfl:t=22:=by simpa using Array.mem_of_getElem? ht
 exact(show Tryz.prog.wantsStandIn 22=false by kernel_rfl)
theorem card:Rows.FnExactWayDownCardSaid:=
 ⟨Claim7.tied_new_at .later [.handle, .data] true (Claim7.new_of_sixth said _ true rfl ⟨rfl,rfl⟩ (by kernel_rfl) rfl plain) (by kernel_rfl),(λ_ h=>by cases h),fnExactWayDown_row_tie,(λh=>by cases h),by kernel_rfl⟩
end Go.Proofs.YtbfljjcnbbmoaaaGreatDoor.fnWayDown
namespace Go.Proofs.YtbfljjcnbbmoaaaGreatDoor
theorem wayDown_card:Rows.FnExactWayDownCardSaid:=fnWayDown.card
#print axioms wayDown_card
end Go.Proofs.YtbfljjcnbbmoaaaGreatDoor
