/- FnBackList: of every code, the list that is drawn of it: it comes up as the document's model says, with the same code, and the code is that of a bad list exactly where the list is not verified; what does not come up has no rung; what comes up is accepted and in normal form, and goes down to a verified list that is not longer, and whose stacks are no deeper. The tables of kinds and of words and the handle of the type 'error' are as the program's text lays them (the card's tie). No other condition. -/
import Derived.Test.YthdogflpbpkbeaaGreatDoorLW40
import Derived.Test.YthdogflpbpkbeaaGreatDoorCards
import Derived.Test.YthdogflpbpkbeaaGreatDoorTie
set_option linter.defProp false
set_option maxHeartbeats 4000000
set_option maxRecDepth 100000
namespace Go.Proofs.YthdogflpbpkbeaaGreatDoor.fBackList
open Go.ChangeShapes Go.WideShapes Go.ChangeAt Go.RowKit Go.Conc
def own:ownKnob Tryz.prog.godebug=none:=by kernel_rfl
def laidOut:laidOutB Tryz.prog=true:=by kernel_rfl
def Q3:List (String × DataW Unit):=[("loop.example/stilway/impl.devRows",Rows.laid_loop_example_stilway_impl_devRows),("loop.example/stilway/impl.listWords",Rows.laid_loop_example_stilway_impl_listWords)]
def contract(H:Type)(enc:AZ × AW->H)(W:AU)(base:Nat)(args:δ)(ds gs:List (DataW H))(before:List MemPlace)
  (n:∀(j:Nat)t v,Tryz.f3.params[j]?=some t->args[j]?=some v->Value.okWide Tryz.prog W .any base t v)
  (k:DataW.Whole enc Tryz.prog Tryz.f3.params.toList Rows.fnBackListSpec.vars false W args.toList ds gs before) (r:laidMetH Tryz.prog Rows.fnBackListRow.laid W):
  ∃N last o a l,runNT Tryz.prog (N+1) (solo (G (Frame.enter Tryz.prog 3 args .normal) []) W) #[]=(.ended o a,l)/\runN Tryz.prog N (solo (G (Frame.enter Tryz.prog 3 args .normal) []) W)=.next last/\step Tryz.prog last=.ended o a/\
   Conc.Good Tryz.prog (λv I=>Rows.fnBackListSpec.post enc Tryz.prog Tryz.f3 false true false false W args v I) last o a l:=by
 have g:=k;obtain⟨p,q,w,f,rfl,ab,ac⟩:=k;have m:DataW.TrodAll enc Tryz.prog W 0 (λ_=>true) true Tryz.f3.params.toList args.toList ds p:=w;rw[Tryz.params3]at m n;obtain⟨v0,aa,d0,af,A,Z,ae,rfl,rfl,i,V⟩:=trodAll_cons m;obtain⟨rfl,rfl,rfl⟩:=trodAll_nil V;obtain rfl:args=#[v0]:=by cases args;simp_all
 have C:=i;have O:∀x∈A,x.block<W.z:=λx R=>by simpa using g.lt x (by simp[R])
 obtain⟨b,c,T⟩:∃b c,gs=[b,c]:=by match gs,f with|[b,c],_=>exact⟨b,c,rfl⟩|[],h=>exact h.elim|[_],⟨_,_,_,_,_,_,_,_,_,_,h,_⟩=>exact h.elim|_::_::_::_,⟨_,_,_,_,_,_,_,_,_,_,⟨_,_,_,_,_,_,_,_,_,_,h,_⟩,_⟩=>exact h.elim
 subst T;obtain⟨U,M,E,rfl⟩:=okWide_slice Tryz.underlying22 (n 0 22 v0 rfl rfl);obtain⟨ad,B⟩:=i;have K:=uE B;have e:laidMet Tryz.prog [("loop.example/stilway/impl.devRows",Rows.laid_loop_example_stilway_impl_devRows),("loop.example/stilway/impl.listWords",Rows.laid_loop_example_stilway_impl_listWords)] W/\handlesMet Tryz.prog [("errors.errorType",Rows.laid_errors_errorType)] W:=r;have y:Eh W:=vG e.1 (E6 ..);have Y:Hr W:=tB e.1 (Da _ (E6 ..));have X:Ew W:=x7 e.2;refine l6 Tryz.func3 rfl rfl (by kernel_rfl) (vh tG _ W y X Y K) λa F=>?_;have d:=F.tape a.drawn;have L:Rows.fnBackListSpec.post enc Tryz.prog Tryz.f3 false true false false W #[AE U M E] (.bool true) {a with tape:=W.tape,drawn:=a.drawn}:=⟨_,_,_,[],_,q,g,trodAll_mk1 (shut_bool Tryz.underlying4 _),trodAll_mk1 (Below.trod laidOut (by kernel_rfl) (of_decide_eq_true (by kernel_rfl)) C d O),d.trodVars laidOut (by kernel_rfl) f,d.frame _,λh=>by cases h⟩;obtain⟨ds,gs,before,D,P,S,s,u,J,Q,z,h6⟩:=L;exact⟨ds,gs,before,D,P,S,s,u.of_heap (by rfl),J.of_heap (by rfl),Q.of_heap (by rfl),z,λh=>by cases h⟩
def Ay5(os:Os):laidMet Tryz.prog Q3 (((World.holding Tryz.prog os ⟨#[],#[],[]⟩).setCell (AK 0 0) (.iface 174 (.agg #[.pointer (some (AK 4 49))]))).layVars Tryz.prog Q3):=
 laidMet_layVars (w0:=((World.holding Tryz.prog os ⟨#[],#[],[]⟩).s (AK 0 0) (.iface 174 (.agg #[.pointer (some (AK 4 49))])))) (Q3.map (·.1)) [] (by rfl) (by kernel_rfl) (by kernel_rfl) LaidIn.none
def laid_met(os:Os):laidMetH Tryz.prog Rows.fnBackListRow.laid ((((World.holding Tryz.prog os ⟨#[],#[],[]⟩).setCell (AK 0 0) (.iface 174 (.agg #[.pointer (some (AK 4 49))]))).layVars Tryz.prog Q3).forCall (λ_ _=>0) ⟨#[],#[AG],[]⟩).memory:=
 laidMetH_of_parts (show laidMet Tryz.prog Q3 _ from(Ay5 os).of_heap (by simp[World.memory,World.forCall,Input.heap])) (by kernel_rfl)
def reads(os:Os){H:Type}(enc:AZ × AW->H):∃g f places,DataW.whole enc Tryz.prog ((((World.holding Tryz.prog os ⟨#[],#[],[]⟩).setCell (AK 0 0) (.iface 174 (.agg #[.pointer (some (AK 4 49))]))).layVars Tryz.prog Q3).forCall (λ_ _=>0) ⟨#[],#[AG],[]⟩).memory Tryz.f3.params.toList Rows.fnBackListSpec.vars false #[Value.slice none 0 0].toList 8=some ([.nil],[g,f],places):=by
 have h:(DataW.whole enc Tryz.prog ((((World.holding Tryz.prog os ⟨#[],#[],[]⟩).s (AK 0 0) (.iface 174 (.agg #[.pointer (some (AK 4 49))]))).layVars Tryz.prog Q3).forCall (λ_ _=>0) ⟨#[],#[AG],[]⟩).memory Tryz.f3.params.toList Rows.fnBackListSpec.vars false #[Value.slice none 0 0].toList 8).map (λx=>(x.1,x.2.1))=some ([.nil],[Rows.laid_loop_example_stilway_impl_devRows,Rows.laid_loop_example_stilway_impl_listWords]):=by kernel_rfl
 have⟨⟨a,b,c⟩,d,e⟩:=Option.map_eq_some_iff.1 h;simp only[Prod.mk.injEq]at e;obtain⟨rfl,rfl⟩:=e;exact⟨_,_,c,d⟩
def lifted(os:Os)(started:os.Started)(H:Type)(enc:AZ × AW->H):
  ReturnsInLeavingWide {} Tryz.checked os 3 .any ((OpenSpec.ofChange Rows.fnBackListSpec).preRow enc Tryz.prog Tryz.f3 Rows.fnBackListRow.domain false Rows.fnBackListRow.laid) (Rows.fnBackListSpec.post enc Tryz.prog Tryz.f3 false true false false):=by
 have⟨g,z,places,l⟩:=reads os enc;refine returnsInLeavingWide_of_good (C:=Tryz.checked) own started
  (witness_row_at (enc:=enc) (C:=Tryz.checked) false (((World.holding Tryz.prog os ⟨#[],#[],[]⟩).s (AK 0 0) (.iface 174 (.agg #[.pointer (some (AK 4 49))]))).layVars Tryz.prog Q3) #[AG] (World.layVars_os _ _ _) (by kernel_rfl) (by kernel_rfl) (by kernel_rfl)
   (OpenSpec.preRow_of_cond 8 l (by kernel_rfl) (λk y=>by cases y) (by kernel_rfl) (laid_met os))) ?_
 intro w tape i _ _ _ u p _;obtain⟨_,_,_,r,q,_,_,_,_,x⟩:=u;have e:r=Tryz.f3:=E1 (q.symm.trans Tryz.func3);subst e;obtain⟨⟨a,t⟩,_⟩:=p;have⟨d,n,before,m,_,_⟩:=OpenSpec.pre_parts a;have h:=DataW.Whole.of_heap (w':=w.forCall tape i) (by rfl) m;have⟨M,last,o,w',s,b,c,f,j⟩:=contract H enc (w.forCall tape i) w.z i.args d n before x h (t.of_heap (by rfl));exact⟨M,last,o,w',s,b,c,f,j.mono λv a=>ChangeSpec.post_blind a⟩
def closed:joinedFacts Tryz.pinned.checked.prog 3 Tryz.f3 Rows.fnBackListSpec Rows.fnBackListRow=true:=by
 unfold joinedFacts;simp only[Bool.and_eq_true];repeat' apply And.intro
 all_goals(as_aux_lemma=>kernel_rfl)
def said:Rows.FnBackListSaid:=
 OpenClaim.holds_of_wide_leaving 3 Tryz.f3 rfl rfl rfl rfl rfl rfl rfl ⟨rfl,rfl,rfl,rfl,rfl⟩ rfl rfl rfl rfl rfl (by kernel_rfl) Tryz.func3 closed
  (of_decide_eq_true (by kernel_rfl)) (by unfold Func.isWrapper;first|(rw[BR (by decide+kernel)];kernel_rfl)|(rw[BQ (by decide+kernel)];exact⟨rfl,rfl⟩))
  (λos started H enc _=>by rw[OpenClaim.pre_eq_preRow];exact lifted os started H enc)
def plain(f:FuncId)(fn:Func)(b:Tryz.pinned.checked.prog.funcNamed "loop.example/stilway/laws.FnBackList" =some f)(c:Tryz.pinned.checked.prog.funcs[f]?=some fn):
  true=Tryz.pinned.checked.prog.looks []/\∀(j:Nat)t,fn.params[j]?=some t->Tryz.pinned.checked.prog.wantsStandIn t=false:=by
 obtain rfl:f=3:=E1 ((show Tryz.prog.funcNamed "loop.example/stilway/laws.FnBackList" =some 3 by kernel_rfl).symm.tr b) |>.symm;obtain rfl:fn=Tryz.f3:=(E1 (Tryz.func3.symm.tr c)).symm;refine⟨by kernel_rfl,λj t a=>?_⟩;rw[Tryz.params3]at a;obtain rfl:t=22:=by simpa using Array.mem_of_getElem? a
 exact(show Tryz.prog.wantsStandIn 22=false by kernel_rfl)
def card:Rows.FnBackListCardSaid:=
 ⟨Claim7.tied_new_at .later [.handle,.data] true (Claim7.new_of_sixth said _ true rfl ⟨rfl,rfl⟩ (by kernel_rfl) rfl plain) (by kernel_rfl),(λ_ h=>by cases h),fnBackList_row_tie,(λh=>by cases h),by kernel_rfl⟩
end Go.Proofs.YthdogflpbpkbeaaGreatDoor.fBackList
namespace Go.Proofs.YthdogflpbpkbeaaGreatDoor
theorem backList_card:Rows.FnBackListCardSaid:=fBackList.card
#print axioms backList_card
