/- FnWayTop: of every code, the ladder that is drawn of it: its depths are the peaks of both stacks over its list; it is refused as bad just where it is, as too deep just where the list does not fit (and then the verifier refuses the list), and else its list is the plain one, is verified and short. The tables of kinds and of words and the handle of the type 'error' are as the program's text lays them (the card's tie). No other condition. -/
import Derived.Test.YtifcnfeppdbjdaaGreatDoorD28
import Derived.Test.YtifcnfeppdbjdaaGreatDoorCards
import Derived.Test.YtifcnfeppdbjdaaGreatDoorTie
set_option maxHeartbeats 4000000
set_option maxRecDepth 100000
namespace Go.Proofs.YtifcnfeppdbjdaaGreatDoor.fWayTop
open Go.ChangeShapes Go.WideShapes Go.ChangeAt Go.RowKit Go.Conc
theorem own:ownKnob Tryz.prog.godebug=none:=by kernel_rfl
theorem laidOut:laidOutB Tryz.prog=true:=by kernel_rfl
def Qw:List (String × DataW Unit):=[("loop.example/stilway/impl.devRows",Rows.laid_loop_example_stilway_impl_devRows),("loop.example/stilway/impl.listWords",Rows.laid_loop_example_stilway_impl_listWords)]
theorem contract (H:Type)(enc:TypeId × Value->H)(W:World)(base:Nat)(args:Array Value)(c gs:List (DataW H))(before:List MemPlace)
  (i:∀(j:Nat) t v,Tryz.f3.params[j]?=some t->args[j]?=some v->Value.okWide Tryz.prog W .any base t v)
  (l:DataW.Whole enc Tryz.prog Tryz.f3.params.toList Rows.fnWayTopSpec.vars false W args.toList c gs before) (Q:laidMetH Tryz.prog Rows.fnWayTopRow.laid W):
  ∃N last o a r,runNT Tryz.prog (N+1) (solo (G (Frame.enter Tryz.prog 3 args .normal) []) W) #[]=(.ended o a,r)/\runN Tryz.prog N (solo (G (Frame.enter Tryz.prog 3 args .normal) []) W)=.next last/\step Tryz.prog last=.ended o a/\
   Conc.Good Tryz.prog (λv O=>Rows.fnWayTopSpec.post enc Tryz.prog Tryz.f3 false true false false W args v O) last o a r:=by
 have m:=l;obtain⟨p,q,C,g,rfl,ac,ag⟩:=l;have n:DataW.TrodAll enc Tryz.prog W 0 (λ_=>true) true Tryz.f3.params.toList args.toList c p:=C;rw[Tryz.params3] at n i;obtain⟨v0,aa,d0,ab,A,q0,ae,rfl,rfl,k,D⟩:=trodAll_cons n;obtain⟨rfl,rfl,rfl⟩:=trodAll_nil D;obtain rfl:args=#[v0]:=by cases args;simp_all
 have M:=k;have J:∀x∈A,x.block<W.heap.size:=λx R=>by simpa using m.lt x (by simp[R])
 obtain⟨d,b,U⟩:∃d b,gs=[d,b]:=by
  match gs,g with
  | [d,b],_=>exact⟨d,b,rfl⟩
  | [],h=>exact h.elim
  | [_],⟨_,_,_,_,_,_,_,_,_,_,h,_⟩=>exact h.elim
  | _::_::_::_,⟨_,_,_,_,_,_,_,_,_,_,⟨_,_,_,_,_,_,_,_,_,_,h,_⟩,_⟩=>exact h.elim
 subst U;obtain⟨s,l0,K,rfl⟩:=okWide_slice Tryz.underlying22 (i 0 22 v0 rfl rfl);obtain⟨af,S⟩:=k;have T:=rj S;have e:laidMet Tryz.prog [("loop.example/stilway/impl.devRows",Rows.laid_loop_example_stilway_impl_devRows),("loop.example/stilway/impl.listWords",Rows.laid_loop_example_stilway_impl_listWords)] W/\handlesMet Tryz.prog [("errors.errorType",Rows.laid_errors_errorType)] W:=Q;have L:Et W:=sH e.1 (E4 ..);have V:Ji W:=qG e.1 (CQ _ (E4 ..));have y:Fh W:=uk e.2;refine iv Tryz.func3 rfl rfl (by kernel_rfl) (xp (λu w h=>qV u w h) _ W L y V T) λa E=>?_
 have f:=E.tape a.drawn;have F:Rows.fnWayTopSpec.post enc Tryz.prog Tryz.f3 false true false false W #[AE s l0 K] (.bool true) {a with tape:=W.tape,drawn:=a.drawn}:=⟨_,_,_,[],_,q,m,trodAll_mk1 (shut_bool Tryz.underlying4 _),trodAll_mk1 (Below.trod laidOut (by kernel_rfl) (of_decide_eq_true (by kernel_rfl)) M f J),f.trodVars laidOut (by kernel_rfl) g,f.frame _,λh=>by cases h⟩
 obtain⟨c,gs,before,X,z,B,Y,Z,P,I,h5,h6⟩:=F;exact⟨c,gs,before,X,z,B,Y,Z.of_heap (by rfl),P.of_heap (by rfl),I.of_heap (by rfl),h5,λh=>by cases h⟩
theorem Ayj (os:Os):laidMet Tryz.prog Qw (((World.holding Tryz.prog os ⟨#[],#[],[]⟩).setCell (AK 0 0) (.iface 160 (.agg #[.pointer (some (AK 4 109))]))).layVars Tryz.prog Qw):=
 laidMet_layVars (w0:=((World.holding Tryz.prog os ⟨#[],#[],[]⟩).setCell (AK 0 0) (.iface 160 (.agg #[.pointer (some (AK 4 109))])))) (Qw.map (·.1)) [] (by rfl) (by kernel_rfl) (by kernel_rfl) LaidIn.none
theorem laid_met (os:Os):laidMetH Tryz.prog Rows.fnWayTopRow.laid ((((World.holding Tryz.prog os ⟨#[],#[],[]⟩).setCell (AK 0 0) (.iface 160 (.agg #[.pointer (some (AK 4 109))]))).layVars Tryz.prog Qw).forCall (λ_ _=>0) ⟨#[],#[AG],[]⟩).memory:=
 laidMetH_of_parts (show laidMet Tryz.prog Qw _ from(Ayj os).of_heap (by simp[World.memory,World.forCall,Input.heap])) (by kernel_rfl)
theorem reads (os:Os){H:Type}(enc:TypeId × Value->H):∃g f places,DataW.whole enc Tryz.prog ((((World.holding Tryz.prog os ⟨#[],#[],[]⟩).setCell (AK 0 0) (.iface 160 (.agg #[.pointer (some (AK 4 109))]))).layVars Tryz.prog Qw).forCall (λ_ _=>0) ⟨#[],#[AG],[]⟩).memory Tryz.f3.params.toList Rows.fnWayTopSpec.vars false #[Value.slice none 0 0].toList 8=some ([.nil],[g,f],places):=by
 have h:(DataW.whole enc Tryz.prog ((((World.holding Tryz.prog os ⟨#[],#[],[]⟩).setCell (AK 0 0) (.iface 160 (.agg #[.pointer (some (AK 4 109))]))).layVars Tryz.prog Qw).forCall (λ_ _=>0) ⟨#[],#[AG],[]⟩).memory Tryz.f3.params.toList Rows.fnWayTopSpec.vars false #[Value.slice none 0 0].toList 8).map (λx=>(x.1,x.2.1))=some ([.nil],[Rows.laid_loop_example_stilway_impl_devRows,Rows.laid_loop_example_stilway_impl_listWords]):=by kernel_rfl
 have⟨⟨a,b,c⟩,d,e⟩:=Option.map_eq_some_iff.1 h;simp only[Prod.mk.injEq] at e;obtain⟨rfl,rfl⟩:=e;exact⟨_,_,c,d⟩
theorem lifted (os:Os)(started:os.Started)(H:Type)(enc:TypeId × Value->H):
  ReturnsInLeavingWide {} Tryz.checked os 3 .any ((OpenSpec.ofChange Rows.fnWayTopSpec).preRow enc Tryz.prog Tryz.f3 Rows.fnWayTopRow.domain false Rows.fnWayTopRow.laid) (Rows.fnWayTopSpec.post enc Tryz.prog Tryz.f3 false true false false):=by
 have⟨g,z,places,n⟩:=reads os enc;refine returnsInLeavingWide_of_good (C:=Tryz.checked) own started
  (witness_row_at (enc:=enc) (C:=Tryz.checked) false (((World.holding Tryz.prog os ⟨#[],#[],[]⟩).setCell (AK 0 0) (.iface 160 (.agg #[.pointer (some (AK 4 109))]))).layVars Tryz.prog Qw) #[AG] (World.layVars_os _ _ _) (by kernel_rfl) (by kernel_rfl) (by kernel_rfl)
   (OpenSpec.preRow_of_cond 8 n (by kernel_rfl) (λk q=>by cases q) (by kernel_rfl) (laid_met os))) ?_
 intro w tape i _ _ _ h u _;obtain⟨_,_,_,y,s,_,_,_,_,b⟩:=h;have e:y=Tryz.f3:=DG (s.symm.trans Tryz.func3);subst e;obtain⟨⟨a,r⟩,_⟩:=u;have⟨p,d,before,j,_,_⟩:=OpenSpec.pre_parts a;have f:=DataW.Whole.of_heap (w':=w.forCall tape i) (by rfl) j;have⟨M,last,o,w',l,t,x,m,c⟩:=contract H enc (w.forCall tape i) w.heap.size i.args p d before b f (r.of_heap (by rfl));exact⟨M,last,o,w',l,t,x,m,c.mono λv a=>ChangeSpec.post_blind a⟩
theorem closed:joinedFacts Tryz.pinned.checked.prog 3 Tryz.f3 Rows.fnWayTopSpec Rows.fnWayTopRow=true:=by
 unfold joinedFacts;simp only[Bool.and_eq_true];repeat' apply And.intro
 all_goals (as_aux_lemma=>kernel_rfl)
theorem said:Rows.FnWayTopSaid:=
 OpenClaim.holds_of_wide_leaving 3 Tryz.f3 rfl rfl rfl rfl rfl rfl rfl ⟨rfl,rfl,rfl,rfl,rfl⟩ rfl rfl rfl rfl rfl (by kernel_rfl) Tryz.func3 closed
  (of_decide_eq_true (by kernel_rfl)) (by unfold Func.isWrapper;first | (rw[if_pos (by decide+kernel)];kernel_rfl) | (rw[if_neg (by decide+kernel)];exact⟨rfl,rfl⟩))
  (λos started H enc _=>by rw[OpenClaim.pre_eq_preRow];exact lifted os started H enc)
theorem plain (f:FuncId)(fn:Func)(b:Tryz.pinned.checked.prog.funcNamed "loop.example/stilway/laws.FnWayTop" =some f)(c:Tryz.pinned.checked.prog.funcs[f]?=some fn):
  true=Tryz.pinned.checked.prog.looks []/\∀(j:Nat) t,fn.params[j]?=some t->Tryz.pinned.checked.prog.wantsStandIn t=false:=by
 obtain rfl:f=3:=DG ((show Tryz.prog.funcNamed "loop.example/stilway/laws.FnWayTop" =some 3 by kernel_rfl).symm.trans b) |>.symm
 obtain rfl:fn=Tryz.f3:=(DG (Tryz.func3.symm.trans c)).symm;refine⟨by kernel_rfl,λj t a=>?_⟩;rw[Tryz.params3] at a;obtain rfl:t=22:=by simpa using Array.mem_of_getElem? a
 exact(show Tryz.prog.wantsStandIn 22=false by kernel_rfl)
theorem card:Rows.FnWayTopCardSaid:=
 ⟨Claim7.tied_new_at .later [.handle, .data] true (Claim7.new_of_sixth said _ true rfl ⟨rfl,rfl⟩ (by kernel_rfl) rfl plain) (by kernel_rfl),(λ_ h=>by cases h),fnWayTop_row_tie,(λh=>by cases h),by kernel_rfl⟩
end Go.Proofs.YtifcnfeppdbjdaaGreatDoor.fWayTop
namespace Go.Proofs.YtifcnfeppdbjdaaGreatDoor
theorem wayTop_card:Rows.FnWayTopCardSaid:=fWayTop.card
#print axioms wayTop_card
