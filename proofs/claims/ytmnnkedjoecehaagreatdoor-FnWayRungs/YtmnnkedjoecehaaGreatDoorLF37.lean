/- FnWayRungs: of every code, the ladder drawn of it goes down rung by rung: its list is cut into as many parts as it has rungs, and each rung alone goes down to its part; where the ladder does not go down, the list is empty. Condition: the tables and the handle of 'error' are as the program's text lays them (the card's tie). -/
import Derived.Test.YtmnnkedjoecehaaGreatDoorLW37
import Derived.Test.YtmnnkedjoecehaaGreatDoorCards
import Derived.Test.YtmnnkedjoecehaaGreatDoorTie
set_option linter.defProp false
set_option maxHeartbeats 4000000
set_option maxRecDepth 100000
namespace Go.Proofs.YtmnnkedjoecehaaGreatDoor.f
open Go.ChangeShapes Go.WideShapes Go.ChangeAt Go.RowKit Go.Conc
def own:ownKnob Tryz.prog.godebug=none:=AX
def laidOut:laidOutB Tryz.prog=true:=AX
def Rf:List (String × DataW Unit):=[("loop.example/stilway/impl.devRows",Rows.laid_loop_example_stilway_impl_devRows),("loop.example/stilway/impl.listWords",Rows.laid_loop_example_stilway_impl_listWords)]
def contract (H:Type)(enc:TypeId × Value->H)(W:World)(base:Nat)(args:Array Value)(d gs:List (DataW H))(before:List MemPlace)
  (r:∀(j:Nat) t v,Tryz.f3.params[j]?=some t->args[j]?=some v->Value.okWide Tryz.prog W .any base t v)
  (n:DataW.Whole enc Tryz.prog Tryz.f3.params.toList Rows.fnWayRungsSpec.vars false W args.toList d gs before) (U:laidMetH Tryz.prog Rows.fnWayRungsRow.laid W):
  ∃N last o a i,runNT Tryz.prog (N+1) (solo (G (Frame.enter Tryz.prog 3 args .normal) []) W) #[]=(.ended o a,i)/\runN Tryz.prog N (solo (G (Frame.enter Tryz.prog 3 args .normal) []) W)=.next last/\step Tryz.prog last=.ended o a/\
   Conc.Good Tryz.prog (λv I=>Rows.fnWayRungsSpec.post enc Tryz.prog Tryz.f3 false true false false W args v I) last o a i:=by
 have l:=n;obtain⟨p,q,V,k,rfl,ab,ac⟩:=n;have g:DataW.TrodAll enc Tryz.prog W 0 (λ_=>true) true Tryz.f3.params.toList args.toList d p:=V;rw[Tryz.params3] at g r;obtain⟨v0,ah,d0,ag,F,q0,af,rfl,rfl,m,R⟩:=trodAll_cons g;obtain⟨rfl,rfl,rfl⟩:=trodAll_nil R;obtain rfl:args=#[v0]:=by cases args;simp_all
 have J:=m;have D:∀x∈F,x.block<W.heap.size:=λx X=>by simpa using l.lt x (by simp[X])
 obtain⟨c,b,aa⟩:∃c b,gs=[c,b]:=by
  match gs,k with
  | [c,b],_=>exact⟨c,b,rfl⟩
  | [],h=>exact h.elim
  | [_],⟨_,_,_,_,_,_,_,_,_,_,h,_⟩=>exact h.elim
  | _::_::_::_,⟨_,_,_,_,_,_,_,_,_,_,⟨_,_,_,_,_,_,_,_,_,_,h,_⟩,_⟩=>exact h.elim
 subst aa;obtain⟨O,T,z,rfl⟩:=okWide_slice Tryz.underlying22 (r 0 22 v0 rfl rfl);obtain⟨ae,K⟩:=m;have A:=rT K;have f:laidMet Tryz.prog [("loop.example/stilway/impl.devRows",Rows.laid_loop_example_stilway_impl_devRows),("loop.example/stilway/impl.listWords",Rows.laid_loop_example_stilway_impl_listWords)] W/\handlesMet Tryz.prog [("errors.errorType",Rows.laid_errors_errorType)] W:=U;have Z:Ep W:=sC f.1 (ET ..);have Q:Ii W:=qB f.1 (CN _ (ET ..));have L:Ff W:=uw f.2;refine jc Tryz.func3 rfl rfl AX (sk (λu w h=>pS u w h) _ W Z L Q A) λa C=>?_
 have e:=C.tape a.drawn;have hp:Rows.fnWayRungsSpec.post enc Tryz.prog Tryz.f3 false true false false W #[AE O T z] (.bool true) {a with tape:=W.tape,drawn:=a.drawn}:=⟨_,_,_,[],_,q,l,trodAll_mk1 (shut_bool Tryz.underlying4 _),trodAll_mk1 (Below.trod laidOut AX (of_decide_eq_true AX) J e D),e.trodVars laidOut AX k,e.frame _,λh=>by cases h⟩
 obtain⟨d,gs,before,S,Y,P,B,s,E,M,y,h6⟩:=hp;exact⟨d,gs,before,S,Y,P,B,s.of_heap (by rfl),E.of_heap (by rfl),M.of_heap (by rfl),y,λh=>by cases h⟩
def Ayt (os:Os):laidMet Tryz.prog Rf (((World.holding Tryz.prog os ⟨#[],#[],[]⟩).setCell (AK 0 0) (.iface 151 (.agg #[.pointer (some (AK 4 87))]))).layVars Tryz.prog Rf):=
 laidMet_layVars (w0:=((World.holding Tryz.prog os ⟨#[],#[],[]⟩).setCell (AK 0 0) (.iface 151 (.agg #[.pointer (some (AK 4 87))])))) (Rf.map (·.1)) [] (by rfl) AX AX LaidIn.none
def laid_met (os:Os):laidMetH Tryz.prog Rows.fnWayRungsRow.laid ((((World.holding Tryz.prog os ⟨#[],#[],[]⟩).setCell (AK 0 0) (.iface 151 (.agg #[.pointer (some (AK 4 87))]))).layVars Tryz.prog Rf).forCall (λ_ _=>0) ⟨#[],#[AG],[]⟩).memory:=
 laidMetH_of_parts (show laidMet Tryz.prog Rf _ from(Ayt os).of_heap (by simp[World.memory,World.forCall,Input.heap])) AX
def reads (os:Os){H:Type}(enc:TypeId × Value->H):∃g d places,DataW.whole enc Tryz.prog ((((World.holding Tryz.prog os ⟨#[],#[],[]⟩).setCell (AK 0 0) (.iface 151 (.agg #[.pointer (some (AK 4 87))]))).layVars Tryz.prog Rf).forCall (λ_ _=>0) ⟨#[],#[AG],[]⟩).memory Tryz.f3.params.toList Rows.fnWayRungsSpec.vars false #[Value.slice none 0 0].toList 8=some ([.nil],[g,d],places):=by
 have h:(DataW.whole enc Tryz.prog ((((World.holding Tryz.prog os ⟨#[],#[],[]⟩).setCell (AK 0 0) (.iface 151 (.agg #[.pointer (some (AK 4 87))]))).layVars Tryz.prog Rf).forCall (λ_ _=>0) ⟨#[],#[AG],[]⟩).memory Tryz.f3.params.toList Rows.fnWayRungsSpec.vars false #[Value.slice none 0 0].toList 8).map (λx=>(x.1,x.2.1))=some ([.nil],[Rows.laid_loop_example_stilway_impl_devRows,Rows.laid_loop_example_stilway_impl_listWords]):=AX
 have⟨⟨a,b,c⟩,f,e⟩:=Option.map_eq_some_iff.1 h;simp only[Prod.mk.injEq] at e;obtain⟨rfl,rfl⟩:=e;exact⟨_,_,c,f⟩
def lifted (os:Os)(started:os.Started)(H:Type)(enc:TypeId × Value->H):
  ReturnsInLeavingWide {} Tryz.checked os 3 .any ((OpenSpec.ofChange Rows.fnWayRungsSpec).preRow enc Tryz.prog Tryz.f3 Rows.fnWayRungsRow.domain false Rows.fnWayRungsRow.laid) (Rows.fnWayRungsSpec.post enc Tryz.prog Tryz.f3 false true false false):=by
 have⟨g,z,places,s⟩:=reads os enc;refine returnsInLeavingWide_of_good (C:=Tryz.checked) own started
  (witness_row_at (enc:=enc) (C:=Tryz.checked) false (((World.holding Tryz.prog os ⟨#[],#[],[]⟩).setCell (AK 0 0) (.iface 151 (.agg #[.pointer (some (AK 4 87))]))).layVars Tryz.prog Rf) #[AG] (World.layVars_os _ _ _) AX AX AX
   (OpenSpec.preRow_of_cond 8 s AX (λk n=>by cases n) AX (laid_met os))) ?_
 intro w tape i _ _ _ q l _;obtain⟨_,_,_,x,m,_,_,_,_,u⟩:=q;have e:x=Tryz.f3:=DG (m.symm.trans Tryz.func3);subst e;obtain⟨⟨a,y⟩,_⟩:=l;have⟨r,d,before,j,_,_⟩:=OpenSpec.pre_parts a;have t:=DataW.Whole.of_heap (w':=w.forCall tape i) (by rfl) j;have⟨M,last,o,w',c,f,b,h,p⟩:=contract H enc (w.forCall tape i) w.heap.size i.args r d before u t (y.of_heap (by rfl));exact⟨M,last,o,w',c,f,b,h,p.mono λv a=>ChangeSpec.post_blind a⟩
def closed:joinedFacts Tryz.pinned.checked.prog 3 Tryz.f3 Rows.fnWayRungsSpec Rows.fnWayRungsRow=true:=by
 unfold joinedFacts;simp only[Bool.and_eq_true];repeat' apply And.intro
 all_goals (as_aux_lemma=>kernel_rfl)
def said:Rows.FnWayRungsSaid:=
 OpenClaim.holds_of_wide_leaving 3 Tryz.f3 rfl rfl rfl rfl rfl rfl rfl ⟨rfl,rfl,rfl,rfl,rfl⟩ rfl rfl rfl rfl rfl AX Tryz.func3 closed
  (of_decide_eq_true AX) (by unfold Func.isWrapper;first | (rw[if_pos (by decide+kernel)];kernel_rfl) | (rw[if_neg (by decide+kernel)];exact⟨rfl,rfl⟩))
  (λos started H enc _=>by rw[OpenClaim.pre_eq_preRow];exact lifted os started H enc)
def plain (f:FuncId)(fn:Func)(b:Tryz.pinned.checked.prog.funcNamed "loop.example/stilway/laws.FnWayRungs" =some f)(c:Tryz.pinned.checked.prog.funcs[f]?=some fn):
  true=Tryz.pinned.checked.prog.looks []/\∀(j:Nat) t,fn.params[j]?=some t->Tryz.pinned.checked.prog.wantsStandIn t=false:=by
 obtain rfl:f=3:=DG ((show Tryz.prog.funcNamed "loop.example/stilway/laws.FnWayRungs" =some 3 by kernel_rfl).symm.trans b) |>.symm
 obtain rfl:fn=Tryz.f3:=(DG (Tryz.func3.symm.trans c)).symm;refine⟨by kernel_rfl,λj t a=>?_⟩;rw[Tryz.params3] at a;obtain rfl:t=22:=by simpa using Array.mem_of_getElem? a
 exact(show Tryz.prog.wantsStandIn 22=false by kernel_rfl)
def card:Rows.FnWayRungsCardSaid:=
 ⟨Claim7.tied_new_at .later [.handle, .data] true (Claim7.new_of_sixth said _ true rfl ⟨rfl,rfl⟩ AX rfl plain) AX,(λ_ h=>by cases h),fnWayRungs_row_tie,(λh=>by cases h),by kernel_rfl⟩
end Go.Proofs.YtmnnkedjoecehaaGreatDoor.f
namespace Go.Proofs.YtmnnkedjoecehaaGreatDoor
theorem wayRungs_card:Rows.FnWayRungsCardSaid:=f.card
#print axioms wayRungs_card
