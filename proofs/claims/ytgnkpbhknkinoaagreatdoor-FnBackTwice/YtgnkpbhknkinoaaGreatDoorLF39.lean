/- FnBackTwice: of every code, the list that is drawn of it: the program and the document's model tell the same code for it; and where it comes up, the ladder goes down, and what goes down comes up once more, as the same ladder. The tables of kinds and of words and the handle of the type 'error' are as the program's text lays them (the card's tie). No other condition. -/
import Derived.Test.YtgnkpbhknkinoaaGreatDoorTD9
import Derived.Test.YtgnkpbhknkinoaaGreatDoorCards
import Derived.Test.YtgnkpbhknkinoaaGreatDoorTie
set_option linter.defProp false
set_option maxHeartbeats 4000000
set_option maxRecDepth 100000
namespace Go.Proofs.YtgnkpbhknkinoaaGreatDoor.fBackTwice
open Go.ChangeShapes Go.WideShapes Go.ChangeAt Go.RowKit Go.Conc
def own:ownKnob Tryz.prog.godebug=none:=by kernel_rfl
def laidOut:laidOutB Tryz.prog=true:=by kernel_rfl
def Qx:List (String × DataW Unit):=[("loop.example/stilway/impl.devRows",Rows.laid_loop_example_stilway_impl_devRows),("loop.example/stilway/impl.listWords",Rows.laid_loop_example_stilway_impl_listWords)]
def contract(H:Type)(enc:AZ × AW->H)(W:AU)(base:Nat)(args:Array AW)(ds gs:List (DataW H))(before:List MemPlace)
  (i:∀(j:Nat)t v,Tryz.f3.params[j]?=some t->args[j]?=some v->Value.okWide Tryz.prog W .any base t v)
  (n:DataW.Whole enc Tryz.prog Tryz.f3.params.toList Rows.fnBackTwiceSpec.vars false W args.toList ds gs before) (P:laidMetH Tryz.prog Rows.fnBackTwiceRow.laid W):
  ∃N last o a l,runNT Tryz.prog (N+1) (solo (G (Frame.enter Tryz.prog 3 args .normal) []) W) #[]=(.ended o a,l)/\runN Tryz.prog N (solo (G (Frame.enter Tryz.prog 3 args .normal) []) W)=.next last/\step Tryz.prog last=.ended o a/\
   Conc.Good Tryz.prog (λv L=>Rows.fnBackTwiceSpec.post enc Tryz.prog Tryz.f3 false true false false W args v L) last o a l:=by
 have m:=n;obtain⟨p,q,U,k,rfl,aa,ab⟩:=n;have f:DataW.TrodAll enc Tryz.prog W 0 (λ_=>true) true Tryz.f3.params.toList args.toList ds p:=U;rw[Tryz.params3]at f i;obtain⟨v0,ae,d0,ad,I,q0,ac,rfl,rfl,g,u⟩:=trodAll_cons f;obtain⟨rfl,rfl,rfl⟩:=trodAll_nil u;obtain rfl:args=#[v0]:=by cases args;simp_all
 have Q:=g;have r:∀x∈I,x.block<W.z:=λx D=>by simpa using m.lt x (by simp[D])
 obtain⟨b,c,Y⟩:∃b c,gs=[b,c]:=by match gs,k with|[b,c],_=>exact⟨b,c,rfl⟩|[],h=>exact h.elim|[_],⟨_,_,_,_,_,_,_,_,_,_,h,_⟩=>exact h.elim|_::_::_::_,⟨_,_,_,_,_,_,_,_,_,_,⟨_,_,_,_,_,_,_,_,_,_,h,_⟩,_⟩=>exact h.elim
 subst Y;obtain⟨M,z,R,rfl⟩:=okWide_slice Tryz.underlying22 (i 0 22 v0 rfl rfl);obtain⟨Z,s⟩:=g;have X:=s7 s;have d:laidMet Tryz.prog [("loop.example/stilway/impl.devRows",Rows.laid_loop_example_stilway_impl_devRows),("loop.example/stilway/impl.listWords",Rows.laid_loop_example_stilway_impl_listWords)] W/\handlesMet Tryz.prog [("errors.errorType",Rows.laid_errors_errorType)] W:=P;have T:Ee W:=sx d.1 (E1 ..);have y:He W:=rS d.1 (DY _ (E1 ..));have S:Es W:=xE d.2;refine jk Tryz.func3 rfl rfl (by kernel_rfl) (rz sE _ W T S y X) λa F=>?_;have e:=F.tape a.drawn;have E:Rows.fnBackTwiceSpec.post enc Tryz.prog Tryz.f3 false true false false W #[AE M z R] (.bool true) {a with tape:=W.tape,drawn:=a.drawn}:=⟨_,_,_,[],_,q,m,trodAll_mk1 (shut_bool Tryz.underlying4 _),trodAll_mk1 (Below.trod laidOut (by kernel_rfl) (of_decide_eq_true (by kernel_rfl)) Q e r),e.trodVars laidOut (by kernel_rfl) k,e.frame _,λh=>by cases h⟩;obtain⟨ds,gs,before,A,C,w,K,B,O,V,J,h6⟩:=E;exact⟨ds,gs,before,A,C,w,K,B.of_heap (by rfl),O.of_heap (by rfl),V.of_heap (by rfl),J,λh=>by cases h⟩
def Ayf(os:Os):laidMet Tryz.prog Qx (((World.holding Tryz.prog os ⟨#[],#[],[]⟩).setCell (AK 0 0) (.iface 194 (.agg #[.pointer (some (AK 4 39))]))).layVars Tryz.prog Qx):=
 laidMet_layVars (w0:=((World.holding Tryz.prog os ⟨#[],#[],[]⟩).s (AK 0 0) (.iface 194 (.agg #[.pointer (some (AK 4 39))])))) (Qx.map (·.1)) [] (by rfl) (by kernel_rfl) (by kernel_rfl) LaidIn.none
def laid_met(os:Os):laidMetH Tryz.prog Rows.fnBackTwiceRow.laid ((((World.holding Tryz.prog os ⟨#[],#[],[]⟩).setCell (AK 0 0) (.iface 194 (.agg #[.pointer (some (AK 4 39))]))).layVars Tryz.prog Qx).forCall (λ_ _=>0) ⟨#[],#[AG],[]⟩).memory:=
 laidMetH_of_parts (show laidMet Tryz.prog Qx _ from(Ayf os).of_heap (by simp[World.memory,World.forCall,Input.heap])) (by kernel_rfl)
def reads(os:Os){H:Type}(enc:AZ × AW->H):∃g f places,DataW.whole enc Tryz.prog ((((World.holding Tryz.prog os ⟨#[],#[],[]⟩).setCell (AK 0 0) (.iface 194 (.agg #[.pointer (some (AK 4 39))]))).layVars Tryz.prog Qx).forCall (λ_ _=>0) ⟨#[],#[AG],[]⟩).memory Tryz.f3.params.toList Rows.fnBackTwiceSpec.vars false #[Value.slice none 0 0].toList 8=some ([.nil],[g,f],places):=by
 have h:(DataW.whole enc Tryz.prog ((((World.holding Tryz.prog os ⟨#[],#[],[]⟩).s (AK 0 0) (.iface 194 (.agg #[.pointer (some (AK 4 39))]))).layVars Tryz.prog Qx).forCall (λ_ _=>0) ⟨#[],#[AG],[]⟩).memory Tryz.f3.params.toList Rows.fnBackTwiceSpec.vars false #[Value.slice none 0 0].toList 8).map (λx=>(x.1,x.2.1))=some ([.nil],[Rows.laid_loop_example_stilway_impl_devRows,Rows.laid_loop_example_stilway_impl_listWords]):=by kernel_rfl
 have⟨⟨a,b,c⟩,d,e⟩:=Option.map_eq_some_iff.1 h;simp only[Prod.mk.injEq]at e;obtain⟨rfl,rfl⟩:=e;exact⟨_,_,c,d⟩
def lifted(os:Os)(started:os.Started)(H:Type)(enc:AZ × AW->H):
  ReturnsInLeavingWide {} Tryz.checked os 3 .any ((OpenSpec.ofChange Rows.fnBackTwiceSpec).preRow enc Tryz.prog Tryz.f3 Rows.fnBackTwiceRow.domain false Rows.fnBackTwiceRow.laid) (Rows.fnBackTwiceSpec.post enc Tryz.prog Tryz.f3 false true false false):=by
 have⟨g,z,places,j⟩:=reads os enc;refine returnsInLeavingWide_of_good (C:=Tryz.checked) own started
  (witness_row_at (enc:=enc) (C:=Tryz.checked) false (((World.holding Tryz.prog os ⟨#[],#[],[]⟩).s (AK 0 0) (.iface 194 (.agg #[.pointer (some (AK 4 39))]))).layVars Tryz.prog Qx) #[AG] (World.layVars_os _ _ _) (by kernel_rfl) (by kernel_rfl) (by kernel_rfl)
   (OpenSpec.preRow_of_cond 8 j (by kernel_rfl) (λk f=>by cases f) (by kernel_rfl) (laid_met os))) ?_
 intro w tape i _ _ _ t p _;obtain⟨_,_,_,r,q,_,_,_,_,b⟩:=t;have e:r=Tryz.f3:=Ek (q.symm.trans Tryz.func3);subst e;obtain⟨⟨a,c⟩,_⟩:=p;have⟨y,h,before,s,_,_⟩:=OpenSpec.pre_parts a;have x:=DataW.Whole.of_heap (w':=w.forCall tape i) (by rfl) s;have⟨M,last,o,w',l,m,d,n,u⟩:=contract H enc (w.forCall tape i) w.z i.args y h before b x (c.of_heap (by rfl));exact⟨M,last,o,w',l,m,d,n,u.mono λv a=>ChangeSpec.post_blind a⟩
def closed:joinedFacts Tryz.pinned.checked.prog 3 Tryz.f3 Rows.fnBackTwiceSpec Rows.fnBackTwiceRow=true:=by
 unfold joinedFacts;simp only[Bool.and_eq_true];repeat' apply And.intro
 all_goals(as_aux_lemma=>kernel_rfl)
def said:Rows.FnBackTwiceSaid:=
 OpenClaim.holds_of_wide_leaving 3 Tryz.f3 rfl rfl rfl rfl rfl rfl rfl ⟨rfl,rfl,rfl,rfl,rfl⟩ rfl rfl rfl rfl rfl (by kernel_rfl) Tryz.func3 closed
  (of_decide_eq_true (by kernel_rfl)) (by unfold Func.isWrapper;first|(rw[BR (by decide+kernel)];kernel_rfl)|(rw[BQ (by decide+kernel)];exact⟨rfl,rfl⟩))
  (λos started H enc _=>by rw[OpenClaim.pre_eq_preRow];exact lifted os started H enc)
def plain(f:FuncId)(fn:Func)(c:Tryz.pinned.checked.prog.funcNamed "loop.example/stilway/laws.FnBackTwice" =some f)(b:Tryz.pinned.checked.prog.funcs[f]?=some fn):
  true=Tryz.pinned.checked.prog.looks []/\∀(j:Nat)t,fn.params[j]?=some t->Tryz.pinned.checked.prog.wantsStandIn t=false:=by
 obtain rfl:f=3:=Ek ((show Tryz.prog.funcNamed "loop.example/stilway/laws.FnBackTwice" =some 3 by kernel_rfl).symm.tr c) |>.symm;obtain rfl:fn=Tryz.f3:=(Ek (Tryz.func3.symm.tr b)).symm;refine⟨by kernel_rfl,λj t a=>?_⟩;rw[Tryz.params3]at a;obtain rfl:t=22:=by simpa using Array.mem_of_getElem? a
 exact(show Tryz.prog.wantsStandIn 22=false by kernel_rfl)
def card:Rows.FnBackTwiceCardSaid:=
 ⟨Claim7.tied_new_at .later [.handle,.data] true (Claim7.new_of_sixth said _ true rfl ⟨rfl,rfl⟩ (by kernel_rfl) rfl plain) (by kernel_rfl),(λ_ h=>by cases h),fnBackTwice_row_tie,(λh=>by cases h),by kernel_rfl⟩
end Go.Proofs.YtgnkpbhknkinoaaGreatDoor.fBackTwice
namespace Go.Proofs.YtgnkpbhknkinoaaGreatDoor
theorem backTwice_card:Rows.FnBackTwiceCardSaid:=fBackTwice.card
#print axioms backTwice_card
