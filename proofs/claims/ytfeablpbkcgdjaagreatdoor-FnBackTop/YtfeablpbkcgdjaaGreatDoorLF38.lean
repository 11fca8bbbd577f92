/- FnBackTop: of every code, the ladder that is drawn of it: where it goes down, its list comes up as the ladder's normal form, to the letter, and that goes down to the very list; where it does not, both ways tell the same code, and the empty list comes up as no rung. The tables of kinds and of words and the handle of the type 'error' are as the program's text lays them (the card's tie). No other condition. -/
import Derived.Test.YtfeablpbkcgdjaaGreatDoorLW38
import Derived.Test.YtfeablpbkcgdjaaGreatDoorCards
import Derived.Test.YtfeablpbkcgdjaaGreatDoorTie
set_option linter.defProp false
set_option maxHeartbeats 4000000
set_option maxRecDepth 100000
namespace Go.Proofs.YtfeablpbkcgdjaaGreatDoor.fBackTop
open Go.ChangeShapes Go.WideShapes Go.ChangeAt Go.RowKit Go.Conc
def own:ownKnob Tryz.prog.godebug=none:=by kernel_rfl
def laidOut:laidOutB Tryz.prog=true:=by kernel_rfl
def Pi:List (String × DataW Unit):=[("loop.example/stilway/impl.devRows",Rows.laid_loop_example_stilway_impl_devRows),("loop.example/stilway/impl.listWords",Rows.laid_loop_example_stilway_impl_listWords)]
def contract (H:Type)(enc:TypeId × Value->H)(W:World)(base:Nat)(args:Array Value)(ds gs:List (DataW H))(before:List MemPlace)
  (n:∀(j:Nat) t v,Tryz.f3.params[j]?=some t->args[j]?=some v->Value.okWide Tryz.prog W .any base t v)
  (l:DataW.Whole enc Tryz.prog Tryz.f3.params.toList Rows.fnBackTopSpec.vars false W args.toList ds gs before) (Q:laidMetH Tryz.prog Rows.fnBackTopRow.laid W):
  ∃N last o a i,runNT Tryz.prog (N+1) (solo (G (Frame.enter Tryz.prog 3 args .normal) []) W) #[]=(.ended o a,i)/\runN Tryz.prog N (solo (G (Frame.enter Tryz.prog 3 args .normal) []) W)=.next last/\step Tryz.prog last=.ended o a/\
   Conc.Good Tryz.prog (λv X=>Rows.fnBackTopSpec.post enc Tryz.prog Tryz.f3 false true false false W args v X) last o a i:=by
 have f:=l;obtain⟨p,q,y,m,rfl,ad,aa⟩:=l;have g:DataW.TrodAll enc Tryz.prog W 0 (λ_=>true) true Tryz.f3.params.toList args.toList ds p:=y;rw[Tryz.params3] at g n;obtain⟨v0,ac,d0,ab,C,q0,Z,rfl,rfl,k,r⟩:=trodAll_cons g;obtain⟨rfl,rfl,rfl⟩:=trodAll_nil r;obtain rfl:args=#[v0]:=by cases args;simp_all
 have T:=k;have M:∀x∈C,x.block<W.heap.size:=λx J=>by simpa using f.lt x (by simp[J])
 obtain⟨b,c,E⟩:∃b c,gs=[b,c]:=by
  match gs,m with
  | [b,c],_=>exact⟨b,c,rfl⟩
  | [],h=>exact h.elim
  | [_],⟨_,_,_,_,_,_,_,_,_,_,h,_⟩=>exact h.elim
  | _::_::_::_,⟨_,_,_,_,_,_,_,_,_,_,⟨_,_,_,_,_,_,_,_,_,_,h,_⟩,_⟩=>exact h.elim
 subst E;obtain⟨u,L,I,rfl⟩:=okWide_slice Tryz.underlying22 (n 0 22 v0 rfl rfl);obtain⟨ae,Y⟩:=k;have R:=jz Y;have e:laidMet Tryz.prog [("loop.example/stilway/impl.devRows",Rows.laid_loop_example_stilway_impl_devRows),("loop.example/stilway/impl.listWords",Rows.laid_loop_example_stilway_impl_listWords)] W/\handlesMet Tryz.prog [("errors.errorType",Rows.laid_errors_errorType)] W:=Q;have F:Ed W:=jt e.1 (DX ..);have V:Hl W:=iS e.1 (CH _ (DX ..));have P:En W:=nu e.2;refine ZV Tryz.func3 rfl rfl (by kernel_rfl) (m8 iM _ W F P V R) λa B=>?_
 have d:=B.tape a.drawn;have D:Rows.fnBackTopSpec.post enc Tryz.prog Tryz.f3 false true false false W #[.slice u L I] (.bool true) {a with tape:=W.tape,drawn:=a.drawn}:=⟨_,_,_,[],_,q,f,trodAll_mk1 (shut_bool Tryz.underlying4 _),trodAll_mk1 (Below.trod laidOut (by kernel_rfl) (of_decide_eq_true (by kernel_rfl)) T d M),d.trodVars laidOut (by kernel_rfl) m,d.frame _,λh=>by cases h⟩
 obtain⟨ds,gs,before,U,O,z,S,A,s,w,K,h6⟩:=D;exact⟨ds,gs,before,U,O,z,S,A.of_heap (by rfl),s.of_heap (by rfl),w.of_heap (by rfl),K,λh=>by cases h⟩
def tW (os:Os):laidMet Tryz.prog Pi (((World.holding Tryz.prog os ⟨#[],#[],[]⟩).setCell ⟨0,0,none⟩ (.iface 176 (.agg #[.pointer (some ⟨4,44,none⟩)]))).layVars Tryz.prog Pi):=
 laidMet_layVars (w0:=((World.holding Tryz.prog os ⟨#[],#[],[]⟩).setCell ⟨0,0,none⟩ (.iface 176 (.agg #[.pointer (some ⟨4,44,none⟩)])))) (Pi.map (·.1)) [] (by rfl) (by kernel_rfl) (by kernel_rfl) LaidIn.none
def laid_met (os:Os):laidMetH Tryz.prog Rows.fnBackTopRow.laid ((((World.holding Tryz.prog os ⟨#[],#[],[]⟩).setCell ⟨0,0,none⟩ (.iface 176 (.agg #[.pointer (some ⟨4,44,none⟩)]))).layVars Tryz.prog Pi).forCall (λ_ _=>0) ⟨#[],#[.slice none 0 0],[]⟩).memory:=
 laidMetH_of_parts (show laidMet Tryz.prog Pi _ from(tW os).of_heap (by simp[World.memory,World.forCall,Input.heap])) (by kernel_rfl)
def reads (os:Os){H:Type}(enc:TypeId × Value->H):∃g f places,DataW.whole enc Tryz.prog ((((World.holding Tryz.prog os ⟨#[],#[],[]⟩).setCell ⟨0,0,none⟩ (.iface 176 (.agg #[.pointer (some ⟨4,44,none⟩)]))).layVars Tryz.prog Pi).forCall (λ_ _=>0) ⟨#[],#[.slice none 0 0],[]⟩).memory Tryz.f3.params.toList Rows.fnBackTopSpec.vars false #[Value.slice none 0 0].toList 8=some ([.nil],[g,f],places):=by
 have h:(DataW.whole enc Tryz.prog ((((World.holding Tryz.prog os ⟨#[],#[],[]⟩).setCell ⟨0,0,none⟩ (.iface 176 (.agg #[.pointer (some ⟨4,44,none⟩)]))).layVars Tryz.prog Pi).forCall (λ_ _=>0) ⟨#[],#[.slice none 0 0],[]⟩).memory Tryz.f3.params.toList Rows.fnBackTopSpec.vars false #[Value.slice none 0 0].toList 8).map (λx=>(x.1,x.2.1))=some ([.nil],[Rows.laid_loop_example_stilway_impl_devRows,Rows.laid_loop_example_stilway_impl_listWords]):=by kernel_rfl
 obtain⟨⟨a,b,c⟩,d,e⟩:=Option.map_eq_some_iff.1 h;simp only[Prod.mk.injEq] at e;obtain⟨rfl,rfl⟩:=e;exact⟨_,_,c,d⟩
def lifted (os:Os)(started:os.Started)(H:Type)(enc:TypeId × Value->H):
  ReturnsInLeavingWide {} Tryz.checked os 3 .any ((OpenSpec.ofChange Rows.fnBackTopSpec).preRow enc Tryz.prog Tryz.f3 Rows.fnBackTopRow.domain false Rows.fnBackTopRow.laid) (Rows.fnBackTopSpec.post enc Tryz.prog Tryz.f3 false true false false):=by
 obtain⟨g,z,places,l⟩:=reads os enc;refine returnsInLeavingWide_of_good (C:=Tryz.checked) own started
  (witness_row_at (enc:=enc) (C:=Tryz.checked) false (((World.holding Tryz.prog os ⟨#[],#[],[]⟩).setCell ⟨0,0,none⟩ (.iface 176 (.agg #[.pointer (some ⟨4,44,none⟩)]))).layVars Tryz.prog Pi) #[.slice none 0 0] (World.layVars_os _ _ _) (by kernel_rfl) (by kernel_rfl) (by kernel_rfl)
   (OpenSpec.preRow_of_cond 8 l (by kernel_rfl) (λk m=>by cases m) (by kernel_rfl) (laid_met os))) ?_
 intro w tape i _ _ _ s b _;obtain⟨_,_,_,h,f,_,_,_,_,y⟩:=s;have e:h=Tryz.f3:=DT (f.symm.trans Tryz.func3);subst e;obtain⟨⟨a,x⟩,_⟩:=b;obtain⟨q,n,before,r,_,_⟩:=OpenSpec.pre_parts a;have t:=DataW.Whole.of_heap (w':=w.forCall tape i) (by rfl) r;obtain⟨M,last,o,w',p,u,j,c,d⟩:=contract H enc (w.forCall tape i) w.heap.size i.args q n before y t (x.of_heap (by rfl));exact⟨M,last,o,w',p,u,j,c,d.mono λv a=>ChangeSpec.post_blind a⟩
def closed:joinedFacts Tryz.pinned.checked.prog 3 Tryz.f3 Rows.fnBackTopSpec Rows.fnBackTopRow=true:=by
 unfold joinedFacts;simp only[Bool.and_eq_true];repeat' apply And.intro
 all_goals (as_aux_lemma=>kernel_rfl)
def said:Rows.FnBackTopSaid:=
 OpenClaim.holds_of_wide_leaving 3 Tryz.f3 rfl rfl rfl rfl rfl rfl rfl ⟨rfl,rfl,rfl,rfl,rfl⟩ rfl rfl rfl rfl rfl (by kernel_rfl) Tryz.func3 closed
  (of_decide_eq_true (by kernel_rfl)) (by unfold Func.isWrapper;first | (rw[if_pos (by decide+kernel)];kernel_rfl) | (rw[if_neg (by decide+kernel)];exact⟨rfl,rfl⟩))
  (λos started H enc _=>by rw[OpenClaim.pre_eq_preRow];exact lifted os started H enc)
def plain (f:FuncId)(fn:Func)(c:Tryz.pinned.checked.prog.funcNamed "loop.example/stilway/laws.FnBackTop" =some f)(b:Tryz.pinned.checked.prog.funcs[f]?=some fn):
  true=Tryz.pinned.checked.prog.looks []/\∀(j:Nat) t,fn.params[j]?=some t->Tryz.pinned.checked.prog.wantsStandIn t=false:=by
 obtain rfl:f=3:=DT ((show Tryz.prog.funcNamed "loop.example/stilway/laws.FnBackTop" =some 3 by kernel_rfl).symm.trans c) |>.symm
 obtain rfl:fn=Tryz.f3:=(DT (Tryz.func3.symm.trans b)).symm;refine⟨by kernel_rfl,λj t a=>?_⟩;rw[Tryz.params3] at a;obtain rfl:t=22:=by simpa using Array.mem_of_getElem? a
 exact(show Tryz.prog.wantsStandIn 22=false by kernel_rfl)
def card:Rows.FnBackTopCardSaid:=
 ⟨Claim7.tied_new_at .later [.handle, .data] true (Claim7.new_of_sixth said _ true rfl ⟨rfl,rfl⟩ (by kernel_rfl) rfl plain) (by kernel_rfl),(λ_ h=>by cases h),fnBackTop_row_tie,(λh=>by cases h),by kernel_rfl⟩
end Go.Proofs.YtfeablpbkcgdjaaGreatDoor.fBackTop
namespace Go.Proofs.YtfeablpbkcgdjaaGreatDoor
theorem backTop_card:Rows.FnBackTopCardSaid:=fBackTop.card
#print axioms backTop_card
