/- FnBackNet: of every code, the net that is read of the instructions that are drawn of it is the specification's; it is in normal form; a rung that begins with it and has one coil goes down, if it is not too large, to a list that begins with no more instructions and comes up as it. The tables of kinds and of words and the handle of the type 'error' are as the program's text lays them (the card's tie). No other condition. -/
import Derived.Test.YtobbpffcggchmaaGreatDoorKe
import Derived.Test.YtobbpffcggchmaaGreatDoorFRe
import Derived.Test.YtobbpffcggchmaaGreatDoorLF32a
import Derived.Test.YtobbpffcggchmaaGreatDoorLW35
import Derived.LaidHandle
import Derived.SevenTiedAt
import Derived.Test.YtobbpffcggchmaaGreatDoorCards
import Derived.Test.YtobbpffcggchmaaGreatDoorTie
set_option maxHeartbeats 4000000
set_option maxRecDepth 100000
namespace Go.Proofs.YtobbpffcggchmaaGreatDoor.fBackNet
open Go.ChangeShapes Go.WideShapes Go.ChangeAt Go.RowKit Go.Conc
theorem own:ownKnob Tryz.prog.godebug=none:=by kernel_rfl
theorem laidOut:laidOutB Tryz.prog=true:=by kernel_rfl
def Qd:List (String × DataW Unit):=[("loop.example/stilway/impl.devRows",Rows.laid_loop_example_stilway_impl_devRows),("loop.example/stilway/impl.listWords",Rows.laid_loop_example_stilway_impl_listWords)]
theorem contract (H:Type)(enc:TypeId × Value->H)(W:World)(base:Nat)(args:Array Value)(d gs:List (DataW H))(before:List MemPlace)
  (n:∀(j:Nat) t v,Tryz.f3.params[j]?=some t->args[j]?=some v->Value.okWide Tryz.prog W .any base t v)
  (r:DataW.Whole enc Tryz.prog Tryz.f3.params.toList Rows.fnBackNetSpec.vars false W args.toList d gs before) (K:laidMetH Tryz.prog Rows.fnBackNetRow.laid W):
  ∃N last o a g,runNT Tryz.prog (N+1) (solo (G (Frame.enter Tryz.prog 3 args .normal) []) W) #[]=(.ended o a,g)/\runN Tryz.prog N (solo (G (Frame.enter Tryz.prog 3 args .normal) []) W)=.next last/\step Tryz.prog last=.ended o a/\
   Conc.Good Tryz.prog (λv P=>Rows.fnBackNetSpec.post enc Tryz.prog Tryz.f3 false true false false W args v P) last o a g:=by
 have i:=r;obtain⟨p,q,u,m,rfl,aa,af⟩:=r;have l:DataW.TrodAll enc Tryz.prog W 0 (λ_=>true) true Tryz.f3.params.toList args.toList d p:=u;rw[Tryz.params3] at l n;obtain⟨v0,ab,d0,ag,s,q0,ac,rfl,rfl,k,S⟩:=trodAll_cons l;obtain⟨rfl,rfl,rfl⟩:=trodAll_nil S;obtain rfl:args=#[v0]:=by cases args;simp_all
 have M:=k;have w:∀x∈s,x.block<W.heap.size:=λx y=>by simpa using i.lt x (by simp[y])
 obtain⟨b,c,L⟩:∃b c,gs=[b,c]:=by
  match gs,m with
  | [b,c],_=>exact⟨b,c,rfl⟩
  | [],h=>exact h.elim
  | [_],⟨_,_,_,_,_,_,_,_,_,_,h,_⟩=>exact h.elim
  | _::_::_::_,⟨_,_,_,_,_,_,_,_,_,_,⟨_,_,_,_,_,_,_,_,_,_,h,_⟩,_⟩=>exact h.elim
 subst L;obtain⟨F,A,J,rfl⟩:=okWide_slice Tryz.underlying22 (n 0 22 v0 rfl rfl);obtain⟨ae,I⟩:=k;have C:=Aj4 I;have f:laidMet Tryz.prog [("loop.example/stilway/impl.devRows",Rows.laid_loop_example_stilway_impl_devRows),("loop.example/stilway/impl.listWords",Rows.laid_loop_example_stilway_impl_listWords)] W/\handlesMet Tryz.prog [("errors.errorType",Rows.laid_errors_errorType)] W:=K;have V:Ei W:=Aks f.1 (Bau ..);have B:Jb W:=Agd f.1 (A87 _ (Bau ..));have Y:Em W:=Ao7 f.2;refine A27 Tryz.func3 rfl rfl (by kernel_rfl) (Alo _ W V Y B C) λa T=>?_
 have e:=T.tape a.drawn;have Q:Rows.fnBackNetSpec.post enc Tryz.prog Tryz.f3 false true false false W #[.slice F A J] (.bool true) {a with tape:=W.tape,drawn:=a.drawn}:=⟨_,_,_,[],_,q,i,trodAll_mk1 (shut_bool Tryz.underlying4 _),trodAll_mk1 (Below.trod laidOut (by kernel_rfl) (of_decide_eq_true (by kernel_rfl)) M e w),e.trodVars laidOut (by kernel_rfl) m,e.frame _,λh=>by cases h⟩
 obtain⟨d,gs,before,z,D,O,X,R,Z,E,U,h6⟩:=Q;exact⟨d,gs,before,z,D,O,X,R.of_heap (by rfl),Z.of_heap (by rfl),E.of_heap (by rfl),U,λh=>by cases h⟩
theorem Axv (os:Os):laidMet Tryz.prog Qd (((World.holding Tryz.prog os ⟨#[],#[],[]⟩).setCell ⟨0,0,none⟩ (.iface 124 (.agg #[.pointer (some ⟨4,57,none⟩)]))).layVars Tryz.prog Qd):=
 laidMet_layVars (w0:=((World.holding Tryz.prog os ⟨#[],#[],[]⟩).setCell ⟨0,0,none⟩ (.iface 124 (.agg #[.pointer (some ⟨4,57,none⟩)])))) (Qd.map (·.1)) [] (by rfl) (by kernel_rfl) (by kernel_rfl) LaidIn.none
theorem laid_met (os:Os):laidMetH Tryz.prog Rows.fnBackNetRow.laid ((((World.holding Tryz.prog os ⟨#[],#[],[]⟩).setCell ⟨0,0,none⟩ (.iface 124 (.agg #[.pointer (some ⟨4,57,none⟩)]))).layVars Tryz.prog Qd).forCall (λ_ _=>0) ⟨#[],#[.slice none 0 0],[]⟩).memory:=
 laidMetH_of_parts (show laidMet Tryz.prog Qd _ from(Axv os).of_heap (by simp[World.memory,World.forCall,Input.heap])) (by kernel_rfl)
theorem reads (os:Os){H:Type}(enc:TypeId × Value->H):∃g f places,DataW.whole enc Tryz.prog ((((World.holding Tryz.prog os ⟨#[],#[],[]⟩).setCell ⟨0,0,none⟩ (.iface 124 (.agg #[.pointer (some ⟨4,57,none⟩)]))).layVars Tryz.prog Qd).forCall (λ_ _=>0) ⟨#[],#[.slice none 0 0],[]⟩).memory Tryz.f3.params.toList Rows.fnBackNetSpec.vars false #[Value.slice none 0 0].toList 8=some ([.nil],[g,f],places):=by
 have h:(DataW.whole enc Tryz.prog ((((World.holding Tryz.prog os ⟨#[],#[],[]⟩).setCell ⟨0,0,none⟩ (.iface 124 (.agg #[.pointer (some ⟨4,57,none⟩)]))).layVars Tryz.prog Qd).forCall (λ_ _=>0) ⟨#[],#[.slice none 0 0],[]⟩).memory Tryz.f3.params.toList Rows.fnBackNetSpec.vars false #[Value.slice none 0 0].toList 8).map (λx=>(x.1,x.2.1))=some ([.nil],[Rows.laid_loop_example_stilway_impl_devRows,Rows.laid_loop_example_stilway_impl_listWords]):=by kernel_rfl
 obtain⟨⟨a,b,c⟩,d,e⟩:=Option.map_eq_some_iff.1 h;simp only[Prod.mk.injEq] at e;obtain⟨rfl,rfl⟩:=e;exact⟨_,_,c,d⟩
theorem lifted (os:Os)(started:os.Started)(H:Type)(enc:TypeId × Value->H):
  ReturnsInLeavingWide {} Tryz.checked os 3 .any ((OpenSpec.ofChange Rows.fnBackNetSpec).preRow enc Tryz.prog Tryz.f3 Rows.fnBackNetRow.domain false Rows.fnBackNetRow.laid) (Rows.fnBackNetSpec.post enc Tryz.prog Tryz.f3 false true false false):=by
 obtain⟨g,z,places,d⟩:=reads os enc;refine returnsInLeavingWide_of_good (C:=Tryz.checked) own started
  (witness_row_at (enc:=enc) (C:=Tryz.checked) false (((World.holding Tryz.prog os ⟨#[],#[],[]⟩).setCell ⟨0,0,none⟩ (.iface 124 (.agg #[.pointer (some ⟨4,57,none⟩)]))).layVars Tryz.prog Qd) #[.slice none 0 0] (World.layVars_os _ _ _) (by kernel_rfl) (by kernel_rfl) (by kernel_rfl)
   (OpenSpec.preRow_of_cond 8 d (by kernel_rfl) (λk s=>by cases s) (by kernel_rfl) (laid_met os))) ?_
 intro w tape i _ _ _ r c _;obtain⟨_,_,_,y,h,_,_,_,_,p⟩:=r;have e:y=Tryz.f3:=A98 (h.symm.trans Tryz.func3);subst e;obtain⟨⟨a,j⟩,_⟩:=c;obtain⟨q,l,before,m,_,_⟩:=OpenSpec.pre_parts a;have t:=DataW.Whole.of_heap (w':=w.forCall tape i) (by rfl) m;obtain⟨M,last,o,w',b,u,n,x,f⟩:=contract H enc (w.forCall tape i) w.heap.size i.args q l before p t (j.of_heap (by rfl));exact⟨M,last,o,w',b,u,n,x,f.mono λv a=>ChangeSpec.post_blind a⟩
theorem closed:joinedFacts Tryz.pinned.checked.prog 3 Tryz.f3 Rows.fnBackNetSpec Rows.fnBackNetRow=true:=by
 unfold joinedFacts;simp only[Bool.and_eq_true];repeat' apply And.intro
 all_goals (as_aux_lemma=>kernel_rfl)
theorem said:Rows.FnBackNetSaid:=
 OpenClaim.holds_of_wide_leaving 3 Tryz.f3 rfl rfl rfl rfl rfl rfl rfl ⟨rfl,rfl,rfl,rfl,rfl⟩ rfl rfl rfl rfl rfl (by kernel_rfl) Tryz.func3 closed
  (of_decide_eq_true (by kernel_rfl)) (by unfold Func.isWrapper;first | (rw[if_pos (by decide+kernel)];kernel_rfl) | (rw[if_neg (by decide+kernel)];exact⟨rfl,rfl⟩))
  (λos started H enc _=>by rw[OpenClaim.pre_eq_preRow];exact lifted os started H enc)
theorem plain (f:FuncId)(fn:Func)(b:Tryz.pinned.checked.prog.funcNamed "loop.example/stilway/laws.FnBackNet" =some f)(c:Tryz.pinned.checked.prog.funcs[f]?=some fn):
  true=Tryz.pinned.checked.prog.looks []/\∀(j:Nat) t,fn.params[j]?=some t->Tryz.pinned.checked.prog.wantsStandIn t=false:=by
 obtain rfl:f=3:=A98 ((show Tryz.prog.funcNamed "loop.example/stilway/laws.FnBackNet" =some 3 by kernel_rfl).symm.trans b) |>.symm
 obtain rfl:fn=Tryz.f3:=(A98 (Tryz.func3.symm.trans c)).symm;refine⟨by kernel_rfl,λj t a=>?_⟩;rw[Tryz.params3] at a;obtain rfl:t=22:=by simpa using Array.mem_of_getElem? a
 exact(show Tryz.prog.wantsStandIn 22=false by kernel_rfl)
theorem card:Rows.FnBackNetCardSaid:=
 ⟨Claim7.tied_new_at .later [.handle, .data] true (Claim7.new_of_sixth said _ true rfl ⟨rfl,rfl⟩ (by kernel_rfl) rfl plain) (by kernel_rfl),(λ_ h=>by cases h),fnBackNet_row_tie,(λh=>by cases h),by kernel_rfl⟩
end Go.Proofs.YtobbpffcggchmaaGreatDoor.fBackNet
namespace Go.Proofs.YtobbpffcggchmaaGreatDoor
theorem backNet_card:Rows.FnBackNetCardSaid:=fBackNet.card
#print axioms backNet_card
end Go.Proofs.YtobbpffcggchmaaGreatDoor
