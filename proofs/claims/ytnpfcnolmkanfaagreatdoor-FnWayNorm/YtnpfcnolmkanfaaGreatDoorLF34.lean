/- FnWayNorm: of every code, the ladder that is drawn of it and its normal form go down to one list, and the list is WayPlain's just if the ladder goes down or is empty. The table of kinds and the handle of the type 'error' are as the program's text lays them (the card's tie). No other condition. -/
import Derived.Test.YtnpfcnolmkanfaaGreatDoorFRe
import Derived.Test.YtnpfcnolmkanfaaGreatDoorCI6
import Derived.Test.YtnpfcnolmkanfaaGreatDoorLW34
import Derived.LaidHandle
import Derived.SevenTiedAt
import Derived.Test.YtnpfcnolmkanfaaGreatDoorCards
import Derived.Test.YtnpfcnolmkanfaaGreatDoorTie
set_option maxHeartbeats 4000000
set_option maxRecDepth 100000
namespace Go.Proofs.YtnpfcnolmkanfaaGreatDoor.fWayNorm
open Go.ChangeShapes Go.WideShapes Go.ChangeAt Go.RowKit Go.Conc
theorem own:ownKnob Tryz.prog.godebug=none:=by kernel_rfl
theorem laidOut:laidOutB Tryz.prog=true:=by kernel_rfl
def Px:List (String × DataW Unit):=[("loop.example/stilway/impl.devRows",Rows.laid_loop_example_stilway_impl_devRows)]
theorem contract (H:Type)(enc:TypeId × Value->H)(W:World)(base:Nat)(args:Array Value)(b gs:List (DataW H))(before:List MemPlace)
  (n:∀(j:Nat) t v,Tryz.f3.params[j]?=some t->args[j]?=some v->Value.okWide Tryz.prog W .any base t v)
  (f:DataW.Whole enc Tryz.prog Tryz.f3.params.toList Rows.fnWayNormSpec.vars false W args.toList b gs before) (R:laidMetH Tryz.prog Rows.fnWayNormRow.laid W):
  ∃N last o a k,runNT Tryz.prog (N+1) (solo (G (Frame.enter Tryz.prog 3 args .normal) []) W) #[]=(.ended o a,k)/\runN Tryz.prog N (solo (G (Frame.enter Tryz.prog 3 args .normal) []) W)=.next last/\step Tryz.prog last=.ended o a/\
   Conc.Good Tryz.prog (λv T=>Rows.fnWayNormSpec.post enc Tryz.prog Tryz.f3 false true false false W args v T) last o a k:=by
 have i:=f;obtain⟨p,q,z,m,rfl,af,ai⟩:=f;have s:DataW.TrodAll enc Tryz.prog W 0 (λ_=>true) true Tryz.f3.params.toList args.toList b p:=z;rw[Tryz.params3] at s n;obtain⟨v0,ab,d0,ac,y,q0,ae,rfl,rfl,l,K⟩:=trodAll_cons s;obtain⟨rfl,rfl,rfl⟩:=trodAll_nil K;obtain rfl:args=#[v0]:=by cases args;simp_all
 have C:=l;have S:∀x∈y,x.block<W.heap.size:=λx O=>by simpa using i.lt x (by simp[O])
 obtain⟨e,I⟩:∃e,gs=[e]:=by
  obtain⟨g,t,cs,fuel,d,p',A,ah⟩:=trodVars_one m;exact⟨d,A⟩
 subst I;obtain⟨E,D,U,rfl⟩:=okWide_slice Tryz.underlying22 (n 0 22 v0 rfl rfl);obtain⟨ag,Z⟩:=l;have V:=Aji Z;have r:laidMet Tryz.prog [("loop.example/stilway/impl.devRows",Rows.laid_loop_example_stilway_impl_devRows)] W/\handlesMet Tryz.prog [("errors.errorType",Rows.laid_errors_errorType)] W:=R;have Q:Em W:=Aj5 r.1 (A7r ..);have aa:En W:=Aod r.2;refine A0t Tryz.func3 rfl rfl (by kernel_rfl) (Anv (λu w h=>Ah1 u w h) _ W Q aa V) λa L=>?_
 have c:=L.tape a.drawn;have Y:Rows.fnWayNormSpec.post enc Tryz.prog Tryz.f3 false true false false W #[.slice E D U] (.bool true) {a with tape:=W.tape,drawn:=a.drawn}:=⟨_,_,_,[],_,q,i,trodAll_mk1 (shut_bool Tryz.underlying4 _),trodAll_mk1 (Below.trod laidOut (by kernel_rfl) (of_decide_eq_true (by kernel_rfl)) C c S),c.trodVars laidOut (by kernel_rfl) m,c.frame _,λh=>by cases h⟩
 obtain⟨b,gs,before,pr,P,B,F,M,J,h4,X,h6⟩:=Y;exact⟨b,gs,before,pr,P,B,F,M.of_heap (by rfl),J.of_heap (by rfl),h4.of_heap (by rfl),X,λh=>by cases h⟩
theorem Av8 (os:Os):laidMet Tryz.prog Px (((World.holding Tryz.prog os ⟨#[],#[],[]⟩).setCell ⟨0,0,none⟩ (.iface 135 (.agg #[.pointer (some ⟨3,85,none⟩)]))).layVars Tryz.prog Px):=
 laidMet_layVars (w0:=((World.holding Tryz.prog os ⟨#[],#[],[]⟩).setCell ⟨0,0,none⟩ (.iface 135 (.agg #[.pointer (some ⟨3,85,none⟩)])))) (Px.map (·.1)) [] (by rfl) (by kernel_rfl) (by kernel_rfl) LaidIn.none
theorem laid_met (os:Os):laidMetH Tryz.prog Rows.fnWayNormRow.laid ((((World.holding Tryz.prog os ⟨#[],#[],[]⟩).setCell ⟨0,0,none⟩ (.iface 135 (.agg #[.pointer (some ⟨3,85,none⟩)]))).layVars Tryz.prog Px).forCall (λ_ _=>0) ⟨#[],#[.slice none 0 0],[]⟩).memory:=
 laidMetH_of_parts (show laidMet Tryz.prog Px _ from(Av8 os).of_heap (by simp[World.memory,World.forCall,Input.heap])) (by kernel_rfl)
theorem reads (os:Os){H:Type}(enc:TypeId × Value->H):∃g places,DataW.whole enc Tryz.prog ((((World.holding Tryz.prog os ⟨#[],#[],[]⟩).setCell ⟨0,0,none⟩ (.iface 135 (.agg #[.pointer (some ⟨3,85,none⟩)]))).layVars Tryz.prog Px).forCall (λ_ _=>0) ⟨#[],#[.slice none 0 0],[]⟩).memory Tryz.f3.params.toList Rows.fnWayNormSpec.vars false #[Value.slice none 0 0].toList 8=some ([.nil],[g],places):=by
 have h:(DataW.whole enc Tryz.prog ((((World.holding Tryz.prog os ⟨#[],#[],[]⟩).setCell ⟨0,0,none⟩ (.iface 135 (.agg #[.pointer (some ⟨3,85,none⟩)]))).layVars Tryz.prog Px).forCall (λ_ _=>0) ⟨#[],#[.slice none 0 0],[]⟩).memory Tryz.f3.params.toList Rows.fnWayNormSpec.vars false #[Value.slice none 0 0].toList 8).map (λx=>(x.1,x.2.1))=some ([.nil],[Rows.laid_loop_example_stilway_impl_devRows]):=by kernel_rfl
 obtain⟨⟨a,b,c⟩,d,e⟩:=Option.map_eq_some_iff.1 h;simp only[Prod.mk.injEq] at e;obtain⟨rfl,rfl⟩:=e;exact⟨_,c,d⟩
theorem lifted (os:Os)(started:os.Started)(H:Type)(enc:TypeId × Value->H):
  ReturnsInLeavingWide {} Tryz.checked os 3 .any ((OpenSpec.ofChange Rows.fnWayNormSpec).preRow enc Tryz.prog Tryz.f3 Rows.fnWayNormRow.domain false Rows.fnWayNormRow.laid) (Rows.fnWayNormSpec.post enc Tryz.prog Tryz.f3 false true false false):=by
 obtain⟨g,places,b⟩:=reads os enc;refine returnsInLeavingWide_of_good (C:=Tryz.checked) own started
  (witness_row_at (enc:=enc) (C:=Tryz.checked) false (((World.holding Tryz.prog os ⟨#[],#[],[]⟩).setCell ⟨0,0,none⟩ (.iface 135 (.agg #[.pointer (some ⟨3,85,none⟩)]))).layVars Tryz.prog Px) #[.slice none 0 0] (World.layVars_os _ _ _) (by kernel_rfl) (by kernel_rfl) (by kernel_rfl)
   (OpenSpec.preRow_of_cond 8 b (by kernel_rfl) (λk f=>by cases f) (by kernel_rfl) (laid_met os))) ?_
 intro w tape i _ _ _ r l _;obtain⟨_,_,_,p,x,_,_,_,_,d⟩:=r;have e:p=Tryz.f3:=A67 (x.symm.trans Tryz.func3);subst e;obtain⟨⟨a,q⟩,_⟩:=l;obtain⟨j,n,before,h,_,_⟩:=OpenSpec.pre_parts a;have c:=DataW.Whole.of_heap (w':=w.forCall tape i) (by rfl) h;obtain⟨M,last,o,w',u,m,y,t,s⟩:=contract H enc (w.forCall tape i) w.heap.size i.args j n before d c (q.of_heap (by rfl));exact⟨M,last,o,w',u,m,y,t,s.mono λv a=>ChangeSpec.post_blind a⟩
theorem closed:joinedFacts Tryz.pinned.checked.prog 3 Tryz.f3 Rows.fnWayNormSpec Rows.fnWayNormRow=true:=by
 unfold joinedFacts;simp only[Bool.and_eq_true];repeat' apply And.intro
 all_goals (as_aux_lemma=>kernel_rfl)
theorem said:Rows.FnWayNormSaid:=
 OpenClaim.holds_of_wide_leaving 3 Tryz.f3 rfl rfl rfl rfl rfl rfl rfl ⟨rfl,rfl,rfl,rfl,rfl⟩ rfl rfl rfl rfl rfl (by kernel_rfl) Tryz.func3 closed
  (of_decide_eq_true (by kernel_rfl)) (by unfold Func.isWrapper;first | (rw[if_pos (by decide+kernel)];kernel_rfl) | (rw[if_neg (by decide+kernel)];exact⟨rfl,rfl⟩))
  (λos started H enc _=>by rw[OpenClaim.pre_eq_preRow];exact lifted os started H enc)
theorem plain (f:FuncId)(fn:Func)(b:Tryz.pinned.checked.prog.funcNamed "loop.example/stilway/laws.FnWayNorm" =some f)(c:Tryz.pinned.checked.prog.funcs[f]?=some fn):
  true=Tryz.pinned.checked.prog.looks []/\∀(j:Nat) t,fn.params[j]?=some t->Tryz.pinned.checked.prog.wantsStandIn t=false:=by
 obtain rfl:f=3:=A67 ((show Tryz.prog.funcNamed "loop.example/stilway/laws.FnWayNorm" =some 3 by kernel_rfl).symm.trans b) |>.symm
 obtain rfl:fn=Tryz.f3:=(A67 (Tryz.func3.symm.trans c)).symm;refine⟨by kernel_rfl,λj t a=>?_⟩;rw[Tryz.params3] at a;obtain rfl:t=22:=by simpa using Array.mem_of_getElem? a
 exact(show Tryz.prog.wantsStandIn 22=false by kernel_rfl)
theorem card:Rows.FnWayNormCardSaid:=
 ⟨Claim7.tied_new_at .later [.handle, .data] true (Claim7.new_of_sixth said _ true rfl ⟨rfl,rfl⟩ (by kernel_rfl) rfl plain) (by kernel_rfl),(λ_ h=>by cases h),fnWayNorm_row_tie,(λh=>by cases h),by kernel_rfl⟩
end Go.Proofs.YtnpfcnolmkanfaaGreatDoor.fWayNorm
namespace Go.Proofs.YtnpfcnolmkanfaaGreatDoor
theorem wayNorm_card:Rows.FnWayNormCardSaid:=fWayNorm.card
#print axioms wayNorm_card
end Go.Proofs.YtnpfcnolmkanfaaGreatDoor
