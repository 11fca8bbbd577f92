import Derived.Test.YtfeablpbkcgdjaaGreatDoorCD8
import Derived.Conc.CompanyMem
import Derived.Conc.TokenWalk
set_option linter.defProp false
namespace Go.Co
open Go.Conc
section
variable {P : Program}{Low : Nat}{Stop : Goroutine -> World -> Prop}
theorem kx {O:Nat->Prop}{g:Goroutine}{w:World}(y:∀b,O b->Low<=b/\b<w.heap.size)(hl:Low<=w.heap.size)(V:∀g w,Stop g w->OkG g)(h:EI P Low Stop ⟨O,[],g,w⟩):Comes P g w Stop:=by
 intro e sl t ⟨D,⟨q,A⟩,B,J⟩ _;have C:=(Array.getElem?_eq_some_iff.1 D).1;have I:PhI P Low e.size t ⟨O,[],g,w⟩ (λk b=>k=0/\O b) ((List.range e.size).map λi=>.inr (if i=0 then 0 else q i)) e w t:=by
  refine⟨C,AW,by simp[C],AW,h.inv.1,Keep.refl _ _ _, .inl D,λi hi v=>?_,λj c U seen n=>by simp at n,λb E=>⟨rfl,E⟩,λj s u=>?_,λj c U seen n=>by simp at n,λj k c r s Y Z n=>by simp at n,⟨λk l b m R=>m.1.trans R.1.symm,λk b m=>(y b m.2).1,λk b m=>(y b m.2).2⟩,hl,Tr.begin J A⟩
  .refine⟨q i,e[i],?_,Hv v,A.old i _ hi (Hv v)⟩
   have:i≠0:=AU
   simp[v,this]
  .simp at u
 obtain⟨N,H,X,w',L,S,M,hF,T,u⟩:=phase w.tape h _ _ e w t sl I rfl;exact⟨N,H,X,w',L,S,M,hF,V _ _ u,T,u⟩
end
theorem Iw (O:Nat->Prop)(w:World):grown O w w=O:=by
 funext b;apply propext;constructor
 .rintro(h | ⟨g,e⟩)
  .exact h
  .omega
 .exact .inl
structure OkL {τ:Type}(P:Program)(main:Bool)(Low:Nat)(pre:τ->World->Prop)(ok:τ->(Nat->Prop)->World->Goroutine->Prop):Prop where
 rely:∀{x O w w₁ g},ok x O w g->Keep Low O w w₁->ok x O w₁ g
 own:∀{x O w g},g.status=.running->(∀w₁,Keep Low O w w₁->pre x w₁->∃g' w' es,stepG P main g w₁=.go g' w' es/\g'.status=.running/\EX Low O w₁ w' es/\ok x (grown O w₁ w') w' g')->ok x O w g
theorem EX.none (Low:Nat)(O:Nat->Prop)(w:World):EX Low O w w #[]:=⟨λ_ _ _=>rfl,B7 _,rfl,rfl,rfl,AW⟩
section
variable {τ : Type}{P : Program}{main : Bool}{Low : Nat}{pre : τ -> World -> Prop}{ok : τ -> (Nat -> Prop) -> World -> Goroutine -> Prop}
def OkL.ctl (T:OkL P main Low pre ok){x:τ}{O:Nat->Prop}{w:World}{g g':Goroutine}(hr:g.status=.running)(k:g'.status=.running)(j:∀w₁,stepG P main g w₁=.go g' w₁ #[])(h:ok x O w g'):ok x O w g:=
 T.own hr λw₁ e _=>⟨g',w₁,#[],j w₁,k,EX.none _ _ _,by rw[Iw];exact T.rely h e⟩
end
section
variable {τ : Type}(P : Program)(ok : τ -> (Nat -> Prop) -> World -> Goroutine -> Prop)
def KY (b:Frame)(k:List Item)(cs:List Frame):Exit->Act->τ->(Nat->Prop)->World->Prop
 | .normal,a,x,O,w=>ok x O w (G (b.at a k) cs)
 | .exit id,a,x,O,w=>∃e,exitTo id k=some e/\ok x O w (G (b.at a e) cs)
 | .ret,a,x,O,w=>∀g,ok x O w (G {b.at a g with mode:=.returning} cs)
 | _,_,_,_,_=>False
abbrev Vs (τ:Type):=Exit->Act->τ->(Nat->Prop)->World->Prop
def WpK (fn:FuncId)(c:Code)(Q:Vs τ)(a:Act)(x:τ)(O:Nat->Prop)(w:World):Prop:=
 ∀(b:Frame) (k:List Item) (cs:List Frame),b.fn=fn->b.kind≠.early->(∀e h g O' w',Q e h g O' w'->KY ok b k cs e h g O' w')->ok x O w (G (b.at a (.code c::k)) cs)
def Tt (fn:FuncId)(ops:Array Oper)(todo:List Nat)(Q:Vs τ)(a:Act)(x:τ)(O:Nat->Prop)(w:World):Prop:=
 ∀(b:Frame) (k:List Item) (cs:List Frame),b.fn=fn->b.kind≠.early->(∀e h g O' w',Q e h g O' w'->KY ok b k cs e h g O' w')->ok x O w (G (b.at a (.inRegion ops todo::k)) cs)
def U4 (N:Act->τ->(Nat->Prop)->World->Prop)(Q:Vs τ):Vs τ
 | .normal=>N
 | e=>Q e
def Ko (id:Nat)(Q:Vs τ):Vs τ
 | .exit g=>if g=id then Q .normal else Q (.exit g)
 | e=>Q e
def V1 (fn:Func)(Post:Value->τ->(Nat->Prop)->World->Prop):Vs τ
 | .normal,a,x,O,w | .ret,a,x,O,w=>a.defers=[]/\∃v,ResultsC P fn a.tmps v/\Post v x O w
 | _,_,_,_,_=>False
def Jg (f:FuncId)(args:Array Value)(x:τ)(O:Nat->Prop)(w:World)(Post:Value->τ->(Nat->Prop)->World->Prop):Prop:=
 ∃fn c,P.funcs[f]?=some fn/\(fn.name== "runtime.NumGoroutine")=false/\fn.body=some c/\
  WpK ok f c (V1 P fn Post) {tmps:=args++Array.replicate (fn.ntmps - args.size) undef,defers:=[]} x O w
end
section
variable {c d:Code}{f:FuncId}{i id:Nat}{o:Oper}{ops:Array Oper}{rest:List Nat}
variable {τ : Type}{P : Program}{main : Bool}{Low : Nat}{pre : τ -> World -> Prop}{ok : τ -> (Nat -> Prop) -> World -> Goroutine -> Prop}{fn : FuncId}{Q Q' : Vs τ}{a : Act}{x : τ}{O : Nat -> Prop}{w w₁ : World}
theorem KY.push {b:Frame}{y:Item}{k:List Item}{cs:List Frame}{e:Exit}(hx:y.plain=true)(g:e≠.normal)(h:KY ok b k cs e a x O w):KY ok b (y::k) cs e a x O w:=by
 cases e with
 | normal=>exact absurd rfl g
 | exit id=>obtain⟨j,n,m⟩:=h;exact⟨j,by cases y<;>simp_all[exitTo,Item.plain],m⟩
 | ret=>exact h
 | goto l=>exact h
 | panic p=>exact h
 | outgrown=>exact h
theorem WpK.mono (h:WpK ok fn c Q a x O w)(p:∀e a x O w,Q e a x O w->Q' e a x O w):WpK ok fn c Q' a x O w:=
 λb k cs g j l=>h b k cs g j λe n m O' w' q=>l e n m O' w' (p _ _ _ _ _ q)
abbrev WpK.mo:=@WpK.mono
theorem Tt.rely (T:OkL P main Low pre ok){todo:List Nat}(h:Tt ok fn ops todo Q a x O w)(hr:Keep Low O w w₁):Tt ok fn ops todo Q a x O w₁:=
 λb k cs e g j=>T.rely (h b k cs e g j) hr
def U2 (T:OkL P main Low pre ok)(h:Q .normal a x O w):WpK ok fn .skip Q a x O w:=λ_b _k _cs _ _ e=>T.ctl rfl rfl (λ_=>stepG_skip) (e _ _ _ _ _ h)
def Qu (T:OkL P main Low pre ok){l:Nat}(h:Q .normal a x O w):WpK ok fn (.label l) Q a x O w:=λ_b _k _cs _ _ e=>T.ctl rfl rfl (λ_=>stepG_label) (e _ _ _ _ _ h)
def Yq (T:OkL P main Low pre ok)(h:Q .ret a x O w):WpK ok fn .ret Q a x O w:=λ_b _k _cs _ _ e=>T.ctl rfl rfl (λ_=>stepG_ret') (e _ _ _ _ _ h _)
theorem U3 (T:OkL P main Low pre ok)(h:Q (.exit id) a x O w):WpK ok fn (.exit id) Q a x O w:=λb k cs _ _ g=>by
 obtain⟨l,e,j⟩:=g _ _ _ _ _ h;exact T.ctl rfl rfl (λ_=>stepG_exit e) j
theorem Jl (T:OkL P main Low pre ok)(h:WpK ok fn c (U4 (λr n O' w'=>WpK ok fn d Q r n O' w') Q) a x O w):WpK ok fn (.seq c d) Q a x O w:=by
 intro b k cs j m g;refine T.ctl rfl rfl (λ_=>stepG_seq) (h b (.code d::k) cs j m λe r n O' w' q=>?_);cases e with
 | normal=>exact q b k cs j m g
 | exit id=>exact(g _ _ _ _ _ q).push rfl AW
 | ret=>exact(g _ _ _ _ _ q).push (y:=.code d) rfl AW
 | goto l=>exact g _ _ _ _ _ q
 | panic s=>exact g _ _ _ _ _ q
 | outgrown=>exact g _ _ _ _ _ q
theorem LS (T:OkL P main Low pre ok){c:Operand}{e:Code}{t:Bool}(l:a.eval c=.bool t)(h:WpK ok fn (if t then d else e) Q a x O w):WpK ok fn (.cond c d e) Q a x O w:=
 λb k cs g j m=>T.ctl rfl rfl (λ_=>stepG_cond l) (h b k cs g j m)
theorem Qv (T:OkL P main Low pre ok)(h:WpK ok fn c (Ko id Q) a x O w):WpK ok fn (.block id c) Q a x O w:=by
 intro b k cs m s g;refine T.ctl rfl rfl (λ_=>stepG_block) (h b (.inBlock id::k) cs m s λe y v O' w' q=>?_);cases e with
 | normal=>exact T.ctl rfl rfl (λ_=>stepG_inBlock) (g _ _ _ _ _ q)
 | exit j=>
  by_cases Ab:j=id
  .simp only[Ko,Ab,if_true] at q
   exact⟨k,by simp[exitTo,Ab],g _ _ _ _ _ q⟩
  .simp only[Ko,Ab,C5] at q
   obtain⟨r,p,t⟩:=g _ _ _ _ _ q;have:(id==j)=false:=by simp;exact λh=>Ab h.symm
   exact⟨r,by simp[exitTo,this,p],t⟩
 | ret=>exact λn=>g _ _ _ _ _ q n
 | goto l=>exact g _ _ _ _ _ q
 | panic u=>exact g _ _ _ _ _ q
 | outgrown=>exact g _ _ _ _ _ q
theorem Xp (T:OkL P main Low pre ok)(I:Nat->Act->τ->(Nat->Prop)->World->Prop)(N:Nat)(u:I N a x O w)
  (round:∀n a x O w,I n a x O w->WpK ok fn c (U4 (λr j O' w'=>∃m,m<n/\I m r j O' w') Q) a x O w):WpK ok fn (.loop c) Q a x O w:=by
 intro b k cs s A g;have key:∀n a x O w,I n a x O w->ok x O w (G (b.at a (.code c::.inLoop c::k)) cs):=by
  intro n;induction n using Nat.strongRecOn with
  | ind n C=>
   intro a x O w t;refine round n a x O w t b (.inLoop c::k) cs s A λe r j O' w' q=>?_
   cases e with
   | normal=>obtain⟨m,v,B⟩:=q;exact T.ctl rfl rfl (λ_=>stepG_inLoop) (C m v _ _ _ _ B)
   | exit id=>exact(g _ _ _ _ _ q).push rfl AW
   | ret=>exact(g _ _ _ _ _ q).push (y:=.inLoop c) rfl AW
   | goto l=>exact g _ _ _ _ _ q
   | panic D=>exact g _ _ _ _ _ q
   | outgrown=>exact g _ _ _ _ _ q
 exact T.ctl rfl rfl (λ_=>stepG_loop) (key N _ _ _ _ u)
theorem Fq (T:OkL P main Low pre ok)(h:Tt ok fn ops (List.range ops.size) Q a x O w):WpK ok fn (.region id ops false) Q a x O w:=
 λb k cs e g j=>T.ctl rfl rfl (λ_=>stepG_region) (h b k cs e g j)
def O9 (T:OkL P main Low pre ok)(h:Q .normal a x O w):Tt ok fn ops [] Q a x O w:=
 λ_b _k _cs _ _ e=>T.ctl rfl rfl (λ_=>stepG_region_end) (e _ _ _ _ _ h)
theorem Vd (T:OkL P main Low pre ok)(m:ops[i]?=some o)(l:Region.wanted o (yielded ops a.tmps)=false)(h:Tt ok fn ops rest Q (a.put o.dst undef) x O w):Tt ok fn ops (i::rest) Q a x O w:=
 λb k cs e g j=>T.ctl rfl rfl (λ_=>stepG_unwanted m l) (h b k cs e g j)
theorem Wy (T:OkL P main Low pre ok)(m:ops[i]?=some o)(q:Region.wanted o (yielded ops a.tmps)=true)
  (h:∀w₁,Keep Low O w w₁->pre x w₁->∀K:Act->World->Prop,(∀l w',EX Low O w₁ w' (listed P fn a o w₁)/\Tt ok fn ops rest Q l x (grown O w₁ w') w'->K l w')->uponK o a K ((execOp a.eval o).run P w₁)):Tt ok fn ops (i::rest) Q a x O w:=by
 intro b k cs e j p;refine T.own rfl λw₁ r s=>?_
 have:=h w₁ r s (λl w'=>EX Low O w₁ w' (listed P fn a o w₁)/\Tt ok fn ops rest Q l x (grown O w₁ w') w') λ_ _ z=>z
 revert this
 cases n:(execOp a.eval o).run P w₁ with
 | ok y w'=>
  cases y with
  | value v=>rintro⟨d,g⟩;exact⟨_,_,_,stepG_value m q j n,rfl,by rw[e];exact d,g b k cs e j p⟩
  | skip=>rintro⟨d,g⟩;exact⟨_,_,_,stepG_none m q j n,rfl,by rw[e];exact d,g b k cs e j p⟩
  | _=>exact λz=>z.elim
 | halt _ _=>exact λz=>z.elim
theorem vA (T:OkL P main Low pre ok){args:Array Operand}{V:Array TypeId}{Post:Value->τ->(Nat->Prop)->World->Prop}
  (r:ops[i]?=some o) (N:Region.wanted o (yielded ops a.tmps)=true) (M:o.op=.call {callee:=.value (.func f),args,argTypes:=V})
  (E:Jg P ok f (args.map a.eval) x O w Post) (U:∀v g O' w',Post v g O' w'->Tt ok fn ops rest Q (a.put o.dst v) g O' w'):Tt ok fn ops (i::rest) Q a x O w:=by
 intro b k cs A y J;obtain⟨F,c,u,R,S,L⟩:=E;have B:∀v,(b.at a (.inRegion ops (i::rest)::k)).finish v=b.at (a.put o.dst v) (.inRegion ops rest::k):=λv=>by rw[Frame.finish_at,r];rfl
 have t:∀(j:Act) (g:τ) (O':Nat->Prop) (w':World) (m:List Item),(j.defers=[]/\∃v,ResultsC P F j.tmps v/\Post v g O' w')->
   ok g O' w' (G {(base f).at j m with mode:=.returning} (b.at a (.inRegion ops (i::rest)::k)::cs)):=by
  rintro j g O' w' m ⟨hd,v,s,D⟩;refine T.ctl rfl (g':=G (b.at (a.put o.dst v) (.inRegion ops rest::k)) cs) rfl (λw₁=>?_) (U v g O' w' D b k cs A y J);rw[stepG_leave (b:=base f) rfl hd u (s w₁).1 (s w₁).2,B]
 have C:ok x O w (G ((base f).at {tmps:=args.map a.eval++Array.replicate (F.ntmps - (args.map a.eval).size) undef,defers:=[]} [.code c]) (b.at a (.inRegion ops (i::rest)::k)::cs)):=by
  refine L (base f) [] _ rfl Bt λe j g O' w' q=>?_
  cases e with
  | normal=>exact T.ctl rfl rfl (λ_=>stepG_end) (t j g O' w' [] q)
  | ret=>exact λm=>t j g O' w' m q
  | exit id=>exact q.elim
  | goto l=>exact q.elim
  | panic X=>exact q.elim
  | outgrown=>exact q.elim
 refine T.ctl rfl (g':=G ((base f).at {tmps:=args.map a.eval++Array.replicate (F.ntmps - (args.map a.eval).size) undef,defers:=[]} [.code c]) (b.at a (.inRegion ops (i::rest)::k)::cs)) rfl (λw₁=>?_) C;obtain⟨g',w',n,H,I⟩:=goes_elim (goes_call (P:=P) (main:=main) (w:=w₁) (cs:=cs) (k:=k) (rest:=rest) (K:=λg' w' n=>g'=G ((base f).at {tmps:=args.map a.eval++Array.replicate (F.ntmps - (args.map a.eval).size) undef,defers:=[]} [.code c]) (b.at a (.inRegion ops (i::rest)::k)::cs)/\w'=w₁/\n=#[]) r N y M u R S ⟨rfl,rfl,rfl⟩);obtain⟨rfl,rfl,rfl⟩:=I;exact H
theorem Jg.mono {args:Array Value}{Post g:Value->τ->(Nat->Prop)->World->Prop}(h:Jg P ok f args x O w Post)(n:∀v x O w,Post v x O w->g v x O w):Jg P ok f args x O w g:=by
 obtain⟨F,c,k,l,j,m⟩:=h;refine⟨F,c,k,l,j,m.mono λe a x O w q=>?_⟩;cases e<;>first | exact⟨q.1,q.2.choose,q.2.choose_spec.1,n _ _ _ _ q.2.choose_spec.2⟩ | exact q
end
section
variable {P : Program}{Low : Nat}
abbrev Jg.mo:=@Jg.mono
def okS (P:Program)(Low c:Nat):List Value->(Nat->Prop)->World->Goroutine->Prop:=λvs O w g=>D2 P Low ⟨c,O,vs,g,w⟩
theorem Aw (P:Program)(Low c:Nat):OkL P false Low (λ_ w=>X9 c w) (okS P Low c):=by
 refine⟨fun {x O w w₁ g} h l=>?_,fun {x O w g} p h=>?_⟩
 .have hi:=D2.inv h
  refine D2.mk ⟨hi.1,?_⟩;rcases hi.2 with h | ⟨v,m,e,h⟩ | ⟨q,n,h⟩
  .exact .inl λj k o=>h j (l.trans k) o
  .exact .inr (.inl ⟨v,m,e,λj k o=>h j (l.trans k) o⟩)
  .exact .inr (.inr ⟨q,n,λj s r k o=>h j s r (l.trans k) o⟩)
 .exact D2.mk ⟨p, .inl λw₁ k o=>h w₁ k o⟩
def okR (P:Program)(Low:Nat)(Stop:Goroutine->World->Prop):List (Nat × List Value × Bool)->(Nat->Prop)->World->Goroutine->Prop:=λL O w g=>EI P Low Stop ⟨O,L,g,w⟩
theorem A8 (P:Program)(Low:Nat)(Stop:Goroutine->World->Prop):OkL P true Low (λ_ _=>True) (okR P Low Stop):=by
 refine⟨fun {x O w w₁ g} h l=>?_,fun {x O w g} n h=>?_⟩
 .have hi:=EI.inv h
  refine EI.mk ⟨hi.1,?_⟩;rcases hi.2 with⟨m,h⟩ | h | ⟨c,q,h⟩ | ⟨j,c,vs,z,p,h⟩
  .exact .inl ⟨m,λe k=>h e (l.trans k)⟩
  .exact .inr (.inl λe k=>h e (l.trans k))
  .exact .inr (.inr (.inl ⟨c,q,λe k=>h e (l.trans k)⟩))
  .exact .inr (.inr (.inr ⟨j,c,vs,z,p,λe k=>h e (l.trans k)⟩))
 .exact EI.mk ⟨n, .inr (.inl λw₁ k=>h w₁ k trivial)⟩
section
variable {F:Func}{args:Array Value}{cd:Code}{f:FuncId}{vs:List Value}{z:Value}
variable {fn : FuncId}{a : Act}{O : Nat -> Prop}{w : World}{c : Nat}{ops : Array Oper}{i : Nat}{rest : List Nat}{o : Oper}
theorem VX {Q:Vs (List Value)}{v:Value}(j:ops[i]?=some o)(r:Region.wanted o (yielded ops a.tmps)=true)(hr:∀w₁:World,(execOp a.eval o).run P w₁=.ok (.comm #[scase c v z] true .send) w₁)
  (n:∀w₁:World,(execOp a.eval o).events P w₁ #[]=#[]) (h:Tt (okS P Low c) fn ops rest Q (a.put o.dst undef) vs O w):Tt (okS P Low c) fn ops (i::rest) Q a (v::vs) O w:=by
 intro b k cs l g p;refine D2.mk ⟨rfl, .inr (.inl ⟨v,vs,rfl,λw₁ m _=>⟨⟨z,?_⟩,?_⟩⟩)⟩
 .show stepG P false (G (b.at a (.inRegion ops (i::rest)::k)) cs) w₁=_
  rw[stepG_comm j r g (hr w₁)];unfold listed;rw[n,seen_none]
 .have q:(b.at a (.inRegion ops (i::rest)::k)).finish undef=b.at (a.put o.dst undef) (.inRegion ops rest::k):=by rw[Frame.finish_at,j];rfl
  have e:Conc.served (G (b.at a (.inRegion ops (i::rest)::k)) cs) undef=G (b.at (a.put o.dst undef) (.inRegion ops rest::k)) cs:=by rw[<-q];rfl
  show D2 P Low ⟨c,O,vs,Conc.served (G (b.at a (.inRegion ops (i::rest)::k)) cs) undef,w₁⟩
  rw[e];exact(Aw P Low c).rely (h b k cs l g p) m
theorem vD {b:Frame}{k:List Item}{cs:List Frame}{y:Operand}{u:Array TypeId}{n:Nat}(q:ops[i]?=some o)(p:Region.wanted o (yielded ops a.tmps)=true)(g:b.kind≠.early)
  (l:o.op=.call {callee:=.builtin .close,args:=#[y],argTypes:=u}) (j:a.eval y=.chan (some c)) (m:(P.funcs[b.fn]?).any (·.norace)=false) (t:mayWake P (G (b.at a (.inRegion ops (i::rest)::k)) cs)=true)
  (h:QuitsIn P n (G (b.at (a.put o.dst (.tuple #[])) (.inRegion ops rest::k)) cs)):okS P Low c [] O w (G (b.at a (.inRegion ops (i::rest)::k)) cs):=by
 refine D2.mk ⟨rfl, .inr (.inr ⟨rfl,t,λw₁ s r _ e=>⟨_,n,?_,rfl,h⟩⟩)⟩;exact stepG_close q p g l j e m
def HQ (P:Program):Frame:={(default:Frame) with fn:=P.funcs.size,defers:=[],mode:=.panicking [goexitEntry]}
def oQ (g:P.funcs[f]?=some F)(h:(F.name== "runtime.NumGoroutine")=false)(e:F.body=some cd)(w:World):
  stepG P false (born P (dcall f args)) w=.go (G ((baseD f).at {tmps:=args++Array.replicate (F.ntmps - args.size) undef,defers:=[]} [.code cd]) [HQ P]) w #[]:=by
 have j:¬F.name= "runtime.NumGoroutine" :=by simpa using h
 simp[born,dcall,stepG,unwind,callDeferred,invoke,callFunc,g,j,e,seen,GStep.after,G,Frame.enter,Frame.at,baseD,HQ]
theorem tL {a:Act}{ops:Array Oper}(e:P.funcs[f]?=some F)(hr:F.results=#[])(hd:a.defers=[]):QuitsIn P 4 (G ((baseD f).at a [.inRegion ops []]) [HQ P]):=by
 refine .inr ⟨rfl,_,λw=>stepG_region_end,?_⟩;refine .inr ⟨rfl,_,λw=>stepG_end,?_⟩;refine .inr ⟨rfl,G (HQ P) [],λw=>?_,?_⟩
 .simp[G,stepG,unwind,doReturn,results,Frame.at,baseD,HQ,e,hr,hd,seen,GStep.after,goexitEntry]
 refine .inr ⟨rfl,{G (HQ P) [] with status:=.finished},λw=>?_,rfl⟩;simp[G,stepG,unwind,HQ,goexitEntry,Frame.catches];rfl
def ZB (g:P.funcs[f]?=some F)(j:(F.name== "runtime.NumGoroutine")=false)(e:F.body=some cd)
  (h:okS P Low c vs O w (G ((baseD f).at {tmps:=args++Array.replicate (F.ntmps - args.size) undef,defers:=[]} [.code cd]) [HQ P])):okS P Low c vs O w (born P (dcall f args)):=
 (Aw P Low c).ctl rfl rfl (oQ g j e) h
theorem VY {Stop:Goroutine->World->Prop}{Q:Vs (List (Nat × List Value × Bool))}{L:List (Nat × List Value × Bool)}{j:Nat}(p:ops[i]?=some o)(s:Region.wanted o (yielded ops a.tmps)=true)
  (u:L[j]?=some (c,vs,false)) (hr:∀w₁:World,(execOp a.eval o).run P w₁=.ok (.comm #[rcase c z] true (.recv true)) w₁) (r:∀w₁:World,(execOp a.eval o).events P w₁ #[]=#[])
  (h1:∀v g,vs=v::g->Tt (okR P Low Stop) fn ops rest Q (a.put o.dst (.tuple #[v, .bool true])) (L.set j (c,g,false)) O w)
  (y:vs=[]->Tt (okR P Low Stop) fn ops rest Q (a.put o.dst (.tuple #[z, .bool false])) (L.set j (c,[],true)) O w):Tt (okR P Low Stop) fn ops (i::rest) Q a L O w:=by
 intro b k cs m h n;have t:∀v,(b.at a (.inRegion ops (i::rest)::k)).finish v=b.at (a.put o.dst v) (.inRegion ops rest::k):=λv=>by rw[Frame.finish_at,p];rfl
 have e:∀v,Conc.served (G (b.at a (.inRegion ops (i::rest)::k)) cs) v=G (b.at (a.put o.dst v) (.inRegion ops rest::k)) cs:=λv=>by rw[<-t];rfl
 refine EI.mk ⟨rfl, .inr (.inr (.inr ⟨j,c,vs,z,u,λw₁ q=>⟨?_,λv g l=>?_,λl=>?_⟩⟩))⟩
 .show stepG P true (G (b.at a (.inRegion ops (i::rest)::k)) cs) w₁=_
  rw[stepG_comm p s h (hr w₁)];unfold listed;rw[r,seen_none]
 .show EI P Low Stop ⟨O,_,Conc.served (G (b.at a (.inRegion ops (i::rest)::k)) cs) (.tuple #[v, .bool true]),w₁⟩
  rw[e];exact(A8 P Low Stop).rely (h1 v g l b k cs m h n) q
 .show EI P Low Stop ⟨O,_,Conc.served (G (b.at a (.inRegion ops (i::rest)::k)) cs) (.tuple #[z, .bool false]),w₁⟩
  rw[e];exact(A8 P Low Stop).rely (y l b k cs m h n) q
theorem cL {Stop:Goroutine->World->Prop}{Q:Vs (List (Nat × List Value × Bool))}{L:List (Nat × List Value × Bool)}(v:ops[i]?=some o)(u:Region.wanted o (yielded ops a.tmps)=true)
  (hr:∀w₁:World,(execOp a.eval o).run P w₁=.ok (.spawn (dcall f args)) w₁) (p:∀w₁:World,(execOp a.eval o).events P w₁ #[]=#[]) (m:O c) (y:X9 c w)
  (t:okS P Low c vs (λ_=>False) w (born P (dcall f args))) (h:Tt (okR P Low Stop) fn ops rest Q (a.put o.dst undef) (L++[(c,vs,false)]) (λb=>O b/\b≠c) w):Tt (okR P Low Stop) fn ops (i::rest) Q a L O w:=by
 intro b k cs n l q;refine EI.mk ⟨rfl, .inr (.inr (.inl ⟨c,m,λw₁ g=>⟨G (b.at (a.put o.dst undef) (.inRegion ops rest::k)) cs,born P (dcall f args),vs,?_,rfl,rfl,?_,?_,?_⟩⟩))⟩
 .show stepG P true (G (b.at a (.inRegion ops (i::rest)::k)) cs) w₁=_
  rw[stepG_spawn v u l (hr w₁) rfl];unfold listed;rw[p,seen_none]
 .obtain⟨s,r,e⟩:=y
  exact⟨s,r,(g.mine c m).trans e⟩
 .exact(Aw P Low c).rely t (g.sub λ_ j=>j.elim)
 .exact(A8 P Low Stop).rely (h b k cs n l q) (g.sub λ_ j=>j.1)
theorem ZC {Stop:Goroutine->World->Prop}{L:List (Nat × List Value × Bool)}{g:Goroutine}(hr:g.status=.running)(j:∀e∈L,e.2.2=true)(h:∀w₁,Keep Low O w w₁->Stop g w₁):okR P Low Stop L O w g:=
 EI.mk ⟨hr, .inl ⟨j,h⟩⟩
end
end
section
variable {τ : Type}{P : Program}{main : Bool}{Low : Nat}{pre : τ -> World -> Prop}{ok : τ -> (Nat -> Prop) -> World -> Goroutine -> Prop}{fn : FuncId}{Q : Vs τ}{a : Act}{x : τ}{O : Nat -> Prop}{w : World}
variable {ops : Array Oper}{i : Nat}{rest : List Nat}{o : Oper}
theorem M7 (T:OkL P main Low pre ok)(p:ops[i]?=some o)(n:Region.wanted o (yielded ops a.tmps)=true)
  (l:∀w₁,Keep Low O w w₁->∀e∈(execOp a.eval o).events P w₁ #[],EvO Low O e)
  (h:∀w₁,Keep Low O w w₁->∀K:Act->World->Prop,(∀g,Tt ok fn ops rest Q g x O w->K g w₁)->uponK o a K ((execOp a.eval o).run P w₁)):Tt ok fn ops (i::rest) Q a x O w:=by
 refine Wy T p n λw₁ j _ K m=>?_
 have:=h w₁ j (λg w'=>w'=w₁/\Tt ok fn ops rest Q g x O w) λg h=>⟨rfl,h⟩
 refine uponK_mono (λg w' h=>?_) this;obtain⟨rfl,h⟩:=h;refine m _ _ ⟨⟨λ_ _ _=>rfl,B7 _,rfl,rfl,rfl,λe k=>?_⟩,?_⟩
 .rw[Iw];exact .inl (l _ j e (mem_listed k))
 .rw[Iw];exact h.rely T j
def Oe (T:OkL P main Low pre ok)(k:ops[i]?=some o)(j:Region.wanted o (yielded ops a.tmps)=true)(g:∀w₁:World,(execOp a.eval o).events P w₁ #[]=#[])
  (h:∀(w₁:World) (K:Act->World->Prop),(∀e,Tt ok fn ops rest Q e x O w->K e w₁)->uponK o a K ((execOp a.eval o).run P w₁)):Tt ok fn ops (i::rest) Q a x O w:=
 M7 T k j (λw₁ _=>by rw[g];simp) λw₁ _=>h w₁
theorem Ld (T:OkL P main Low pre ok)(q:ops[i]?=some o)(n:Region.wanted o (yielded ops a.tmps)=true)(k:∀w₁:World,(execOp a.eval o).events P w₁ #[]=#[])
  (h:∀w₁,Keep Low O w w₁->∀K:Act->World->Prop,(∀g ob,Tt ok fn ops rest Q g x (λb=>O b\/b=w₁.heap.size) (w₁.alloc ob)->K g (w₁.alloc ob))->uponK o a K ((execOp a.eval o).run P w₁)):Tt ok fn ops (i::rest) Q a x O w:=by
 refine Wy T q n λw₁ l _ K m=>?_
 have:=h w₁ l (λg w'=>∃ob,w'=w₁.alloc ob/\Tt ok fn ops rest Q g x (λb=>O b\/b=w₁.heap.size) w') λg ob h=>⟨ob,rfl,h⟩
 refine uponK_mono (λg w' h=>?_) this;obtain⟨ob,rfl,h⟩:=h;refine m _ _ ⟨⟨λb j _=>?_,by simp only[World.alloc,LL];omega,rfl,rfl,rfl,λe r=>?_⟩,?_⟩
 .simp only[World.alloc]
  rw[MY j,Hv j]
 .have:=mem_listed r
  rw[k] at this;simp at this
 .have e:grown O w₁ (w₁.alloc ob)=λb=>O b\/b=w₁.heap.size:=by
   funext b;apply propext;simp only[grown,World.alloc,LL];constructor
   .rintro(h | h)
    .exact .inl h
    .exact .inr AU
   .rintro(h | h)
    .exact .inl h
    .exact .inr AU
  rw[e];exact h
end
open Go.RowKit
structure CV (Low:Nat)(O O':Nat->Prop)(w w':World):Prop where
 own:∀b,O b->O' b
 still:∀b,b<Low->w'.heap[b]?=w.heap[b]?
 mine:∀b,O b->w'.heap[b]?=w.heap[b]?
 size:w.heap.size<=w'.heap.size
section
variable {Low : Nat}{w₀ w w' w'' : World}{bs : List (Nat × Obj)}{O O' mZ : Nat -> Prop}
def CV.refl (Low:Nat)(O:Nat->Prop)(w:World):CV Low O O w w:=⟨λ_ h=>h,λ_ _=>rfl,λ_ _=>rfl,B7 _⟩
theorem CV.trans (h:CV Low O O' w w')(k:CV Low O' mZ w' w''):CV Low O mZ w w'':=
 ⟨λb e=>k.own b (h.own b e),λb e=>(k.still b e).trans (h.still b e),λb e=>(k.mine b (h.own b e)).trans (h.mine b e),CB h.size k.size⟩
abbrev CV.tr:=@CV.trans
def Keep.ext (h:Keep Low O w w'):CV Low O O w w':=⟨λ_ h=>h,h.still,h.mine,h.size⟩
def N5 {w:World}{b:Nat}(e:b<w.heap.size)(ob:Obj):(w.alloc ob).heap[b]?=w.heap[b]?:=by
 simp only[World.alloc];rw[MY e,Hv e]
def CV.new (hl:Low<=w.heap.size)(g:∀b,O b->b<w.heap.size)(ob:Obj):CV Low O (λb=>O b\/b=w.heap.size) w (w.alloc ob):=
 ⟨λ_ h=>.inl h,λb e=>N5 (B8 e hl) ob,λb e=>N5 (g b e) ob,by simp only[World.alloc,LL];omega⟩
end
structure Held (Low:Nat)(w₀:World)(O:Nat->Prop)(w:World):Prop where
 still:∀b,b<Low->w.heap[b]?=w₀.heap[b]?
 low:Low<=w.heap.size
 up:∀b,O b->b<w.heap.size
 os:w.os=w₀.os
 out:w.output=w₀.output
section
variable {Low : Nat}{w₀ w w' : World}{O O' : Nat -> Prop}
theorem Held.rely (h:Held Low w₀ O w)(e:Keep Low O w w'):Held Low w₀ O w':=⟨λb g=>(e.still b g).trans (h.still b g),CB h.low e.size,λb g=>B8 (h.up b g) e.size,e.os.trans h.os,e.out.trans h.out⟩
theorem Held.new (h:Held Low w₀ O w)(ob:Obj):Held Low w₀ (λb=>O b\/b=w.heap.size) (w.alloc ob):=
 ⟨λb e=>(N5 (B8 e h.low) ob).trans (h.still b e),by simp only[World.alloc,LL];have:=h.low;omega,λb e=>by
  simp only[World.alloc,LL];rcases e with e | e
  .have:=h.up b e;omega
  .omega,h.os,h.out⟩
def Held.down (h:Held Low w₀ O w){b:Nat}(e:b<Low)(k:Nat):w.cell? ⟨b,k,none⟩=w₀.cell? ⟨b,k,none⟩:=by
 simp only[World.cell?,h.still b e]
def Held.ext (h:Held Low w₀ O w)(ob:Obj):CV Low O (λb=>O b\/b=w.heap.size) w (w.alloc ob):=CV.new h.low h.up ob
def CV.cell (h:CV Low O O' w w'){b:Nat}(e:O b\/b<Low)(k:Nat):w'.cell? ⟨b,k,none⟩=w.cell? ⟨b,k,none⟩:=by
 have :=e.elim (h.mine b) (h.still b);simp only[World.cell?,this]
def gw (w:World)(cs:Array Value)(ty:TypeId)(k:Nat):(w.alloc (.cells cs ty)).cell? ⟨w.heap.size,k,none⟩=cs[k]?:=by
 have:(w.alloc (.cells cs ty)).heap[w.heap.size]?=some (.cells cs ty):=by simp only[World.alloc];exact MV
 simp only[World.cell?,this];rfl
theorem Gm {τ:Type}{P:Program}{main:Bool}{pre:τ->World->Prop}{ok:τ->(Nat->Prop)->World->Goroutine->Prop}{fn:FuncId}{Q:Vs τ}{a:Act}{x:τ}(T:OkL P main Low pre ok){ops:Array Oper}{i:Nat}{rest:List Nat}{o:Oper}{f:FuncId}{args:Array Operand}{n:Array TypeId}{vals:Array Value}{Post:Value->τ->(Nat->Prop)->World->Prop}
  (l:ops[i]?=some o) (k:Region.wanted o (yielded ops a.tmps)=true) (j:o.op=.call {callee:=.value (.func f),args,argTypes:=n})
  (g:Jg P ok f vals x O w Post) (h:args.map a.eval=vals) (m:∀v e O' w',Post v e O' w'->Tt ok fn ops rest Q (a.put o.dst v) e O' w'):Tt ok fn ops (i::rest) Q a x O w:=
 vA T l k j (by rw[h];exact g) m
theorem boxed {w₁:World}(hF:Held Low w₀ O w)(g:Keep Low O w w₁)(cs:Array Value)(ty:TypeId):
  ∃e,e=(λb=>O b\/b=w₁.heap.size)/\CV Low O e w (w₁.alloc (.cells cs ty))/\Held Low w₀ e (w₁.alloc (.cells cs ty))/\e w₁.heap.size/\Low<=w₁.heap.size/\
   ∀W,Keep Low e (w₁.alloc (.cells cs ty)) W->∀k,W.cell? ⟨w₁.heap.size,k,none⟩=cs[k]?:=
 ⟨_,rfl,g.ext.trans ((hF.rely g).ext _),(hF.rely g).new _, .inr rfl,(hF.rely g).low,λ_W h k=>(h.ext.cell (.inl (.inr rfl)) k).trans (gw _ _ _ _)⟩
end
section
variable {τ : Type}{P : Program}{main : Bool}{Low : Nat}{pre : τ -> World -> Prop}{ok : τ -> (Nat -> Prop) -> World -> Goroutine -> Prop}{fn : FuncId}{Q : Vs τ}{a : Act}{x : τ}{O : Nat -> Prop}{w w₀ : World}{ops : Array Oper}{i : Nat}{rest : List Nat}{o : Oper}
theorem kB (hF:Held Low w₀ O w)(cs:Array Value)(ty:TypeId)
  (h:∀O1 W1 b,CV Low O O1 w W1->Held Low w₀ O1 W1->O1 b->Low<=b->Hid (∀W,Keep Low O1 W1 W->∀k,W.cell? ⟨b,k,none⟩=cs[k]?)->Tt ok fn ops rest Q (a.put o.dst (.pointer (some ⟨b,0,none⟩))) x O1 W1)
  (ho:ops[i]?=some o:=by rfl) (hw:Region.wanted o (yielded ops a.tmps)=true:=by rfl) (T:OkL P main Low pre ok:=by first | exact Aw _ _ _ | exact A8 _ _ _) (he:∀w₁:World,(execOp a.eval o).events P w₁ #[]=#[]:=by(intro _;simp[go_sem]))
  (hr:∀(w₁:World) (K:Act->World->Prop),K (a.put o.dst (.pointer (some ⟨w₁.heap.size,0,none⟩))) (w₁.alloc (.cells cs ty))->uponK o a K ((execOp a.eval o).run P w₁):=by(intro w₁ K hK;go_simp;exact hK)):Tt ok fn ops (i::rest) Q a x O w:=by
 refine Ld T ho hw he λw₁ hR K hK=>hr w₁ K (hK _ _ ?_)
 obtain⟨O1,eO,h1,h2,h3,h4,h5⟩:=boxed hF hR cs ty;rw[<-eO];exact h O1 _ _ h1 h2 h3 h4 h5
def G1 {e h:Nat->Prop}{g j:World}{b:Nat}{f:Nat->Option Value}(H:Hid (∀W,Keep Low e g W->∀k,W.cell? ⟨b,k,none⟩=f k))(m:CV Low e h g j)(l:e b):Hid (∀W,Keep Low h j W->∀k,W.cell? ⟨b,k,none⟩=f k):=λ_ n k=>(n.ext.cell (.inl (m.own _ l)) k).trans ((m.cell (.inl l) k).trans (H _ (Keep.refl _ _ _) k))
end
structure EH (b:Nat)(w w':World):Prop where
 rest:∀x,x≠b->w'.heap[x]?=w.heap[x]?
 size:w'.heap.size=w.heap.size
 tape:w'.tape=w.tape
 os:w'.os=w.os
 out:w'.output=w.output
def EH.refl (b:Nat)(w:World):EH b w w:=⟨λ_ _=>rfl,rfl,rfl,rfl,rfl⟩
theorem EH.set {b:Nat}{w w':World}(h:EH b w w')(o:Nat)(v:Value):EH b w (w'.setCell ⟨b,o,none⟩ v):=by
 refine⟨λx g=>?_,?_,h.tape,h.os,h.out⟩
 .rw[<-h.rest x g]
  simp only[World.setCell];rw[Ge];have:¬b=x:=λe=>g e.symm
  simp[this]
 .rw[<-h.size];simp[World.setCell]
section
variable {τ : Type}{P : Program}{main : Bool}{Low : Nat}{pre : τ -> World -> Prop}{ok : τ -> (Nat -> Prop) -> World -> Goroutine -> Prop}{fn : FuncId}{Q : Vs τ}{a : Act}{x : τ}{O : Nat -> Prop}{w : World}
variable {ops : Array Oper}{i : Nat}{rest : List Nat}{o : Oper}
theorem Wx (T:OkL P main Low pre ok)(b:Nat)(l:O b)(r:ops[i]?=some o)(q:Region.wanted o (yielded ops a.tmps)=true)
  (n:∀w₁,Keep Low O w w₁->∀e∈(execOp a.eval o).events P w₁ #[],EvO Low O e)
  (h:∀w₁,Keep Low O w w₁->∀K:Act->World->Prop,(∀j w',EH b w₁ w'->Tt ok fn ops rest Q j x O w'->K j w')->uponK o a K ((execOp a.eval o).run P w₁)):Tt ok fn ops (i::rest) Q a x O w:=by
 refine Wy T r q λw₁ k _ K p=>?_
 have:=h w₁ k (λj w'=>EH b w₁ w'/\Tt ok fn ops rest Q j x O w') λj w' g h=>⟨g,h⟩
 refine uponK_mono (λj w' h=>?_) this;obtain⟨g,h⟩:=h;have e:grown O w₁ w'=O:=by
  funext y;apply propext;simp only[grown,g.size];constructor
  .rintro(h | h)
   .exact h
   .omega
  .exact .inl
 refine p _ _ ⟨⟨λy _ m=>g.rest y (λe=>m (e ▸ l)),Nat.le_of_eq g.size.symm,g.tape,g.os,g.out,λs t=>?_⟩,?_⟩
 .rw[e];exact .inl (n _ k s (mem_listed t))
 .rw[e];exact h
end
theorem cI {τ:Type}{ok:τ->(Nat->Prop)->World->Goroutine->Prop}{fn:FuncId}{Q:Vs τ}{a:Act}{x:τ}{O:Nat->Prop}{w:World}{c:Code}{N:Act->τ->(Nat->Prop)->World->Prop}(M:Act->τ->(Nat->Prop)->World->Prop)
  (h:WpK ok fn c (U4 M Q) a x O w) (k:∀j g O' w',M j g O' w'->N j g O' w'):WpK ok fn c (U4 N Q) a x O w:=
 h.mono λe j g O' w' q=>by cases e<;>first | exact k _ _ _ _ q | exact q
theorem events_store_slice {P:Program}{w:World}{es:Array Event}{a:Addr}{m:Mode}(p:Option Addr)(n c:Nat):(store a (.slice p n c) m).events P w es=storedEv P w es a (.slice p n c) m:=events_store P w es a _ m rfl
section
variable {cs:Array Value}{ty:TypeId}{w₁:World}
variable {Low b : Nat}{w₀ w w' W : World}{O O' : Nat -> Prop}
theorem CV.put (h:CV Low O O' W w)(g:EH b w w')(hl:Low<=b)(j:∀x,O x->x≠b):CV Low O O' W w':=
 ⟨h.own,λx e=>(g.rest x AU).trans (h.still x e),λx e=>(g.rest x (j x e)).trans (h.mine x e),CB h.size (Nat.le_of_eq g.size.symm)⟩
theorem Held.put (h:Held Low w₀ O w)(e:EH b w w')(hl:Low<=b):Held Low w₀ O w':=
 ⟨λx g=>(e.rest x AU).trans (h.still x g),by rw[e.size];exact h.low,λx g=>by rw[e.size];exact h.up x g,e.os.trans h.os,e.out.trans h.out⟩
def CV.rely (h:CV Low O O' w W)(e:Keep Low O' W w₁):CV Low O O' w w₁:=h.trans e.ext
def KV (hF:Held Low w₀ O w)(h:Keep Low O w w₁)(cs:Array Value)(ty:TypeId):
  ∃g,g=(λb=>O b\/b=w₁.heap.size)/\CV Low O g w (w₁.alloc (.cells cs ty))/\Held Low w₀ g (w₁.alloc (.cells cs ty))/\g w₁.heap.size/\Low<=w₁.heap.size/\(∀x,O x->x≠w₁.heap.size)/\
   (w₁.alloc (.cells cs ty)).heap[w₁.heap.size]?=some (.cells cs ty):=by
 obtain⟨g,e,n,m,k,l,_⟩:=boxed hF h cs ty;refine⟨g,e,n,m,k,l,λx j=>?_,?_⟩
 .have:=(hF.rely h).up x j
  omega
 .simp only[World.alloc];exact MV
def cell_of_heap {w:World}{b:Nat}{e:Nat × Nat}(h:w.heap[b]?=some (.cells cs ty e))(k:Nat):w.cell? ⟨b,k,none⟩=cs[k]?:=by
 simp only[World.cell?,h];rfl
def frozen_of_heap {w:World}{b:Nat}(h:w.heap[b]?=some (.cells cs ty))(k:Nat):w.frozen? ⟨b,k,none⟩=false:=by
 simp[World.frozen?,h]
theorem heap_setCell {w:World}{b:Nat}{e:Nat × Nat}(h:w.heap[b]?=some (.cells cs ty e))(o:Nat)(v:Value):(w.setCell ⟨b,o,none⟩ v).heap[b]?=some (.cells (cs.setIfInBounds o v) ty e):=by
 simp only[World.setCell];rw[Ge,if_pos rfl,h];rfl
end
variable {G G':Prop}
structure Wr (p:Prop):Prop where
 out:p
theorem kW (k:G')(f:Wr G'->G:=by(intro hZ;(repeat (first | (refine Fq (Aw _ _ _) ?_;simp only[CS,CC,CM,Nat.reduceAdd,Cd,List.range,List.range.loop]) | (refine Oe (Aw _ _ _) rfl A0 ?_ ?_;(focus (intro _;first | (simp[go_sem];done) | (simp[go_sem, *];done)));intro _ K hK;go_simp;refine hK _ ?_;clear hK K;try walk_nrm) | (refine M7 (Aw _ _ _) rfl A0 ?_ ?_;(focus (intro W1 hR e he;have hy:=_Y _ hR;simp[go_sem, *] at he;(first | (subst he;(first | (refine⟨_,_,rfl, .inl ?_⟩;assumption) | (refine⟨_,_,rfl, .inr ⟨?_,rfl⟩⟩;assumption) | exact⟨_,_,rfl,_B.imp id (λh=>⟨h,rfl⟩)⟩)) | (rcases he with rfl | rfl<;>(first | (refine⟨_,_,rfl, .inl ?_⟩;assumption) | (refine⟨_,_,rfl, .inr ⟨?_,rfl⟩⟩;assumption) | exact⟨_,_,rfl,_B.imp id (λh=>⟨h,rfl⟩)⟩)) | (rcases he with rfl | rfl | rfl | rfl<;>(first | (refine⟨_,_,rfl, .inl ?_⟩;assumption) | (refine⟨_,_,rfl, .inr ⟨?_,rfl⟩⟩;assumption) | exact⟨_,_,rfl,_B.imp id (λh=>⟨h,rfl⟩)⟩)) | (rcases he with rfl | rfl | rfl | rfl | rfl | rfl<;>(first | (refine⟨_,_,rfl, .inl ?_⟩;assumption) | (refine⟨_,_,rfl, .inr ⟨?_,rfl⟩⟩;assumption) | exact⟨_,_,rfl,_B.imp id (λh=>⟨h,rfl⟩)⟩)));done));intro W1 hR K hK;have hy:=_Y _ hR;go_simp;refine hK _ ?_;clear hK K hR hy W1;try walk_nrm) | (refine Vd (Aw _ _ _) rfl ?_ ?_;(focus (rfl;done));try walk_nrm) | (refine VX (z:=.tuple #[]) rfl A0 ?_ ?_ ?_;(focus (intro _;simp[execOp,scase,Act.eval];done));(focus (intro _;simp[execOp];done));try walk_nrm) | (refine LS (Aw _ _ _) (t:=true) ?_ ?_;(focus (simp[Act.eval, *];done));simp only[if_true,reduceIte]) | (refine LS (Aw _ _ _) (t:=false) ?_ ?_;(focus (simp[Act.eval, *];done));simp only[DR,C5,reduceIte]) | ((first | refine Jl (Aw _ _ _) ?_ | refine Qv (Aw _ _ _) ?_ | refine U2 (Aw _ _ _) ?_ | refine Qu (Aw _ _ _) ?_ | refine Yq (Aw _ _ _) ?_ | refine U3 (Aw _ _ _) ?_ | refine O9 (Aw _ _ _) ?_);try (simp only[U4,Ko,if_true,C5,reduceIte,Nat.reduceEqDiff]))));exact hZ.out)):G:=f ⟨k⟩
theorem kV (k:G')(f:Wr G'->G:=by(intro hZ;(repeat (first | (refine Fq (A8 _ _ _) ?_;simp only[CS,CC,CM,Nat.reduceAdd,Cd,List.range,List.range.loop]) | (refine Oe (A8 _ _ _) rfl A0 ?_ ?_;(focus (intro _;first | (simp[go_sem];done) | (simp[go_sem, *];done)));intro _ K hK;go_simp;refine hK _ ?_;clear hK K;try walk_nrm) | (refine M7 (A8 _ _ _) rfl A0 ?_ ?_;(focus (intro W1 hR e he;have hy:=_Y _ hR;simp[go_sem, *] at he;(first | (subst he;(first | (refine⟨_,_,rfl, .inl ?_⟩;assumption) | (refine⟨_,_,rfl, .inr ⟨?_,rfl⟩⟩;assumption) | exact⟨_,_,rfl,_B.imp id (λh=>⟨h,rfl⟩)⟩)) | (rcases he with rfl | rfl<;>(first | (refine⟨_,_,rfl, .inl ?_⟩;assumption) | (refine⟨_,_,rfl, .inr ⟨?_,rfl⟩⟩;assumption) | exact⟨_,_,rfl,_B.imp id (λh=>⟨h,rfl⟩)⟩)) | (rcases he with rfl | rfl | rfl | rfl<;>(first | (refine⟨_,_,rfl, .inl ?_⟩;assumption) | (refine⟨_,_,rfl, .inr ⟨?_,rfl⟩⟩;assumption) | exact⟨_,_,rfl,_B.imp id (λh=>⟨h,rfl⟩)⟩)) | (rcases he with rfl | rfl | rfl | rfl | rfl | rfl<;>(first | (refine⟨_,_,rfl, .inl ?_⟩;assumption) | (refine⟨_,_,rfl, .inr ⟨?_,rfl⟩⟩;assumption) | exact⟨_,_,rfl,_B.imp id (λh=>⟨h,rfl⟩)⟩)));done));intro W1 hR K hK;have hy:=_Y _ hR;go_simp;refine hK _ ?_;clear hK K hR hy W1;try walk_nrm) | (refine Vd (A8 _ _ _) rfl ?_ ?_;(focus (rfl;done));try walk_nrm) | (refine VX (z:=.tuple #[]) rfl A0 ?_ ?_ ?_;(focus (intro _;simp[execOp,scase,Act.eval];done));(focus (intro _;simp[execOp];done));try walk_nrm) | (refine LS (A8 _ _ _) (t:=true) ?_ ?_;(focus (simp[Act.eval, *];done));simp only[if_true,reduceIte]) | (refine LS (A8 _ _ _) (t:=false) ?_ ?_;(focus (simp[Act.eval, *];done));simp only[DR,C5,reduceIte]) | ((first | refine Jl (A8 _ _ _) ?_ | refine Qv (A8 _ _ _) ?_ | refine U2 (A8 _ _ _) ?_ | refine Qu (A8 _ _ _) ?_ | refine Yq (A8 _ _ _) ?_ | refine U3 (A8 _ _ _) ?_ | refine O9 (A8 _ _ _) ?_);try (simp only[U4,Ko,if_true,C5,reduceIte,Nat.reduceEqDiff]))));exact hZ.out)):G:=f ⟨k⟩
section
variable {K : World -> Prop}{b : Nat}{v0 v1 v2 v3 v4 v5 : Value}
def cs2 (h:∀W,K W->∀e,W.cell? ⟨b,e,none⟩=(#[v0,v1]:Array Value)[e]?)(W:World)(k:K W):W.cell? ⟨b,0,none⟩=some v0/\W.cell? ⟨b,1,none⟩=some v1:=⟨h W k 0,h W k 1⟩
def cs3 (h:∀W,K W->∀e,W.cell? ⟨b,e,none⟩=(#[v0,v1,v2]:Array Value)[e]?)(W:World)(k:K W):W.cell? ⟨b,0,none⟩=some v0/\W.cell? ⟨b,1,none⟩=some v1/\W.cell? ⟨b,2,none⟩=some v2:=⟨h W k 0,h W k 1,h W k 2⟩
def cs4 (h:∀W,K W->∀e,W.cell? ⟨b,e,none⟩=(#[v0,v1,v2,v3]:Array Value)[e]?)(W:World)(k:K W):W.cell? ⟨b,0,none⟩=some v0/\W.cell? ⟨b,1,none⟩=some v1/\W.cell? ⟨b,2,none⟩=some v2/\W.cell? ⟨b,3,none⟩=some v3:=⟨h W k 0,h W k 1,h W k 2,h W k 3⟩
def cs6 (h:∀W,K W->∀e,W.cell? ⟨b,e,none⟩=(#[v0,v1,v2,v3,v4,v5]:Array Value)[e]?)(W:World)(k:K W):W.cell? ⟨b,0,none⟩=some v0/\W.cell? ⟨b,1,none⟩=some v1/\W.cell? ⟨b,2,none⟩=some v2/\W.cell? ⟨b,3,none⟩=some v3/\W.cell? ⟨b,4,none⟩=some v4/\W.cell? ⟨b,5,none⟩=some v5:=⟨h W k 0,h W k 1,h W k 2,h W k 3,h W k 4,h W k 5⟩
end
