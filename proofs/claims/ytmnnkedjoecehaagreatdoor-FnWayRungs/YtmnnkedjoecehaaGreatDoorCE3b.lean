import Derived.Test.YtmnnkedjoecehaaGreatDoorCD8
import Derived.Conc.CompanyMem
import Derived.Conc.TokenWalk
set_option linter.defProp false
namespace Go.Co
open Go.Conc
section
variable {P : Program}{Low : Nat}{Stop : Goroutine -> World -> Prop}
theorem tB {O:Nat->Prop}{g:Goroutine}{w:World}(D:∀b,O b->Low<=b/\b<w.heap.size)(hl:Low<=w.heap.size)(T:∀g w,Stop g w->OkG g)(h:EM P Low Stop ⟨O,[],g,w⟩):Comes P g w Stop:=by
 intro m sl t ⟨A,⟨q,C⟩,B,J⟩ _;have y:=(Array.getElem?_eq_some_iff.1 A).1;have S:PhI P Low m.size t ⟨O,[],g,w⟩ (λk b=>k=0/\O b) ((List.range m.size).map λi=>.inr (if i=0 then 0 else q i)) m w t:=by
  refine⟨y,AU,by simp[y],AU,h.inv.1,Keep.refl _ _ _, .inl A,λi hi v=>?_,λj c X seen e=>by simp at e,λb E=>⟨rfl,E⟩,λj s u=>?_,λj c X seen e=>by simp at e,λj k c r s Y Z e=>by simp at e,⟨λk l b n H=>n.1.trans H.1.symm,λk b n=>(D b n.2).1,λk b n=>(D b n.2).2⟩,hl,Tr.begin J C⟩
  ·refine⟨q i,m[i],?_,JQ v,C.old i _ hi (JQ v)⟩
   have:i≠0:=AQ
   simp[v,this]
  ·simp at u
 obtain⟨N,U,M,R,V,I,L,hF,W,u⟩:=phase w.tape h _ _ m w t sl S rfl;exact⟨N,U,M,R,V,I,L,hF,T _ _ u,W,u⟩
end
theorem J3 (O:Nat->Prop)(w:World):grown O w w=O:=by
 funext b;apply propext;constructor
 ·rintro(h | ⟨e,g⟩)
  ·exact h
  ·omega
 ·exact .inl
structure OkL {τ:Type}(P:Program)(main:Bool)(Low:Nat)(pre:τ->World->Prop)(ok:τ->(Nat->Prop)->World->Goroutine->Prop):Prop where
 rely:∀{x O w w₁ g},ok x O w g->Keep Low O w w₁->ok x O w₁ g
 own:∀{x O w g},g.status=.running->(∀w₁,Keep Low O w w₁->pre x w₁->∃g' w' es,stepG P main g w₁=.go g' w' es/\g'.status=.running/\E3 Low O w₁ w' es/\ok x (grown O w₁ w') w' g')->ok x O w g
theorem E3.none (Low:Nat)(O:Nat->Prop)(w:World):E3 Low O w w #[]:=⟨λ_ _ _=>rfl,CG _,rfl,rfl,rfl,AU⟩
section
variable {τ : Type}{P : Program}{main : Bool}{Low : Nat}{pre : τ -> World -> Prop}{ok : τ -> (Nat -> Prop) -> World -> Goroutine -> Prop}
def OkL.ctl (T:OkL P main Low pre ok){x:τ}{O:Nat->Prop}{w:World}{g g':Goroutine}(hr:g.status=.running)(k:g'.status=.running)(e:∀w₁,stepG P main g w₁=.go g' w₁ #[])(h:ok x O w g'):ok x O w g:=
 T.own hr λw₁ j _=>⟨g',w₁,#[],e w₁,k,E3.none _ _ _,by rw[J3];exact T.rely h j⟩
end
section
variable {τ : Type}(P : Program)(ok : τ -> (Nat -> Prop) -> World -> Goroutine -> Prop)
def K1 (b:Frame)(k:List Item)(cs:List Frame):Exit->Act->τ->(Nat->Prop)->World->Prop
 | .normal,a,x,O,w=>ok x O w (G (b.at a k) cs)
 | .exit id,a,x,O,w=>∃e,exitTo id k=some e/\ok x O w (G (b.at a e) cs)
 | .ret,a,x,O,w=>∀g,ok x O w (G {b.at a g with mode:=.returning} cs)
 | _,_,_,_,_=>False
abbrev Xx (τ:Type):=Exit->Act->τ->(Nat->Prop)->World->Prop
def WpK (fn:FuncId)(c:Code)(Q:Xx τ)(a:Act)(x:τ)(O:Nat->Prop)(w:World):Prop:=
 ∀(b:Frame) (k:List Item) (m:List Frame),b.fn=fn->b.kind≠.early->(∀e h g l j,Q e h g l j->K1 ok b k m e h g l j)->ok x O w (G (b.at a (.code c::k)) m)
def Vw (fn:FuncId)(ops:Array Oper)(todo:List Nat)(Q:Xx τ)(a:Act)(x:τ)(O:Nat->Prop)(w:World):Prop:=
 ∀(b:Frame) (k:List Item) (m:List Frame),b.fn=fn->b.kind≠.early->(∀e h g l j,Q e h g l j->K1 ok b k m e h g l j)->ok x O w (G (b.at a (.inRegion ops todo::k)) m)
def Xb (N:Act->τ->(Nat->Prop)->World->Prop)(Q:Xx τ):Xx τ
 | .normal=>N
 | e=>Q e
def Nv (id:Nat)(Q:Xx τ):Xx τ
 | .exit g=>if g=id then Q .normal else Q (.exit g)
 | e=>Q e
def ZD (fn:Func)(Post:Value->τ->(Nat->Prop)->World->Prop):Xx τ
 | .normal,a,x,O,w | .ret,a,x,O,w=>a.defers=[]/\∃v,ResultsC P fn a.tmps v/\Post v x O w
 | _,_,_,_,_=>False
def Nq (f:FuncId)(args:Array Value)(x:τ)(O:Nat->Prop)(w:World)(Post:Value->τ->(Nat->Prop)->World->Prop):Prop:=
 ∃fn c,P.funcs[f]?=some fn/\(fn.name== "runtime.NumGoroutine")=false/\fn.body=some c/\
  WpK ok f c (ZD P fn Post) {tmps:=args++Array.replicate (fn.ntmps - args.size) undef,defers:=[]} x O w
end
section
variable {c d:Code}{f:FuncId}{i id:Nat}{o:Oper}{ops:Array Oper}{rest:List Nat}
variable {τ : Type}{P : Program}{main : Bool}{Low : Nat}{pre : τ -> World -> Prop}{ok : τ -> (Nat -> Prop) -> World -> Goroutine -> Prop}{fn : FuncId}{Q Q' : Xx τ}{a : Act}{x : τ}{O : Nat -> Prop}{w w₁ : World}
theorem K1.push {b:Frame}{y:Item}{k:List Item}{cs:List Frame}{e:Exit}(hx:y.plain=true)(he:e≠.normal)(h:K1 ok b k cs e a x O w):K1 ok b (y::k) cs e a x O w:=by
 cases e with
 | normal=>exact absurd rfl he
 | exit id=>obtain⟨j,n,g⟩:=h;exact⟨j,by cases y<;>simp_all[exitTo,Item.plain],g⟩
 | ret=>exact h
 | goto l=>exact h
 | panic m=>exact h
 | outgrown=>exact h
theorem WpK.mono (h:WpK ok fn c Q a x O w)(s:∀e a x O w,Q e a x O w->Q' e a x O w):WpK ok fn c Q' a x O w:=
 λb k p j m r=>h b k p j m λe l g t n q=>r e l g t n (s _ _ _ _ _ q)
theorem Vw.rely (T:OkL P main Low pre ok){todo:List Nat}(h:Vw ok fn ops todo Q a x O w)(hr:Keep Low O w w₁):Vw ok fn ops todo Q a x O w₁:=
 λb k l e g j=>T.rely (h b k l e g j) hr
def W9 (T:OkL P main Low pre ok)(h:Q .normal a x O w):WpK ok fn .skip Q a x O w:=λ_b _k _cs _ _ e=>T.ctl rfl rfl (λ_=>stepG_skip) (e _ _ _ _ _ h)
def Uk (T:OkL P main Low pre ok){l:Nat}(h:Q .normal a x O w):WpK ok fn (.label l) Q a x O w:=λ_b _k _cs _ _ e=>T.ctl rfl rfl (λ_=>stepG_label) (e _ _ _ _ _ h)
def I0 (T:OkL P main Low pre ok)(h:Q .ret a x O w):WpK ok fn .ret Q a x O w:=λ_b _k _cs _ _ e=>T.ctl rfl rfl (λ_=>stepG_ret') (e _ _ _ _ _ h _)
theorem Xa (T:OkL P main Low pre ok)(h:Q (.exit id) a x O w):WpK ok fn (.exit id) Q a x O w:=λb k m _ _ j=>by
 obtain⟨l,e,g⟩:=j _ _ _ _ _ h;exact T.ctl rfl rfl (λ_=>stepG_exit e) g
theorem Lh (T:OkL P main Low pre ok)(h:WpK ok fn c (Xb (λt n u r=>WpK ok fn d Q t n u r) Q) a x O w):WpK ok fn (.seq c d) Q a x O w:=by
 intro b k m j s g;refine T.ctl rfl rfl (λ_=>stepG_seq) (h b (.code d::k) m j s λe t n u r q=>?_);cases e with
 | normal=>exact q b k m j s g
 | exit id=>exact(g _ _ _ _ _ q).push rfl AU
 | ret=>exact(g _ _ _ _ _ q).push (y:=.code d) rfl AU
 | goto l=>exact g _ _ _ _ _ q
 | panic v=>exact g _ _ _ _ _ q
 | outgrown=>exact g _ _ _ _ _ q
theorem MC (T:OkL P main Low pre ok){c:Operand}{e:Code}{t:Bool}(m:a.eval c=.bool t)(h:WpK ok fn (if t then d else e) Q a x O w):WpK ok fn (.cond c d e) Q a x O w:=
 λb k n g j l=>T.ctl rfl rfl (λ_=>stepG_cond m) (h b k n g j l)
theorem Ul (T:OkL P main Low pre ok)(h:WpK ok fn c (Nv id Q) a x O w):WpK ok fn (.block id c) Q a x O w:=by
 intro b k p m s g;refine T.ctl rfl rfl (λ_=>stepG_block) (h b (.inBlock id::k) p m s λe B v C A q=>?_);cases e with
 | normal=>exact T.ctl rfl rfl (λ_=>stepG_inBlock) (g _ _ _ _ _ q)
 | exit j=>
  by_cases AV:j=id
  ·simp only[Nv,AV,if_true] at q
   exact⟨k,by simp[exitTo,AV],g _ _ _ _ _ q⟩
  ·simp only[Nv,AV,DC] at q
   obtain⟨u,r,t⟩:=g _ _ _ _ _ q;have:(id==j)=false:=by simp;exact λh=>AV h.symm
   exact⟨u,by simp[exitTo,this,r],t⟩
 | ret=>exact λn=>g _ _ _ _ _ q n
 | goto l=>exact g _ _ _ _ _ q
 | panic y=>exact g _ _ _ _ _ q
 | outgrown=>exact g _ _ _ _ _ q
theorem Zg (T:OkL P main Low pre ok)(I:Nat->Act->τ->(Nat->Prop)->World->Prop)(N:Nat)(A:I N a x O w)
  (round:∀n a x O w,I n a x O w->WpK ok fn c (Xb (λt r u s=>∃m,m<n/\I m t r u s) Q) a x O w):WpK ok fn (.loop c) Q a x O w:=by
 intro b k j v E g;have key:∀n a x O w,I n a x O w->ok x O w (G (b.at a (.code c::.inLoop c::k)) j):=by
  intro n;induction n using Nat.strongRecOn with
  | ind n D=>
   intro a x O w H;refine round n a x O w H b (.inLoop c::k) j v E λe t r u s q=>?_
   cases e with
   | normal=>obtain⟨m,B,C⟩:=q;exact T.ctl rfl rfl (λ_=>stepG_inLoop) (D m B _ _ _ _ C)
   | exit id=>exact(g _ _ _ _ _ q).push rfl AU
   | ret=>exact(g _ _ _ _ _ q).push (y:=.inLoop c) rfl AU
   | goto l=>exact g _ _ _ _ _ q
   | panic J=>exact g _ _ _ _ _ q
   | outgrown=>exact g _ _ _ _ _ q
 exact T.ctl rfl rfl (λ_=>stepG_loop) (key N _ _ _ _ A)
theorem Gh (T:OkL P main Low pre ok)(h:Vw ok fn ops (List.range ops.size) Q a x O w):WpK ok fn (.region id ops false) Q a x O w:=
 λb k l e g j=>T.ctl rfl rfl (λ_=>stepG_region) (h b k l e g j)
def Qy (T:OkL P main Low pre ok)(h:Q .normal a x O w):Vw ok fn ops [] Q a x O w:=
 λ_b _k _cs _ _ e=>T.ctl rfl rfl (λ_=>stepG_region_end) (e _ _ _ _ _ h)
theorem Xk (T:OkL P main Low pre ok)(l:ops[i]?=some o)(g:Region.wanted o (yielded ops a.tmps)=false)(h:Vw ok fn ops rest Q (a.put o.dst undef) x O w):Vw ok fn ops (i::rest) Q a x O w:=
 λb k n e j m=>T.ctl rfl rfl (λ_=>stepG_unwanted l g) (h b k n e j m)
theorem Yu (T:OkL P main Low pre ok)(s:ops[i]?=some o)(p:Region.wanted o (yielded ops a.tmps)=true)
  (h:∀w₁,Keep Low O w w₁->pre x w₁->∀K:Act->World->Prop,(∀m e,E3 Low O w₁ e (listed P fn a o w₁)/\Vw ok fn ops rest Q m x (grown O w₁ e) e->K m e)->uponK o a K ((execOp a.eval o).run P w₁)):Vw ok fn ops (i::rest) Q a x O w:=by
 intro b k n j l r;refine T.own rfl λw₁ t u=>?_
 have:=h w₁ t u (λm e=>E3 Low O w₁ e (listed P fn a o w₁)/\Vw ok fn ops rest Q m x (grown O w₁ e) e) λ_ _ z=>z
 revert this
 cases q:(execOp a.eval o).run P w₁ with
 | ok y e=>
  cases y with
  | value v=>rintro⟨d,g⟩;exact⟨_,_,_,stepG_value s p l q,rfl,by rw[j];exact d,g b k n j l r⟩
  | skip=>rintro⟨d,g⟩;exact⟨_,_,_,stepG_none s p l q,rfl,by rw[j];exact d,g b k n j l r⟩
  | _=>exact λz=>z.elim
 | halt _ _=>exact λz=>z.elim
theorem Ay1 (T:OkL P main Low pre ok){args:Array Operand}{J:Array TypeId}{Post:Value->τ->(Nat->Prop)->World->Prop}
  (B:ops[i]?=some o) (M:Region.wanted o (yielded ops a.tmps)=true) (I:o.op=.call {callee:=.value (.func f),args,argTypes:=J})
  (V:Nq P ok f (args.map a.eval) x O w Post) (W:∀v j m g,Post v j m g->Vw ok fn ops rest Q (a.put o.dst v) j m g):Vw ok fn ops (i::rest) Q a x O w:=by
 intro b k cs C t R;obtain⟨F,c,A,E,X,D⟩:=V;have S:∀v,(b.at a (.inRegion ops (i::rest)::k)).finish v=b.at (a.put o.dst v) (.inRegion ops rest::k):=λv=>by rw[Frame.finish_at,B];rfl
 have u:∀(n:Act) (j:τ) (m:Nat->Prop) (g:World) (r:List Item),(n.defers=[]/\∃v,ResultsC P F n.tmps v/\Post v j m g)->
   ok j m g (G {(base f).at n r with mode:=.returning} (b.at a (.inRegion ops (i::rest)::k)::cs)):=by
  rintro n j m g r ⟨hd,v,s,U⟩;refine T.ctl rfl (g':=G (b.at (a.put o.dst v) (.inRegion ops rest::k)) cs) rfl (λw₁=>?_) (W v j m g U b k cs C t R);rw[stepG_leave (b:=base f) rfl hd A (s w₁).1 (s w₁).2,S]
 have N:ok x O w (G ((base f).at {tmps:=args.map a.eval++Array.replicate (F.ntmps - (args.map a.eval).size) undef,defers:=[]} [.code c]) (b.at a (.inRegion ops (i::rest)::k)::cs)):=by
  refine D (base f) [] _ rfl B5 λe n j m g q=>?_
  cases e with
  | normal=>exact T.ctl rfl rfl (λ_=>stepG_end) (u n j m g [] q)
  | ret=>exact λr=>u n j m g r q
  | exit id=>exact q.elim
  | goto l=>exact q.elim
  | panic Y=>exact q.elim
  | outgrown=>exact q.elim
 refine T.ctl rfl (g':=G ((base f).at {tmps:=args.map a.eval++Array.replicate (F.ntmps - (args.map a.eval).size) undef,defers:=[]} [.code c]) (b.at a (.inRegion ops (i::rest)::k)::cs)) rfl (λw₁=>?_) N;obtain⟨g',g,y,H,L⟩:=goes_elim (goes_call (P:=P) (main:=main) (w:=w₁) (cs:=cs) (k:=k) (rest:=rest) (K:=λg' g y=>g'=G ((base f).at {tmps:=args.map a.eval++Array.replicate (F.ntmps - (args.map a.eval).size) undef,defers:=[]} [.code c]) (b.at a (.inRegion ops (i::rest)::k)::cs)/\g=w₁/\y=#[]) B M t I A E X ⟨rfl,rfl,rfl⟩);obtain⟨rfl,rfl,rfl⟩:=L;exact H
theorem Nq.mono {args:Array Value}{Post g:Value->τ->(Nat->Prop)->World->Prop}(h:Nq P ok f args x O w Post)(m:∀v x O w,Post v x O w->g v x O w):Nq P ok f args x O w g:=by
 obtain⟨F,c,n,j,k,l⟩:=h;refine⟨F,c,n,j,k,l.mono λe a x O w q=>?_⟩;cases e<;>first | exact⟨q.1,q.2.choose,q.2.choose_spec.1,m _ _ _ _ q.2.choose_spec.2⟩ | exact q
end
section
variable {P : Program}{Low : Nat}
def okS (P:Program)(Low c:Nat):List Value->(Nat->Prop)->World->Goroutine->Prop:=λvs O w g=>D4 P Low ⟨c,O,vs,g,w⟩
theorem Ba (P:Program)(Low c:Nat):OkL P false Low (λ_ w=>EU c w) (okS P Low c):=by
 refine⟨fun {x O w w₁ g} h l=>?_,fun {x O w g} n h=>?_⟩
 ·have hi:=D4.inv h
  refine D4.mk ⟨hi.1,?_⟩;rcases hi.2 with h | ⟨v,p,e,h⟩ | ⟨q,m,h⟩
  ·exact .inl λj k o=>h j (l.trans k) o
  ·exact .inr (.inl ⟨v,p,e,λj k o=>h j (l.trans k) o⟩)
  ·exact .inr (.inr ⟨q,m,λj s r k o=>h j s r (l.trans k) o⟩)
 ·exact D4.mk ⟨n, .inl λw₁ k o=>h w₁ k o⟩
def okR (P:Program)(Low:Nat)(Stop:Goroutine->World->Prop):List (Nat × List Value × Bool)->(Nat->Prop)->World->Goroutine->Prop:=λL O w g=>EM P Low Stop ⟨O,L,g,w⟩
theorem Be (P:Program)(Low:Nat)(Stop:Goroutine->World->Prop):OkL P true Low (λ_ _=>True) (okR P Low Stop):=by
 refine⟨fun {x O w w₁ g} h l=>?_,fun {x O w g} n h=>?_⟩
 ·have hi:=EM.inv h
  refine EM.mk ⟨hi.1,?_⟩;rcases hi.2 with⟨m,h⟩ | h | ⟨c,p,h⟩ | ⟨j,c,vs,z,q,h⟩
  ·exact .inl ⟨m,λe k=>h e (l.trans k)⟩
  ·exact .inr (.inl λe k=>h e (l.trans k))
  ·exact .inr (.inr (.inl ⟨c,p,λe k=>h e (l.trans k)⟩))
  ·exact .inr (.inr (.inr ⟨j,c,vs,z,q,λe k=>h e (l.trans k)⟩))
 ·exact EM.mk ⟨n, .inr (.inl λw₁ k=>h w₁ k trivial)⟩
section
variable {F:Func}{args:Array Value}{cd:Code}{f:FuncId}{vs:List Value}{z:Value}
variable {fn : FuncId}{a : Act}{O : Nat -> Prop}{w : World}{c : Nat}{ops : Array Oper}{i : Nat}{rest : List Nat}{o : Oper}
theorem YR {Q:Xx (List Value)}{v:Value}(l:ops[i]?=some o)(p:Region.wanted o (yielded ops a.tmps)=true)(hr:∀w₁:World,(execOp a.eval o).run P w₁=.ok (.comm #[scase c v z] true .send) w₁)
  (he:∀w₁:World,(execOp a.eval o).events P w₁ #[]=#[]) (h:Vw (okS P Low c) fn ops rest Q (a.put o.dst undef) vs O w):Vw (okS P Low c) fn ops (i::rest) Q a (v::vs) O w:=by
 intro b k g m j q;refine D4.mk ⟨rfl, .inr (.inl ⟨v,vs,rfl,λw₁ r _=>⟨⟨z,?_⟩,?_⟩⟩)⟩
 ·show stepG P false (G (b.at a (.inRegion ops (i::rest)::k)) g) w₁=_
  rw[stepG_comm l p j (hr w₁)];unfold listed;rw[he,seen_none]
 ·have n:(b.at a (.inRegion ops (i::rest)::k)).finish undef=b.at (a.put o.dst undef) (.inRegion ops rest::k):=by rw[Frame.finish_at,l];rfl
  have e:Conc.served (G (b.at a (.inRegion ops (i::rest)::k)) g) undef=G (b.at (a.put o.dst undef) (.inRegion ops rest::k)) g:=by rw[<-n];rfl
  show D4 P Low ⟨c,O,vs,Conc.served (G (b.at a (.inRegion ops (i::rest)::k)) g) undef,w₁⟩
  rw[e];exact(Ba P Low c).rely (h b k g m j q) r
theorem Ay2 {b:Frame}{k:List Item}{cs:List Frame}{y:Operand}{m:Array TypeId}{n:Nat}(u:ops[i]?=some o)(p:Region.wanted o (yielded ops a.tmps)=true)(t:b.kind≠.early)
  (j:o.op=.call {callee:=.builtin .close,args:=#[y],argTypes:=m}) (q:a.eval y=.chan (some c)) (e:(P.funcs[b.fn]?).any (·.norace)=false) (l:mayWake P (G (b.at a (.inRegion ops (i::rest)::k)) cs)=true)
  (h:QuitsIn P n (G (b.at (a.put o.dst (.tuple #[])) (.inRegion ops rest::k)) cs)):okS P Low c [] O w (G (b.at a (.inRegion ops (i::rest)::k)) cs):=by
 refine D4.mk ⟨rfl, .inr (.inr ⟨rfl,l,λw₁ s r _ g=>⟨_,n,?_,rfl,h⟩⟩)⟩;exact stepG_close u p t j q g e
def IE (P:Program):Frame:={(default:Frame) with fn:=P.funcs.size,defers:=[],mode:=.panicking [goexitEntry]}
def vr (j:P.funcs[f]?=some F)(h:(F.name== "runtime.NumGoroutine")=false)(g:F.body=some cd)(w:World):
  stepG P false (born P (dcall f args)) w=.go (G ((baseD f).at {tmps:=args++Array.replicate (F.ntmps - args.size) undef,defers:=[]} [.code cd]) [IE P]) w #[]:=by
 have e:¬F.name= "runtime.NumGoroutine" :=by simpa using h
 simp[born,dcall,stepG,unwind,callDeferred,invoke,callFunc,j,e,g,seen,GStep.after,G,Frame.enter,Frame.at,baseD,IE]
theorem Aym {a:Act}{ops:Array Oper}(e:P.funcs[f]?=some F)(hr:F.results=#[])(hd:a.defers=[]):QuitsIn P 4 (G ((baseD f).at a [.inRegion ops []]) [IE P]):=by
 refine .inr ⟨rfl,_,λw=>stepG_region_end,?_⟩;refine .inr ⟨rfl,_,λw=>stepG_end,?_⟩;refine .inr ⟨rfl,G (IE P) [],λw=>?_,?_⟩
 ·simp[G,stepG,unwind,doReturn,results,Frame.at,baseD,IE,e,hr,hd,seen,GStep.after,goexitEntry]
 refine .inr ⟨rfl,{G (IE P) [] with status:=.finished},λw=>?_,rfl⟩;simp[G,stepG,unwind,IE,goexitEntry,Frame.catches];rfl
def iR (j:P.funcs[f]?=some F)(g:(F.name== "runtime.NumGoroutine")=false)(e:F.body=some cd)
  (h:okS P Low c vs O w (G ((baseD f).at {tmps:=args++Array.replicate (F.ntmps - args.size) undef,defers:=[]} [.code cd]) [IE P])):okS P Low c vs O w (born P (dcall f args)):=
 (Ba P Low c).ctl rfl rfl (vr j g e) h
theorem YS {Stop:Goroutine->World->Prop}{Q:Xx (List (Nat × List Value × Bool))}{L:List (Nat × List Value × Bool)}{j:Nat}(r:ops[i]?=some o)(y:Region.wanted o (yielded ops a.tmps)=true)
  (t:L[j]?=some (c,vs,false)) (hr:∀w₁:World,(execOp a.eval o).run P w₁=.ok (.comm #[rcase c z] true (.recv true)) w₁) (he:∀w₁:World,(execOp a.eval o).events P w₁ #[]=#[])
  (h1:∀v h,vs=v::h->Vw (okR P Low Stop) fn ops rest Q (a.put o.dst (.tuple #[v, .bool true])) (L.set j (c,h,false)) O w)
  (s:vs=[]->Vw (okR P Low Stop) fn ops rest Q (a.put o.dst (.tuple #[z, .bool false])) (L.set j (c,[],true)) O w):Vw (okR P Low Stop) fn ops (i::rest) Q a L O w:=by
 intro b k g n m p;have u:∀v,(b.at a (.inRegion ops (i::rest)::k)).finish v=b.at (a.put o.dst v) (.inRegion ops rest::k):=λv=>by rw[Frame.finish_at,r];rfl
 have e:∀v,Conc.served (G (b.at a (.inRegion ops (i::rest)::k)) g) v=G (b.at (a.put o.dst v) (.inRegion ops rest::k)) g:=λv=>by rw[<-u];rfl
 refine EM.mk ⟨rfl, .inr (.inr (.inr ⟨j,c,vs,z,t,λw₁ q=>⟨?_,λv h l=>?_,λl=>?_⟩⟩))⟩
 ·show stepG P true (G (b.at a (.inRegion ops (i::rest)::k)) g) w₁=_
  rw[stepG_comm r y m (hr w₁)];unfold listed;rw[he,seen_none]
 ·show EM P Low Stop ⟨O,_,Conc.served (G (b.at a (.inRegion ops (i::rest)::k)) g) (.tuple #[v, .bool true]),w₁⟩
  rw[e];exact(Be P Low Stop).rely (h1 v h l b k g n m p) q
 ·show EM P Low Stop ⟨O,_,Conc.served (G (b.at a (.inRegion ops (i::rest)::k)) g) (.tuple #[z, .bool false]),w₁⟩
  rw[e];exact(Be P Low Stop).rely (s l b k g n m p) q
theorem kq {Stop:Goroutine->World->Prop}{Q:Xx (List (Nat × List Value × Bool))}{L:List (Nat × List Value × Bool)}(y:ops[i]?=some o)(u:Region.wanted o (yielded ops a.tmps)=true)
  (hr:∀w₁:World,(execOp a.eval o).run P w₁=.ok (.spawn (dcall f args)) w₁) (he:∀w₁:World,(execOp a.eval o).events P w₁ #[]=#[]) (m:O c) (t:EU c w)
  (p:okS P Low c vs (λ_=>False) w (born P (dcall f args))) (h:Vw (okR P Low Stop) fn ops rest Q (a.put o.dst undef) (L++[(c,vs,false)]) (λb=>O b/\b≠c) w):Vw (okR P Low Stop) fn ops (i::rest) Q a L O w:=by
 intro b k j q n v;refine EM.mk ⟨rfl, .inr (.inr (.inl ⟨c,m,λw₁ l=>⟨G (b.at (a.put o.dst undef) (.inRegion ops rest::k)) j,born P (dcall f args),vs,?_,rfl,rfl,?_,?_,?_⟩⟩))⟩
 ·show stepG P true (G (b.at a (.inRegion ops (i::rest)::k)) j) w₁=_
  rw[stepG_spawn y u n (hr w₁) rfl];unfold listed;rw[he,seen_none]
 ·obtain⟨s,r,e⟩:=t
  exact⟨s,r,(l.mine c m).trans e⟩
 ·exact(Ba P Low c).rely p (l.sub λ_ g=>g.elim)
 ·exact(Be P Low Stop).rely (h b k j q n v) (l.sub λ_ g=>g.1)
theorem iS {Stop:Goroutine->World->Prop}{L:List (Nat × List Value × Bool)}{g:Goroutine}(hr:g.status=.running)(j:∀e∈L,e.2.2=true)(h:∀w₁,Keep Low O w w₁->Stop g w₁):okR P Low Stop L O w g:=
 EM.mk ⟨hr, .inl ⟨j,h⟩⟩
end
end
section
variable {τ : Type}{P : Program}{main : Bool}{Low : Nat}{pre : τ -> World -> Prop}{ok : τ -> (Nat -> Prop) -> World -> Goroutine -> Prop}{fn : FuncId}{Q : Xx τ}{a : Act}{x : τ}{O : Nat -> Prop}{w : World}
variable {ops : Array Oper}{i : Nat}{rest : List Nat}{o : Oper}
theorem OB (T:OkL P main Low pre ok)(n:ops[i]?=some o)(m:Region.wanted o (yielded ops a.tmps)=true)
  (he:∀w₁,Keep Low O w w₁->∀e∈(execOp a.eval o).events P w₁ #[],EvO Low O e)
  (h:∀w₁,Keep Low O w w₁->∀K:Act->World->Prop,(∀g,Vw ok fn ops rest Q g x O w->K g w₁)->uponK o a K ((execOp a.eval o).run P w₁)):Vw ok fn ops (i::rest) Q a x O w:=by
 refine Yu T n m λw₁ j _ K p=>?_
 have:=h w₁ j (λg k=>k=w₁/\Vw ok fn ops rest Q g x O w) λg h=>⟨rfl,h⟩
 refine uponK_mono (λg k h=>?_) this;obtain⟨rfl,h⟩:=h;refine p _ _ ⟨⟨λ_ _ _=>rfl,CG _,rfl,rfl,rfl,λe l=>?_⟩,?_⟩
 ·rw[J3];exact .inl (he _ j e (mem_listed l))
 ·rw[J3];exact h.rely T j
def Qg (T:OkL P main Low pre ok)(j:ops[i]?=some o)(g:Region.wanted o (yielded ops a.tmps)=true)(he:∀w₁:World,(execOp a.eval o).events P w₁ #[]=#[])
  (h:∀(w₁:World) (K:Act->World->Prop),(∀e,Vw ok fn ops rest Q e x O w->K e w₁)->uponK o a K ((execOp a.eval o).run P w₁)):Vw ok fn ops (i::rest) Q a x O w:=
 OB T j g (λw₁ _=>by rw[he];simp) λw₁ _=>h w₁
theorem Og (T:OkL P main Low pre ok)(s:ops[i]?=some o)(q:Region.wanted o (yielded ops a.tmps)=true)(he:∀w₁:World,(execOp a.eval o).events P w₁ #[]=#[])
  (h:∀w₁,Keep Low O w w₁->∀K:Act->World->Prop,(∀j g,Vw ok fn ops rest Q j x (λb=>O b\/b=w₁.heap.size) (w₁.alloc g)->K j (w₁.alloc g))->uponK o a K ((execOp a.eval o).run P w₁)):Vw ok fn ops (i::rest) Q a x O w:=by
 refine Yu T s q λw₁ r _ K m=>?_
 have:=h w₁ r (λj k=>∃g,k=w₁.alloc g/\Vw ok fn ops rest Q j x (λb=>O b\/b=w₁.heap.size) k) λj g h=>⟨g,rfl,h⟩
 refine uponK_mono (λj k h=>?_) this;obtain⟨g,rfl,h⟩:=h;refine m _ _ ⟨⟨λb l _=>?_,by simp only[World.alloc,K8];omega,rfl,rfl,rfl,λe n=>?_⟩,?_⟩
 ·simp only[World.alloc]
  rw[RS l,JQ l]
 ·have:=mem_listed n
  rw[he] at this;simp at this
 ·have e:grown O w₁ (w₁.alloc g)=λb=>O b\/b=w₁.heap.size:=by
   funext b;apply propext;simp only[grown,World.alloc,K8];constructor
   ·rintro(h | h)
    ·exact .inl h
    ·exact .inr AQ
   ·rintro(h | h)
    ·exact .inl h
    ·exact .inr AQ
  rw[e];exact h
end
section
variable {Low : Nat}{w₀ : World}{bs : List (Nat × Obj)}{O : Nat -> Prop}{w w₁ : World}
end
variable {G G':Prop}
structure Wr (p:Prop):Prop where
 out:p
theorem kW (k:G')(f:Wr G'->G:=by(intro hZ;(repeat (first | (refine Gh (Ba _ _ _) ?_;simp only[Cd,CH,CP,Nat.reduceAdd,CV,List.range,List.range.loop]) | (refine Qg (Ba _ _ _) rfl Ab ?_ ?_;(focus (intro _;first | (simp[go_sem];done) | (simp[go_sem, *];done)));intro _ K hK;go_simp;refine hK _ ?_;clear hK K;try walk_nrm) | (refine OB (Ba _ _ _) rfl Ab ?_ ?_;(focus (intro W1 hR e he;have hy:=_Y _ hR;simp[go_sem, *] at he;(first | (subst he;(first | (refine⟨_,_,rfl, .inl ?_⟩;assumption) | (refine⟨_,_,rfl, .inr ⟨?_,rfl⟩⟩;assumption) | exact⟨_,_,rfl,_B.imp id (λh=>⟨h,rfl⟩)⟩)) | (rcases he with rfl | rfl<;>(first | (refine⟨_,_,rfl, .inl ?_⟩;assumption) | (refine⟨_,_,rfl, .inr ⟨?_,rfl⟩⟩;assumption) | exact⟨_,_,rfl,_B.imp id (λh=>⟨h,rfl⟩)⟩)) | (rcases he with rfl | rfl | rfl | rfl<;>(first | (refine⟨_,_,rfl, .inl ?_⟩;assumption) | (refine⟨_,_,rfl, .inr ⟨?_,rfl⟩⟩;assumption) | exact⟨_,_,rfl,_B.imp id (λh=>⟨h,rfl⟩)⟩)) | (rcases he with rfl | rfl | rfl | rfl | rfl | rfl<;>(first | (refine⟨_,_,rfl, .inl ?_⟩;assumption) | (refine⟨_,_,rfl, .inr ⟨?_,rfl⟩⟩;assumption) | exact⟨_,_,rfl,_B.imp id (λh=>⟨h,rfl⟩)⟩)));done));intro W1 hR K hK;have hy:=_Y _ hR;go_simp;refine hK _ ?_;clear hK K hR hy W1;try walk_nrm) | (refine Xk (Ba _ _ _) rfl ?_ ?_;(focus (rfl;done));try walk_nrm) | (refine YR (z:=.tuple #[]) rfl Ab ?_ ?_ ?_;(focus (intro _;simp[execOp,scase,Act.eval];done));(focus (intro _;simp[execOp];done));try walk_nrm) | (refine MC (Ba _ _ _) (t:=true) ?_ ?_;(focus (simp[Act.eval, *];done));simp only[if_true,reduceIte]) | (refine MC (Ba _ _ _) (t:=false) ?_ ?_;(focus (simp[Act.eval, *];done));simp only[DU,DC,reduceIte]) | ((first | refine Lh (Ba _ _ _) ?_ | refine Ul (Ba _ _ _) ?_ | refine W9 (Ba _ _ _) ?_ | refine Uk (Ba _ _ _) ?_ | refine I0 (Ba _ _ _) ?_ | refine Xa (Ba _ _ _) ?_ | refine Qy (Ba _ _ _) ?_);try (simp only[Xb,Nv,if_true,DC,reduceIte,Nat.reduceEqDiff]))));exact hZ.out)):G:=f ⟨k⟩
theorem kV (k:G')(f:Wr G'->G:=by(intro hZ;(repeat (first | (refine Gh (Be _ _ _) ?_;simp only[Cd,CH,CP,Nat.reduceAdd,CV,List.range,List.range.loop]) | (refine Qg (Be _ _ _) rfl Ab ?_ ?_;(focus (intro _;first | (simp[go_sem];done) | (simp[go_sem, *];done)));intro _ K hK;go_simp;refine hK _ ?_;clear hK K;try walk_nrm) | (refine OB (Be _ _ _) rfl Ab ?_ ?_;(focus (intro W1 hR e he;have hy:=_Y _ hR;simp[go_sem, *] at he;(first | (subst he;(first | (refine⟨_,_,rfl, .inl ?_⟩;assumption) | (refine⟨_,_,rfl, .inr ⟨?_,rfl⟩⟩;assumption) | exact⟨_,_,rfl,_B.imp id (λh=>⟨h,rfl⟩)⟩)) | (rcases he with rfl | rfl<;>(first | (refine⟨_,_,rfl, .inl ?_⟩;assumption) | (refine⟨_,_,rfl, .inr ⟨?_,rfl⟩⟩;assumption) | exact⟨_,_,rfl,_B.imp id (λh=>⟨h,rfl⟩)⟩)) | (rcases he with rfl | rfl | rfl | rfl<;>(first | (refine⟨_,_,rfl, .inl ?_⟩;assumption) | (refine⟨_,_,rfl, .inr ⟨?_,rfl⟩⟩;assumption) | exact⟨_,_,rfl,_B.imp id (λh=>⟨h,rfl⟩)⟩)) | (rcases he with rfl | rfl | rfl | rfl | rfl | rfl<;>(first | (refine⟨_,_,rfl, .inl ?_⟩;assumption) | (refine⟨_,_,rfl, .inr ⟨?_,rfl⟩⟩;assumption) | exact⟨_,_,rfl,_B.imp id (λh=>⟨h,rfl⟩)⟩)));done));intro W1 hR K hK;have hy:=_Y _ hR;go_simp;refine hK _ ?_;clear hK K hR hy W1;try walk_nrm) | (refine Xk (Be _ _ _) rfl ?_ ?_;(focus (rfl;done));try walk_nrm) | (refine YR (z:=.tuple #[]) rfl Ab ?_ ?_ ?_;(focus (intro _;simp[execOp,scase,Act.eval];done));(focus (intro _;simp[execOp];done));try walk_nrm) | (refine MC (Be _ _ _) (t:=true) ?_ ?_;(focus (simp[Act.eval, *];done));simp only[if_true,reduceIte]) | (refine MC (Be _ _ _) (t:=false) ?_ ?_;(focus (simp[Act.eval, *];done));simp only[DU,DC,reduceIte]) | ((first | refine Lh (Be _ _ _) ?_ | refine Ul (Be _ _ _) ?_ | refine W9 (Be _ _ _) ?_ | refine Uk (Be _ _ _) ?_ | refine I0 (Be _ _ _) ?_ | refine Xa (Be _ _ _) ?_ | refine Qy (Be _ _ _) ?_);try (simp only[Xb,Nv,if_true,DC,reduceIte,Nat.reduceEqDiff]))));exact hZ.out)):G:=f ⟨k⟩
section
variable {K : World -> Prop}{b : Nat}{v0 v1 v2 v3 v4 v5 : Value}
def cs2 (h:∀W,K W->∀e,W.cell? (AK b e)=(#[v0,v1]:Array Value)[e]?)(W:World)(k:K W):W.cell? (AK b 0)=some v0/\W.cell? (AK b 1)=some v1:=⟨h W k 0,h W k 1⟩
def cs3 (h:∀W,K W->∀e,W.cell? (AK b e)=(#[v0,v1,v2]:Array Value)[e]?)(W:World)(k:K W):W.cell? (AK b 0)=some v0/\W.cell? (AK b 1)=some v1/\W.cell? (AK b 2)=some v2:=⟨h W k 0,h W k 1,h W k 2⟩
def cs4 (h:∀W,K W->∀e,W.cell? (AK b e)=(#[v0,v1,v2,v3]:Array Value)[e]?)(W:World)(k:K W):W.cell? (AK b 0)=some v0/\W.cell? (AK b 1)=some v1/\W.cell? (AK b 2)=some v2/\W.cell? (AK b 3)=some v3:=⟨h W k 0,h W k 1,h W k 2,h W k 3⟩
def cs6 (h:∀W,K W->∀e,W.cell? (AK b e)=(#[v0,v1,v2,v3,v4,v5]:Array Value)[e]?)(W:World)(k:K W):W.cell? (AK b 0)=some v0/\W.cell? (AK b 1)=some v1/\W.cell? (AK b 2)=some v2/\W.cell? (AK b 3)=some v3/\W.cell? (AK b 4)=some v4/\W.cell? (AK b 5)=some v5:=⟨h W k 0,h W k 1,h W k 2,h W k 3,h W k 4,h W k 5⟩
end
