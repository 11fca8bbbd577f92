import Derived.Test.YtifcnfeppdbjdaaGreatDoorCD8
import Derived.Conc.CompanyMem
import Derived.Conc.TokenWalk
namespace Go.Co
open Go.Conc
section
variable {P : Program}{Low : Nat}{Stop : Goroutine -> World -> Prop}
theorem sR {O:Nat->Prop}{g:Goroutine}{w:World}(D:∀b,O b->Low<=b/\b<w.heap.size)(hl:Low<=w.heap.size)(R:∀g w,Stop g w->OkG g)(h:EK P Low Stop ⟨O,[],g,w⟩):Comes P g w Stop:=by
 intro e sl t ⟨y,⟨q,C⟩,B,L⟩ _;have A:=(Array.getElem?_eq_some_iff.1 y).1;have J:PhI P Low e.size t ⟨O,[],g,w⟩ (λk b=>k=0/\O b) ((List.range e.size).map λi=>.inr (if i=0 then 0 else q i)) e w t:=by
  refine⟨A,AU,by simp[A],AU,h.inv.1,Keep.refl _ _ _, .inl y,λi hi v=>?_,λj c S seen m=>by simp at m,λb V=>⟨rfl,V⟩,λj s u=>?_,λj c S seen m=>by simp at m,λj k c r s Y Z m=>by simp at m,⟨λk l b n W=>n.1.trans W.1.symm,λk b n=>(D b n.2).1,λk b n=>(D b n.2).2⟩,hl,Tr.begin L C⟩
  ·refine⟨q i,e[i],?_,JI v,C.old i _ hi (JI v)⟩
   have:i≠0:=AQ
   simp[v,this]
  ·simp at u
 obtain⟨N,H,T,X,M,U,I,hF,E,u⟩:=phase w.tape h _ _ e w t sl J rfl;exact⟨N,H,T,X,M,U,I,hF,R _ _ u,E,u⟩
end
theorem J4 (O:Nat->Prop)(w:World):grown O w w=O:=by
 funext b;apply propext;constructor
 ·rintro(h | ⟨g,e⟩)
  ·exact h
  ·omega
 ·exact .inl
structure OkL {τ:Type}(P:Program)(main:Bool)(Low:Nat)(pre:τ->World->Prop)(ok:τ->(Nat->Prop)->World->Goroutine->Prop):Prop where
 rely:∀{x O w w₁ g},ok x O w g->Keep Low O w w₁->ok x O w₁ g
 own:∀{x O w g},g.status=.running->(∀w₁,Keep Low O w w₁->pre x w₁->∃g' w' es,stepG P main g w₁=.go g' w' es/\g'.status=.running/\EY Low O w₁ w' es/\ok x (grown O w₁ w') w' g')->ok x O w g
theorem EY.none (Low:Nat)(O:Nat->Prop)(w:World):EY Low O w w #[]:=⟨λ_ _ _=>rfl,CG _,rfl,rfl,rfl,AU⟩
section
variable {τ : Type}{P : Program}{main : Bool}{Low : Nat}{pre : τ -> World -> Prop}{ok : τ -> (Nat -> Prop) -> World -> Goroutine -> Prop}
theorem OkL.ctl (T:OkL P main Low pre ok){x:τ}{O:Nat->Prop}{w:World}{g g':Goroutine}(hr:g.status=.running)(j:g'.status=.running)(k:∀w₁,stepG P main g w₁=.go g' w₁ #[])(h:ok x O w g'):ok x O w g:=
 T.own hr λw₁ e _=>⟨g',w₁,#[],k w₁,j,EY.none _ _ _,by rw[J4];exact T.rely h e⟩
end
section
variable {τ : Type}(P : Program)(ok : τ -> (Nat -> Prop) -> World -> Goroutine -> Prop)
def KY (b:Frame)(k:List Item)(cs:List Frame):Exit->Act->τ->(Nat->Prop)->World->Prop
 | .normal,a,x,O,w=>ok x O w (G (b.at a k) cs)
 | .exit id,a,x,O,w=>∃e,exitTo id k=some e/\ok x O w (G (b.at a e) cs)
 | .ret,a,x,O,w=>∀g,ok x O w (G {b.at a g with mode:=.returning} cs)
 | _,_,_,_,_=>False
abbrev Xi (τ:Type):=Exit->Act->τ->(Nat->Prop)->World->Prop
def WpK (fn:FuncId)(c:Code)(Q:Xi τ)(a:Act)(x:τ)(O:Nat->Prop)(w:World):Prop:=
 ∀(b:Frame) (k:List Item) (l:List Frame),b.fn=fn->b.kind≠.early->(∀e g j h m,Q e g j h m->KY ok b k l e g j h m)->ok x O w (G (b.at a (.code c::k)) l)
def Vh (fn:FuncId)(ops:Array Oper)(todo:List Nat)(Q:Xi τ)(a:Act)(x:τ)(O:Nat->Prop)(w:World):Prop:=
 ∀(b:Frame) (k:List Item) (l:List Frame),b.fn=fn->b.kind≠.early->(∀e g j h m,Q e g j h m->KY ok b k l e g j h m)->ok x O w (G (b.at a (.inRegion ops todo::k)) l)
def Wh (N:Act->τ->(Nat->Prop)->World->Prop)(Q:Xi τ):Xi τ
 | .normal=>N
 | e=>Q e
def Np (id:Nat)(Q:Xi τ):Xi τ
 | .exit g=>if g=id then Q .normal else Q (.exit g)
 | e=>Q e
def YR (fn:Func)(Post:Value->τ->(Nat->Prop)->World->Prop):Xi τ
 | .normal,a,x,O,w | .ret,a,x,O,w=>a.defers=[]/\∃v,ResultsC P fn a.tmps v/\Post v x O w
 | _,_,_,_,_=>False
def Nj (f:FuncId)(args:Array Value)(x:τ)(O:Nat->Prop)(w:World)(Post:Value->τ->(Nat->Prop)->World->Prop):Prop:=
 ∃fn c,P.funcs[f]?=some fn/\(fn.name== "runtime.NumGoroutine")=false/\fn.body=some c/\
  WpK ok f c (YR P fn Post) {tmps:=args++Array.replicate (fn.ntmps - args.size) undef,defers:=[]} x O w
end
section
variable {c d:Code}{f:FuncId}{i id:Nat}{o:Oper}{ops:Array Oper}{rest:List Nat}
variable {τ : Type}{P : Program}{main : Bool}{Low : Nat}{pre : τ -> World -> Prop}{ok : τ -> (Nat -> Prop) -> World -> Goroutine -> Prop}{fn : FuncId}{Q Q' : Xi τ}{a : Act}{x : τ}{O : Nat -> Prop}{w w₁ : World}
theorem KY.push {b:Frame}{y:Item}{k:List Item}{cs:List Frame}{e:Exit}(hx:y.plain=true)(j:e≠.normal)(h:KY ok b k cs e a x O w):KY ok b (y::k) cs e a x O w:=by
 cases e with
 | normal=>exact absurd rfl j
 | exit id=>obtain⟨m,n,g⟩:=h;exact⟨m,by cases y<;>simp_all[exitTo,Item.plain],g⟩
 | ret=>exact h
 | goto l=>exact h
 | panic p=>exact h
 | outgrown=>exact h
theorem WpK.mono (h:WpK ok fn c Q a x O w)(s:∀e a x O w,Q e a x O w->Q' e a x O w):WpK ok fn c Q' a x O w:=
 λb k r j g n=>h b k r j g λe l p m t q=>n e l p m t (s _ _ _ _ _ q)
theorem Vh.rely (T:OkL P main Low pre ok){todo:List Nat}(h:Vh ok fn ops todo Q a x O w)(hr:Keep Low O w w₁):Vh ok fn ops todo Q a x O w₁:=
 λb k l g e j=>T.rely (h b k l g e j) hr
theorem V9 (T:OkL P main Low pre ok)(h:Q .normal a x O w):WpK ok fn .skip Q a x O w:=λ_b _k _cs _ _ e=>T.ctl rfl rfl (λ_=>stepG_skip) (e _ _ _ _ _ h)
theorem Ua (T:OkL P main Low pre ok){l:Nat}(h:Q .normal a x O w):WpK ok fn (.label l) Q a x O w:=λ_b _k _cs _ _ e=>T.ctl rfl rfl (λ_=>stepG_label) (e _ _ _ _ _ h)
theorem IW (T:OkL P main Low pre ok)(h:Q .ret a x O w):WpK ok fn .ret Q a x O w:=λ_b _k _cs _ _ e=>T.ctl rfl rfl (λ_=>stepG_ret') (e _ _ _ _ _ h _)
theorem We (T:OkL P main Low pre ok)(h:Q (.exit id) a x O w):WpK ok fn (.exit id) Q a x O w:=λb k m _ _ g=>by
 obtain⟨l,e,j⟩:=g _ _ _ _ _ h;exact T.ctl rfl rfl (λ_=>stepG_exit e) j
theorem Le (T:OkL P main Low pre ok)(h:WpK ok fn c (Wh (λr n m u=>WpK ok fn d Q r n m u) Q) a x O w):WpK ok fn (.seq c d) Q a x O w:=by
 intro b k j t s g;refine T.ctl rfl rfl (λ_=>stepG_seq) (h b (.code d::k) j t s λe r n m u q=>?_);cases e with
 | normal=>exact q b k j t s g
 | exit id=>exact(g _ _ _ _ _ q).push rfl AU
 | ret=>exact(g _ _ _ _ _ q).push (y:=.code d) rfl AU
 | goto l=>exact g _ _ _ _ _ q
 | panic v=>exact g _ _ _ _ _ q
 | outgrown=>exact g _ _ _ _ _ q
theorem LX (T:OkL P main Low pre ok){c:Operand}{e:Code}{t:Bool}(l:a.eval c=.bool t)(h:WpK ok fn (if t then d else e) Q a x O w):WpK ok fn (.cond c d e) Q a x O w:=
 λb k m j g n=>T.ctl rfl rfl (λ_=>stepG_cond l) (h b k m j g n)
theorem Ub (T:OkL P main Low pre ok)(h:WpK ok fn c (Np id Q) a x O w):WpK ok fn (.block id c) Q a x O w:=by
 intro b k m s r g;refine T.ctl rfl rfl (λ_=>stepG_block) (h b (.inBlock id::k) m s r λe B A v C q=>?_);cases e with
 | normal=>exact T.ctl rfl rfl (λ_=>stepG_inBlock) (g _ _ _ _ _ q)
 | exit j=>
  by_cases AV:j=id
  ·simp only[Np,AV,if_true] at q
   exact⟨k,by simp[exitTo,AV],g _ _ _ _ _ q⟩
  ·simp only[Np,AV,C7] at q
   obtain⟨u,p,n⟩:=g _ _ _ _ _ q;have:(id==j)=false:=by simp;exact λh=>AV h.symm
   exact⟨u,by simp[exitTo,this,p],n⟩
 | ret=>exact λt=>g _ _ _ _ _ q t
 | goto l=>exact g _ _ _ _ _ q
 | panic y=>exact g _ _ _ _ _ q
 | outgrown=>exact g _ _ _ _ _ q
theorem Y0 (T:OkL P main Low pre ok)(I:Nat->Act->τ->(Nat->Prop)->World->Prop)(N:Nat)(H:I N a x O w)
  (round:∀n a x O w,I n a x O w->WpK ok fn c (Wh (λt s r u=>∃m,m<n/\I m t s r u) Q) a x O w):WpK ok fn (.loop c) Q a x O w:=by
 intro b k j E D g;have key:∀n a x O w,I n a x O w->ok x O w (G (b.at a (.code c::.inLoop c::k)) j):=by
  intro n;induction n using Nat.strongRecOn with
  | ind n C=>
   intro a x O w A;refine round n a x O w A b (.inLoop c::k) j E D λe t s r u q=>?_
   cases e with
   | normal=>obtain⟨m,v,B⟩:=q;exact T.ctl rfl rfl (λ_=>stepG_inLoop) (C m v _ _ _ _ B)
   | exit id=>exact(g _ _ _ _ _ q).push rfl AU
   | ret=>exact(g _ _ _ _ _ q).push (y:=.inLoop c) rfl AU
   | goto l=>exact g _ _ _ _ _ q
   | panic J=>exact g _ _ _ _ _ q
   | outgrown=>exact g _ _ _ _ _ q
 exact T.ctl rfl rfl (λ_=>stepG_loop) (key N _ _ _ _ H)
theorem Gp (T:OkL P main Low pre ok)(h:Vh ok fn ops (List.range ops.size) Q a x O w):WpK ok fn (.region id ops false) Q a x O w:=
 λb k l g e j=>T.ctl rfl rfl (λ_=>stepG_region) (h b k l g e j)
theorem Qp (T:OkL P main Low pre ok)(h:Q .normal a x O w):Vh ok fn ops [] Q a x O w:=
 λ_b _k _cs _ _ e=>T.ctl rfl rfl (λ_=>stepG_region_end) (e _ _ _ _ _ h)
theorem Ws (T:OkL P main Low pre ok)(l:ops[i]?=some o)(m:Region.wanted o (yielded ops a.tmps)=false)(h:Vh ok fn ops rest Q (a.put o.dst undef) x O w):Vh ok fn ops (i::rest) Q a x O w:=
 λb k n g e j=>T.ctl rfl rfl (λ_=>stepG_unwanted l m) (h b k n g e j)
theorem Ye (T:OkL P main Low pre ok)(r:ops[i]?=some o)(q:Region.wanted o (yielded ops a.tmps)=true)
  (h:∀w₁,Keep Low O w w₁->pre x w₁->∀K:Act->World->Prop,(∀j e,EY Low O w₁ e (listed P fn a o w₁)/\Vh ok fn ops rest Q j x (grown O w₁ e) e->K j e)->uponK o a K ((execOp a.eval o).run P w₁)):Vh ok fn ops (i::rest) Q a x O w:=by
 intro b k p m l s;refine T.own rfl λw₁ t u=>?_
 have:=h w₁ t u (λj e=>EY Low O w₁ e (listed P fn a o w₁)/\Vh ok fn ops rest Q j x (grown O w₁ e) e) λ_ _ z=>z
 revert this
 cases n:(execOp a.eval o).run P w₁ with
 | ok y e=>
  cases y with
  | value v=>rintro⟨d,g⟩;exact⟨_,_,_,stepG_value r q l n,rfl,by rw[m];exact d,g b k p m l s⟩
  | skip=>rintro⟨d,g⟩;exact⟨_,_,_,stepG_none r q l n,rfl,by rw[m];exact d,g b k p m l s⟩
  | _=>exact λz=>z.elim
 | halt _ _=>exact λz=>z.elim
theorem Ayu (T:OkL P main Low pre ok){args:Array Operand}{L:Array TypeId}{Post:Value->τ->(Nat->Prop)->World->Prop}
  (A:ops[i]?=some o) (H:Region.wanted o (yielded ops a.tmps)=true) (W:o.op=.call {callee:=.value (.func f),args,argTypes:=L})
  (M:Nj P ok f (args.map a.eval) x O w Post) (N:∀v m j g,Post v m j g->Vh ok fn ops rest Q (a.put o.dst v) m j g):Vh ok fn ops (i::rest) Q a x O w:=by
 intro b k cs S B U;obtain⟨F,c,s,I,X,C⟩:=M;have R:∀v,(b.at a (.inRegion ops (i::rest)::k)).finish v=b.at (a.put o.dst v) (.inRegion ops rest::k):=λv=>by rw[Frame.finish_at,A];rfl
 have t:∀(n:Act) (m:τ) (j:Nat->Prop) (g:World) (r:List Item),(n.defers=[]/\∃v,ResultsC P F n.tmps v/\Post v m j g)->
   ok m j g (G {(base f).at n r with mode:=.returning} (b.at a (.inRegion ops (i::rest)::k)::cs)):=by
  rintro n m j g r ⟨hd,v,u,D⟩;refine T.ctl rfl (g':=G (b.at (a.put o.dst v) (.inRegion ops rest::k)) cs) rfl (λw₁=>?_) (N v m j g D b k cs S B U);rw[stepG_leave (b:=base f) rfl hd s (u w₁).1 (u w₁).2,R]
 have E:ok x O w (G ((base f).at {tmps:=args.map a.eval++Array.replicate (F.ntmps - (args.map a.eval).size) undef,defers:=[]} [.code c]) (b.at a (.inRegion ops (i::rest)::k)::cs)):=by
  refine C (base f) [] _ rfl B5 λe n m j g q=>?_
  cases e with
  | normal=>exact T.ctl rfl rfl (λ_=>stepG_end) (t n m j g [] q)
  | ret=>exact λr=>t n m j g r q
  | exit id=>exact q.elim
  | goto l=>exact q.elim
  | panic Y=>exact q.elim
  | outgrown=>exact q.elim
 refine T.ctl rfl (g':=G ((base f).at {tmps:=args.map a.eval++Array.replicate (F.ntmps - (args.map a.eval).size) undef,defers:=[]} [.code c]) (b.at a (.inRegion ops (i::rest)::k)::cs)) rfl (λw₁=>?_) E;obtain⟨g',g,y,V,J⟩:=goes_elim (goes_call (P:=P) (main:=main) (w:=w₁) (cs:=cs) (k:=k) (rest:=rest) (K:=λg' g y=>g'=G ((base f).at {tmps:=args.map a.eval++Array.replicate (F.ntmps - (args.map a.eval).size) undef,defers:=[]} [.code c]) (b.at a (.inRegion ops (i::rest)::k)::cs)/\g=w₁/\y=#[]) A H B W s I X ⟨rfl,rfl,rfl⟩);obtain⟨rfl,rfl,rfl⟩:=J;exact V
theorem Nj.mono {args:Array Value}{Post g:Value->τ->(Nat->Prop)->World->Prop}(h:Nj P ok f args x O w Post)(j:∀v x O w,Post v x O w->g v x O w):Nj P ok f args x O w g:=by
 obtain⟨F,c,k,m,l,n⟩:=h;refine⟨F,c,k,m,l,n.mono λe a x O w q=>?_⟩;cases e<;>first | exact⟨q.1,q.2.choose,q.2.choose_spec.1,j _ _ _ _ q.2.choose_spec.2⟩ | exact q
end
section
variable {P : Program}{Low : Nat}
def okS (P:Program)(Low c:Nat):List Value->(Nat->Prop)->World->Goroutine->Prop:=λvs O w g=>D4 P Low ⟨c,O,vs,g,w⟩
theorem Ba (P:Program)(Low c:Nat):OkL P false Low (λ_ w=>Zq c w) (okS P Low c):=by
 refine⟨fun {x O w w₁ g} h l=>?_,fun {x O w g} m h=>?_⟩
 ·have hi:=D4.inv h
  refine D4.mk ⟨hi.1,?_⟩;rcases hi.2 with h | ⟨v,q,e,h⟩ | ⟨p,n,h⟩
  ·exact .inl λj k o=>h j (l.trans k) o
  ·exact .inr (.inl ⟨v,q,e,λj k o=>h j (l.trans k) o⟩)
  ·exact .inr (.inr ⟨p,n,λj s r k o=>h j s r (l.trans k) o⟩)
 ·exact D4.mk ⟨m, .inl λw₁ k o=>h w₁ k o⟩
def okR (P:Program)(Low:Nat)(Stop:Goroutine->World->Prop):List (Nat × List Value × Bool)->(Nat->Prop)->World->Goroutine->Prop:=λL O w g=>EK P Low Stop ⟨O,L,g,w⟩
theorem Bh (P:Program)(Low:Nat)(Stop:Goroutine->World->Prop):OkL P true Low (λ_ _=>True) (okR P Low Stop):=by
 refine⟨fun {x O w w₁ g} h l=>?_,fun {x O w g} n h=>?_⟩
 ·have hi:=EK.inv h
  refine EK.mk ⟨hi.1,?_⟩;rcases hi.2 with⟨m,h⟩ | h | ⟨c,q,h⟩ | ⟨j,c,vs,z,p,h⟩
  ·exact .inl ⟨m,λe k=>h e (l.trans k)⟩
  ·exact .inr (.inl λe k=>h e (l.trans k))
  ·exact .inr (.inr (.inl ⟨c,q,λe k=>h e (l.trans k)⟩))
  ·exact .inr (.inr (.inr ⟨j,c,vs,z,p,λe k=>h e (l.trans k)⟩))
 ·exact EK.mk ⟨n, .inr (.inl λw₁ k=>h w₁ k trivial)⟩
section
variable {F:Func}{args:Array Value}{cd:Code}{f:FuncId}{vs:List Value}{z:Value}
variable {fn : FuncId}{a : Act}{O : Nat -> Prop}{w : World}{c : Nat}{ops : Array Oper}{i : Nat}{rest : List Nat}{o : Oper}
theorem XP {Q:Xi (List Value)}{v:Value}(l:ops[i]?=some o)(r:Region.wanted o (yielded ops a.tmps)=true)(hr:∀w₁:World,(execOp a.eval o).run P w₁=.ok (.comm #[scase c v z] true .send) w₁)
  (q:∀w₁:World,(execOp a.eval o).events P w₁ #[]=#[]) (h:Vh (okS P Low c) fn ops rest Q (a.put o.dst undef) vs O w):Vh (okS P Low c) fn ops (i::rest) Q a (v::vs) O w:=by
 intro b k g n j p;refine D4.mk ⟨rfl, .inr (.inl ⟨v,vs,rfl,λw₁ s _=>⟨⟨z,?_⟩,?_⟩⟩)⟩
 ·show stepG P false (G (b.at a (.inRegion ops (i::rest)::k)) g) w₁=_
  rw[stepG_comm l r j (hr w₁)];unfold listed;rw[q,seen_none]
 ·have m:(b.at a (.inRegion ops (i::rest)::k)).finish undef=b.at (a.put o.dst undef) (.inRegion ops rest::k):=by rw[Frame.finish_at,l];rfl
  have e:Conc.served (G (b.at a (.inRegion ops (i::rest)::k)) g) undef=G (b.at (a.put o.dst undef) (.inRegion ops rest::k)) g:=by rw[<-m];rfl
  show D4 P Low ⟨c,O,vs,Conc.served (G (b.at a (.inRegion ops (i::rest)::k)) g) undef,w₁⟩
  rw[e];exact(Ba P Low c).rely (h b k g n j p) s
theorem Ayv {b:Frame}{k:List Item}{cs:List Frame}{y:Operand}{e:Array TypeId}{n:Nat}(j:ops[i]?=some o)(u:Region.wanted o (yielded ops a.tmps)=true)(p:b.kind≠.early)
  (t:o.op=.call {callee:=.builtin .close,args:=#[y],argTypes:=e}) (g:a.eval y=.chan (some c)) (m:(P.funcs[b.fn]?).any (·.norace)=false) (l:mayWake P (G (b.at a (.inRegion ops (i::rest)::k)) cs)=true)
  (h:QuitsIn P n (G (b.at (a.put o.dst (.tuple #[])) (.inRegion ops rest::k)) cs)):okS P Low c [] O w (G (b.at a (.inRegion ops (i::rest)::k)) cs):=by
 refine D4.mk ⟨rfl, .inr (.inr ⟨rfl,l,λw₁ s r _ q=>⟨_,n,?_,rfl,h⟩⟩)⟩;exact stepG_close j u p t g q m
def HU (P:Program):Frame:={(default:Frame) with fn:=P.funcs.size,defers:=[],mode:=.panicking [goexitEntry]}
theorem vv (e:P.funcs[f]?=some F)(j:(F.name== "runtime.NumGoroutine")=false)(g:F.body=some cd)(w:World):
  stepG P false (born P (dcall f args)) w=.go (G ((baseD f).at {tmps:=args++Array.replicate (F.ntmps - args.size) undef,defers:=[]} [.code cd]) [HU P]) w #[]:=by
 have h:¬F.name= "runtime.NumGoroutine" :=by simpa using j
 simp[born,dcall,stepG,unwind,callDeferred,invoke,callFunc,e,h,g,seen,GStep.after,G,Frame.enter,Frame.at,baseD,HU]
theorem Ayc {a:Act}{ops:Array Oper}(e:P.funcs[f]?=some F)(hr:F.results=#[])(hd:a.defers=[]):QuitsIn P 4 (G ((baseD f).at a [.inRegion ops []]) [HU P]):=by
 refine .inr ⟨rfl,_,λw=>stepG_region_end,?_⟩;refine .inr ⟨rfl,_,λw=>stepG_end,?_⟩;refine .inr ⟨rfl,G (HU P) [],λw=>?_,?_⟩
 ·simp[G,stepG,unwind,doReturn,results,Frame.at,baseD,HU,e,hr,hd,seen,GStep.after,goexitEntry]
 refine .inr ⟨rfl,{G (HU P) [] with status:=.finished},λw=>?_,rfl⟩;simp[G,stepG,unwind,HU,goexitEntry,Frame.catches];rfl
theorem gy (e:P.funcs[f]?=some F)(g:(F.name== "runtime.NumGoroutine")=false)(j:F.body=some cd)
  (h:okS P Low c vs O w (G ((baseD f).at {tmps:=args++Array.replicate (F.ntmps - args.size) undef,defers:=[]} [.code cd]) [HU P])):okS P Low c vs O w (born P (dcall f args)):=
 (Ba P Low c).ctl rfl rfl (vv e g j) h
theorem XQ {Stop:Goroutine->World->Prop}{Q:Xi (List (Nat × List Value × Bool))}{L:List (Nat × List Value × Bool)}{j:Nat}(n:ops[i]?=some o)(A:Region.wanted o (yielded ops a.tmps)=true)
  (s:L[j]?=some (c,vs,false)) (hr:∀w₁:World,(execOp a.eval o).run P w₁=.ok (.comm #[rcase c z] true (.recv true)) w₁) (u:∀w₁:World,(execOp a.eval o).events P w₁ #[]=#[])
  (h1:∀v h,vs=v::h->Vh (okR P Low Stop) fn ops rest Q (a.put o.dst (.tuple #[v, .bool true])) (L.set j (c,h,false)) O w)
  (y:vs=[]->Vh (okR P Low Stop) fn ops rest Q (a.put o.dst (.tuple #[z, .bool false])) (L.set j (c,[],true)) O w):Vh (okR P Low Stop) fn ops (i::rest) Q a L O w:=by
 intro b k g p l q;have t:∀v,(b.at a (.inRegion ops (i::rest)::k)).finish v=b.at (a.put o.dst v) (.inRegion ops rest::k):=λv=>by rw[Frame.finish_at,n];rfl
 have e:∀v,Conc.served (G (b.at a (.inRegion ops (i::rest)::k)) g) v=G (b.at (a.put o.dst v) (.inRegion ops rest::k)) g:=λv=>by rw[<-t];rfl
 refine EK.mk ⟨rfl, .inr (.inr (.inr ⟨j,c,vs,z,s,λw₁ r=>⟨?_,λv h m=>?_,λm=>?_⟩⟩))⟩
 ·show stepG P true (G (b.at a (.inRegion ops (i::rest)::k)) g) w₁=_
  rw[stepG_comm n A l (hr w₁)];unfold listed;rw[u,seen_none]
 ·show EK P Low Stop ⟨O,_,Conc.served (G (b.at a (.inRegion ops (i::rest)::k)) g) (.tuple #[v, .bool true]),w₁⟩
  rw[e];exact(Bh P Low Stop).rely (h1 v h m b k g p l q) r
 ·show EK P Low Stop ⟨O,_,Conc.served (G (b.at a (.inRegion ops (i::rest)::k)) g) (.tuple #[z, .bool false]),w₁⟩
  rw[e];exact(Bh P Low Stop).rely (y m b k g p l q) r
theorem kr {Stop:Goroutine->World->Prop}{Q:Xi (List (Nat × List Value × Bool))}{L:List (Nat × List Value × Bool)}(q:ops[i]?=some o)(A:Region.wanted o (yielded ops a.tmps)=true)
  (hr:∀w₁:World,(execOp a.eval o).run P w₁=.ok (.spawn (dcall f args)) w₁) (v:∀w₁:World,(execOp a.eval o).events P w₁ #[]=#[]) (n:O c) (p:Zq c w)
  (u:okS P Low c vs (λ_=>False) w (born P (dcall f args))) (h:Vh (okR P Low Stop) fn ops rest Q (a.put o.dst undef) (L++[(c,vs,false)]) (λb=>O b/\b≠c) w):Vh (okR P Low Stop) fn ops (i::rest) Q a L O w:=by
 intro b k j t m y;refine EK.mk ⟨rfl, .inr (.inr (.inl ⟨c,n,λw₁ l=>⟨G (b.at (a.put o.dst undef) (.inRegion ops rest::k)) j,born P (dcall f args),vs,?_,rfl,rfl,?_,?_,?_⟩⟩))⟩
 ·show stepG P true (G (b.at a (.inRegion ops (i::rest)::k)) j) w₁=_
  rw[stepG_spawn q A m (hr w₁) rfl];unfold listed;rw[v,seen_none]
 ·obtain⟨s,r,e⟩:=p
  exact⟨s,r,(l.mine c n).trans e⟩
 ·exact(Ba P Low c).rely u (l.sub λ_ g=>g.elim)
 ·exact(Bh P Low Stop).rely (h b k j t m y) (l.sub λ_ g=>g.1)
theorem g6 {Stop:Goroutine->World->Prop}{L:List (Nat × List Value × Bool)}{g:Goroutine}(hr:g.status=.running)(j:∀e∈L,e.2.2=true)(h:∀w₁,Keep Low O w w₁->Stop g w₁):okR P Low Stop L O w g:=
 EK.mk ⟨hr, .inl ⟨j,h⟩⟩
end
end
section
variable {τ : Type}{P : Program}{main : Bool}{Low : Nat}{pre : τ -> World -> Prop}{ok : τ -> (Nat -> Prop) -> World -> Goroutine -> Prop}{fn : FuncId}{Q : Xi τ}{a : Act}{x : τ}{O : Nat -> Prop}{w : World}
variable {ops : Array Oper}{i : Nat}{rest : List Nat}{o : Oper}
theorem OH (T:OkL P main Low pre ok)(n:ops[i]?=some o)(l:Region.wanted o (yielded ops a.tmps)=true)
  (m:∀w₁,Keep Low O w w₁->∀e∈(execOp a.eval o).events P w₁ #[],EvO Low O e)
  (h:∀w₁,Keep Low O w w₁->∀K:Act->World->Prop,(∀g,Vh ok fn ops rest Q g x O w->K g w₁)->uponK o a K ((execOp a.eval o).run P w₁)):Vh ok fn ops (i::rest) Q a x O w:=by
 refine Ye T n l λw₁ j _ K q=>?_
 have:=h w₁ j (λg k=>k=w₁/\Vh ok fn ops rest Q g x O w) λg h=>⟨rfl,h⟩
 refine uponK_mono (λg k h=>?_) this;obtain⟨rfl,h⟩:=h;refine q _ _ ⟨⟨λ_ _ _=>rfl,CG _,rfl,rfl,rfl,λe p=>?_⟩,?_⟩
 ·rw[J4];exact .inl (m _ j e (mem_listed p))
 ·rw[J4];exact h.rely T j
theorem P8 (T:OkL P main Low pre ok)(j:ops[i]?=some o)(k:Region.wanted o (yielded ops a.tmps)=true)(g:∀w₁:World,(execOp a.eval o).events P w₁ #[]=#[])
  (h:∀(w₁:World) (K:Act->World->Prop),(∀e,Vh ok fn ops rest Q e x O w->K e w₁)->uponK o a K ((execOp a.eval o).run P w₁)):Vh ok fn ops (i::rest) Q a x O w:=
 OH T j k (λw₁ _=>by rw[g];simp) λw₁ _=>h w₁
theorem Oa (T:OkL P main Low pre ok)(m:ops[i]?=some o)(r:Region.wanted o (yielded ops a.tmps)=true)(s:∀w₁:World,(execOp a.eval o).events P w₁ #[]=#[])
  (h:∀w₁,Keep Low O w w₁->∀K:Act->World->Prop,(∀j g,Vh ok fn ops rest Q j x (λb=>O b\/b=w₁.heap.size) (w₁.alloc g)->K j (w₁.alloc g))->uponK o a K ((execOp a.eval o).run P w₁)):Vh ok fn ops (i::rest) Q a x O w:=by
 refine Ye T m r λw₁ q _ K t=>?_
 have:=h w₁ q (λj k=>∃g,k=w₁.alloc g/\Vh ok fn ops rest Q j x (λb=>O b\/b=w₁.heap.size) k) λj g h=>⟨g,rfl,h⟩
 refine uponK_mono (λj k h=>?_) this;obtain⟨g,rfl,h⟩:=h;refine t _ _ ⟨⟨λb l _=>?_,by simp only[World.alloc,K0];omega,rfl,rfl,rfl,λe n=>?_⟩,?_⟩
 ·simp only[World.alloc]
  rw[RJ l,JI l]
 ·have:=mem_listed n
  rw[s] at this;simp at this
 ·have e:grown O w₁ (w₁.alloc g)=λb=>O b\/b=w₁.heap.size:=by
   funext b;apply propext;simp only[grown,World.alloc,K0];constructor
   ·rintro(h | h)
    ·exact .inl h
    ·exact .inr AQ
   ·rintro(h | h)
    ·exact .inl h
    ·exact .inr AQ
  rw[e];exact h
end
section
variable {Low : Nat}{w₀ : World}{bs : List (Nat × Obj)}{O : Nat -> Prop}{w w₁ : World}
end
variable {G G':Prop}
structure Wr (p:Prop):Prop where
 out:p
theorem kW (k:G')(f:Wr G'->G:=by(intro hZ;(repeat (first | (refine Gp (Ba _ _ _) ?_;simp only[Cd,CH,CO,Nat.reduceAdd,CV,List.range,List.range.loop]) | (refine P8 (Ba _ _ _) rfl Ao ?_ ?_;(focus (intro _;first | (simp[go_sem];done) | (simp[go_sem, *];done)));intro _ K hK;go_simp;refine hK _ ?_;clear hK K;try walk_nrm) | (refine OH (Ba _ _ _) rfl Ao ?_ ?_;(focus (intro W1 hR e he;have hy:=_Y _ hR;simp[go_sem, *] at he;(first | (subst he;(first | (refine⟨_,_,rfl, .inl ?_⟩;assumption) | (refine⟨_,_,rfl, .inr ⟨?_,rfl⟩⟩;assumption) | exact⟨_,_,rfl,_B.imp id (λh=>⟨h,rfl⟩)⟩)) | (rcases he with rfl | rfl<;>(first | (refine⟨_,_,rfl, .inl ?_⟩;assumption) | (refine⟨_,_,rfl, .inr ⟨?_,rfl⟩⟩;assumption) | exact⟨_,_,rfl,_B.imp id (λh=>⟨h,rfl⟩)⟩)) | (rcases he with rfl | rfl | rfl | rfl<;>(first | (refine⟨_,_,rfl, .inl ?_⟩;assumption) | (refine⟨_,_,rfl, .inr ⟨?_,rfl⟩⟩;assumption) | exact⟨_,_,rfl,_B.imp id (λh=>⟨h,rfl⟩)⟩)) | (rcases he with rfl | rfl | rfl | rfl | rfl | rfl<;>(first | (refine⟨_,_,rfl, .inl ?_⟩;assumption) | (refine⟨_,_,rfl, .inr ⟨?_,rfl⟩⟩;assumption) | exact⟨_,_,rfl,_B.imp id (λh=>⟨h,rfl⟩)⟩)));done));intro W1 hR K hK;have hy:=_Y _ hR;go_simp;refine hK _ ?_;clear hK K hR hy W1;try walk_nrm) | (refine Ws (Ba _ _ _) rfl ?_ ?_;(focus (rfl;done));try walk_nrm) | (refine XP (z:=.tuple #[]) rfl Ao ?_ ?_ ?_;(focus (intro _;simp[execOp,scase,Act.eval];done));(focus (intro _;simp[execOp];done));try walk_nrm) | (refine LX (Ba _ _ _) (t:=true) ?_ ?_;(focus (simp[Act.eval, *];done));simp only[if_true,reduceIte]) | (refine LX (Ba _ _ _) (t:=false) ?_ ?_;(focus (simp[Act.eval, *];done));simp only[DU,C7,reduceIte]) | ((first | refine Le (Ba _ _ _) ?_ | refine Ub (Ba _ _ _) ?_ | refine V9 (Ba _ _ _) ?_ | refine Ua (Ba _ _ _) ?_ | refine IW (Ba _ _ _) ?_ | refine We (Ba _ _ _) ?_ | refine Qp (Ba _ _ _) ?_);try (simp only[Wh,Np,if_true,C7,reduceIte,Nat.reduceEqDiff]))));exact hZ.out)):G:=f ⟨k⟩
theorem kV (k:G')(f:Wr G'->G:=by(intro hZ;(repeat (first | (refine Gp (Bh _ _ _) ?_;simp only[Cd,CH,CO,Nat.reduceAdd,CV,List.range,List.range.loop]) | (refine P8 (Bh _ _ _) rfl Ao ?_ ?_;(focus (intro _;first | (simp[go_sem];done) | (simp[go_sem, *];done)));intro _ K hK;go_simp;refine hK _ ?_;clear hK K;try walk_nrm) | (refine OH (Bh _ _ _) rfl Ao ?_ ?_;(focus (intro W1 hR e he;have hy:=_Y _ hR;simp[go_sem, *] at he;(first | (subst he;(first | (refine⟨_,_,rfl, .inl ?_⟩;assumption) | (refine⟨_,_,rfl, .inr ⟨?_,rfl⟩⟩;assumption) | exact⟨_,_,rfl,_B.imp id (λh=>⟨h,rfl⟩)⟩)) | (rcases he with rfl | rfl<;>(first | (refine⟨_,_,rfl, .inl ?_⟩;assumption) | (refine⟨_,_,rfl, .inr ⟨?_,rfl⟩⟩;assumption) | exact⟨_,_,rfl,_B.imp id (λh=>⟨h,rfl⟩)⟩)) | (rcases he with rfl | rfl | rfl | rfl<;>(first | (refine⟨_,_,rfl, .inl ?_⟩;assumption) | (refine⟨_,_,rfl, .inr ⟨?_,rfl⟩⟩;assumption) | exact⟨_,_,rfl,_B.imp id (λh=>⟨h,rfl⟩)⟩)) | (rcases he with rfl | rfl | rfl | rfl | rfl | rfl<;>(first | (refine⟨_,_,rfl, .inl ?_⟩;assumption) | (refine⟨_,_,rfl, .inr ⟨?_,rfl⟩⟩;assumption) | exact⟨_,_,rfl,_B.imp id (λh=>⟨h,rfl⟩)⟩)));done));intro W1 hR K hK;have hy:=_Y _ hR;go_simp;refine hK _ ?_;clear hK K hR hy W1;try walk_nrm) | (refine Ws (Bh _ _ _) rfl ?_ ?_;(focus (rfl;done));try walk_nrm) | (refine XP (z:=.tuple #[]) rfl Ao ?_ ?_ ?_;(focus (intro _;simp[execOp,scase,Act.eval];done));(focus (intro _;simp[execOp];done));try walk_nrm) | (refine LX (Bh _ _ _) (t:=true) ?_ ?_;(focus (simp[Act.eval, *];done));simp only[if_true,reduceIte]) | (refine LX (Bh _ _ _) (t:=false) ?_ ?_;(focus (simp[Act.eval, *];done));simp only[DU,C7,reduceIte]) | ((first | refine Le (Bh _ _ _) ?_ | refine Ub (Bh _ _ _) ?_ | refine V9 (Bh _ _ _) ?_ | refine Ua (Bh _ _ _) ?_ | refine IW (Bh _ _ _) ?_ | refine We (Bh _ _ _) ?_ | refine Qp (Bh _ _ _) ?_);try (simp only[Wh,Np,if_true,C7,reduceIte,Nat.reduceEqDiff]))));exact hZ.out)):G:=f ⟨k⟩
section
variable {K : World -> Prop}{b : Nat}{v0 v1 v2 v3 v4 v5 : Value}
theorem cs2 (h:∀W,K W->∀e,W.cell? (AK b e)=(#[v0,v1]:Array Value)[e]?)(W:World)(k:K W):W.cell? (AK b 0)=some v0/\W.cell? (AK b 1)=some v1:=⟨h W k 0,h W k 1⟩
theorem cs3 (h:∀W,K W->∀e,W.cell? (AK b e)=(#[v0,v1,v2]:Array Value)[e]?)(W:World)(k:K W):W.cell? (AK b 0)=some v0/\W.cell? (AK b 1)=some v1/\W.cell? (AK b 2)=some v2:=⟨h W k 0,h W k 1,h W k 2⟩
theorem cs4 (h:∀W,K W->∀e,W.cell? (AK b e)=(#[v0,v1,v2,v3]:Array Value)[e]?)(W:World)(k:K W):W.cell? (AK b 0)=some v0/\W.cell? (AK b 1)=some v1/\W.cell? (AK b 2)=some v2/\W.cell? (AK b 3)=some v3:=⟨h W k 0,h W k 1,h W k 2,h W k 3⟩
theorem cs6 (h:∀W,K W->∀e,W.cell? (AK b e)=(#[v0,v1,v2,v3,v4,v5]:Array Value)[e]?)(W:World)(k:K W):W.cell? (AK b 0)=some v0/\W.cell? (AK b 1)=some v1/\W.cell? (AK b 2)=some v2/\W.cell? (AK b 3)=some v3/\W.cell? (AK b 4)=some v4/\W.cell? (AK b 5)=some v5:=⟨h W k 0,h W k 1,h W k 2,h W k 3,h W k 4,h W k 5⟩
end
