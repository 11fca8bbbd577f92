import Derived.Test.YtobbpffcggchmaaGreatDoorCD8
import Derived.Conc.CompanyMem
import Derived.Conc.TokenWalk
import Derived.Conc.DeferLaws
namespace Go.Co
open Go.Conc
section
variable {P : Program}{Low : Nat}{Stop : Goroutine -> World -> Prop}
theorem Aml {O:Nat->Prop}{g:Goroutine}{w:World}(D:∀b,O b->Low<=b/\b<w.heap.size)(hl:Low<=w.heap.size)(X:∀g w,Stop g w->OkG g)(h:Rcv P Low Stop ⟨O,[],g,w⟩):Comes P g w Stop:=by
 intro m sl t ⟨A,⟨q,C⟩,B,M⟩ _;have y:=(Array.getElem?_eq_some_iff.1 A).1;have V:PhI P Low m.size t ⟨O,[],g,w⟩ (λk b=>k=0/\O b) ((List.range m.size).map λi=>.inr (if i=0 then 0 else q i)) m w t:=by
  refine⟨y,spz,by simp[y],spz,h.inv.1,Keep.refl _ _ _, .inl A,λi hi v=>?_,λj c H seen e=>by simp at e,λb L=>⟨rfl,L⟩,λj s u=>?_,λj c H seen e=>by simp at e,λj k c r s Y Z e=>by simp at e,⟨λk l b n T=>n.1.trans T.1.symm,λk b n=>(D b n.2).1,λk b n=>(D b n.2).2⟩,hl,Tr.begin M C⟩
  ·refine⟨q i,m[i],?_,Bay v,C.old i _ hi (Bay v)⟩
   have:i≠0:=omz
   simp[v,this]
  ·simp at u
 obtain⟨N,J,S,W,U,E,R,hF,I,u⟩:=phase w.tape h _ _ m w t sl V rfl;exact⟨N,J,S,W,U,E,R,hF,X _ _ u,I,u⟩
end
theorem Jg (O:Nat->Prop)(w:World):grown O w w=O:=by
 funext b;apply propext;constructor
 ·rintro(h | ⟨e,g⟩)
  ·exact h
  ·omega
 ·exact .inl
structure OkL {τ:Type}(P:Program)(main:Bool)(Low:Nat)(pre:τ->World->Prop)(ok:τ->(Nat->Prop)->World->Goroutine->Prop):Prop where
 rely:∀{x O w w₁ g},ok x O w g->Keep Low O w w₁->ok x O w₁ g
 own:∀{x O w g},g.status=.running->(∀w₁,Keep Low O w w₁->pre x w₁->∃g' w' es,stepG P main g w₁=.go g' w' es/\g'.status=.running/\Ap3 Low O w₁ w' es/\ok x (grown O w₁ w') w' g')->ok x O w g
theorem Ap3.none (Low:Nat)(O:Nat->Prop)(w:World):Ap3 Low O w w #[]:=⟨λ_ _ _=>rfl,A88 _,rfl,rfl,rfl,spz⟩
section
variable {τ : Type}{P : Program}{main : Bool}{Low : Nat}{pre : τ -> World -> Prop}{ok : τ -> (Nat -> Prop) -> World -> Goroutine -> Prop}
theorem OkL.ctl (T:OkL P main Low pre ok){x:τ}{O:Nat->Prop}{w:World}{g g':Goroutine}(hr:g.status=.running)(k:g'.status=.running)(e:∀w₁,stepG P main g w₁=.go g' w₁ #[])(h:ok x O w g'):ok x O w g:=
 T.own hr λw₁ j _=>⟨g',w₁,#[],e w₁,k,Ap3.none _ _ _,by rw[Jg];exact T.rely h j⟩
end
section
variable {τ : Type}(P : Program)(ok : τ -> (Nat -> Prop) -> World -> Goroutine -> Prop)
def Ane (b:Frame)(k:List Item)(cs:List Frame):Exit->Act->τ->(Nat->Prop)->World->Prop
 | .normal,a,x,O,w=>ok x O w (G (b.at a k) cs)
 | .exit id,a,x,O,w=>∃e,exitTo id k=some e/\ok x O w (G (b.at a e) cs)
 | .ret,a,x,O,w=>∀g,ok x O w (G {b.at a g with mode:=.returning} cs)
 | _,_,_,_,_=>False
abbrev Vw (τ:Type):=Exit->Act->τ->(Nat->Prop)->World->Prop
def WpK (fn:FuncId)(c:Code)(Q:Vw τ)(a:Act)(x:τ)(O:Nat->Prop)(w:World):Prop:=
 ∀(b:Frame) (k:List Item) (l:List Frame),b.fn=fn->b.kind≠.early->(∀e m g j h,Q e m g j h->Ane ok b k l e m g j h)->ok x O w (G (b.at a (.code c::k)) l)
def Ud (fn:FuncId)(ops:Array Oper)(todo:List Nat)(Q:Vw τ)(a:Act)(x:τ)(O:Nat->Prop)(w:World):Prop:=
 ∀(b:Frame) (k:List Item) (l:List Frame),b.fn=fn->b.kind≠.early->(∀e m g j h,Q e m g j h->Ane ok b k l e m g j h)->ok x O w (G (b.at a (.inRegion ops todo::k)) l)
def U5 (N:Act->τ->(Nat->Prop)->World->Prop)(Q:Vw τ):Vw τ
 | .normal=>N
 | e=>Q e
def Lu (id:Nat)(Q:Vw τ):Vw τ
 | .exit g=>if g=id then Q .normal else Q (.exit g)
 | e=>Q e
def Am1 (fn:Func)(Post:Value->τ->(Nat->Prop)->World->Prop):Vw τ
 | .normal,a,x,O,w | .ret,a,x,O,w=>a.defers=[]/\∃v,ResultsC P fn a.tmps v/\Post v x O w
 | _,_,_,_,_=>False
def Lh (f:FuncId)(args:Array Value)(x:τ)(O:Nat->Prop)(w:World)(Post:Value->τ->(Nat->Prop)->World->Prop):Prop:=
 ∃fn c,P.funcs[f]?=some fn/\(fn.name== "runtime.NumGoroutine")=false/\fn.body=some c/\
  WpK ok f c (Am1 P fn Post) {tmps:=args++Array.replicate (fn.ntmps - args.size) undef,defers:=[]} x O w
end
section
variable {c d:Code}{f:FuncId}{i id:Nat}{o:Oper}{ops:Array Oper}{rest:List Nat}
variable {τ : Type}{P : Program}{main : Bool}{Low : Nat}{pre : τ -> World -> Prop}{ok : τ -> (Nat -> Prop) -> World -> Goroutine -> Prop}{fn : FuncId}{Q Q' : Vw τ}{a : Act}{x : τ}{O : Nat -> Prop}{w w₁ : World}
theorem Ane.push {b:Frame}{y:Item}{k:List Item}{cs:List Frame}{e:Exit}(hx:y.plain=true)(m:e≠.normal)(h:Ane ok b k cs e a x O w):Ane ok b (y::k) cs e a x O w:=by
 cases e with
 | normal=>exact absurd rfl m
 | exit id=>obtain⟨g,n,j⟩:=h;exact⟨g,by cases y<;>simp_all[exitTo,Item.plain],j⟩
 | ret=>exact h
 | goto l=>exact h
 | panic p=>exact h
 | outgrown=>exact h
theorem WpK.mono (h:WpK ok fn c Q a x O w)(s:∀e a x O w,Q e a x O w->Q' e a x O w):WpK ok fn c Q' a x O w:=
 λb k p l m t=>h b k p l m λe r g n j q=>t e r g n j (s _ _ _ _ _ q)
theorem Ud.rely (T:OkL P main Low pre ok){todo:List Nat}(h:Ud ok fn ops todo Q a x O w)(hr:Keep Low O w w₁):Ud ok fn ops todo Q a x O w₁:=
 λb k j e g l=>T.rely (h b k j e g l) hr
theorem U2 (T:OkL P main Low pre ok)(h:Q .normal a x O w):WpK ok fn .skip Q a x O w:=λ_b _k _cs _ _ e=>T.ctl rfl rfl (λ_=>stepG_skip) (e _ _ _ _ _ h)
theorem Rk (T:OkL P main Low pre ok){l:Nat}(h:Q .normal a x O w):WpK ok fn (.label l) Q a x O w:=λ_b _k _cs _ _ e=>T.ctl rfl rfl (λ_=>stepG_label) (e _ _ _ _ _ h)
theorem Yv (T:OkL P main Low pre ok)(h:Q .ret a x O w):WpK ok fn .ret Q a x O w:=λ_b _k _cs _ _ e=>T.ctl rfl rfl (λ_=>stepG_ret') (e _ _ _ _ _ h _)
theorem U3 (T:OkL P main Low pre ok)(h:Q (.exit id) a x O w):WpK ok fn (.exit id) Q a x O w:=λb k m _ _ j=>by
 obtain⟨l,g,e⟩:=j _ _ _ _ _ h;exact T.ctl rfl rfl (λ_=>stepG_exit g) e
theorem J6 (T:OkL P main Low pre ok)(h:WpK ok fn c (U5 (λn j u r=>WpK ok fn d Q n j u r) Q) a x O w):WpK ok fn (.seq c d) Q a x O w:=by
 intro b k t m s g;refine T.ctl rfl rfl (λ_=>stepG_seq) (h b (.code d::k) t m s λe n j u r q=>?_);cases e with
 | normal=>exact q b k t m s g
 | exit id=>exact(g _ _ _ _ _ q).push rfl spz
 | ret=>exact(g _ _ _ _ _ q).push (y:=.code d) rfl spz
 | goto l=>exact g _ _ _ _ _ q
 | panic v=>exact g _ _ _ _ _ q
 | outgrown=>exact g _ _ _ _ _ q
theorem Ac7 (T:OkL P main Low pre ok){c:Operand}{e:Code}{t:Bool}(n:a.eval c=.bool t)(h:WpK ok fn (if t then d else e) Q a x O w):WpK ok fn (.cond c d e) Q a x O w:=
 λb k l g j m=>T.ctl rfl rfl (λ_=>stepG_cond n) (h b k l g j m)
theorem Rl (T:OkL P main Low pre ok)(h:WpK ok fn c (Lu id Q) a x O w):WpK ok fn (.block id c) Q a x O w:=by
 intro b k u r t g;refine T.ctl rfl rfl (λ_=>stepG_block) (h b (.inBlock id::k) u r t λe y v B A q=>?_);cases e with
 | normal=>exact T.ctl rfl rfl (λ_=>stepG_inBlock) (g _ _ _ _ _ q)
 | exit j=>
  by_cases hid:j=id
  ·simp only[Lu,hid,if_true] at q
   exact⟨k,by simp[exitTo,hid],g _ _ _ _ _ q⟩
  ·simp only[Lu,hid,Bam] at q
   obtain⟨m,s,n⟩:=g _ _ _ _ _ q;have:(id==j)=false:=by simp;exact λh=>hid h.symm
   exact⟨m,by simp[exitTo,this,s],n⟩
 | ret=>exact λp=>g _ _ _ _ _ q p
 | goto l=>exact g _ _ _ _ _ q
 | panic C=>exact g _ _ _ _ _ q
 | outgrown=>exact g _ _ _ _ _ q
theorem Xu (T:OkL P main Low pre ok)(I:Nat->Act->τ->(Nat->Prop)->World->Prop)(N:Nat)(A:I N a x O w)
  (round:∀n a x O w,I n a x O w->WpK ok fn c (U5 (λr j u s=>∃m,m<n/\I m r j u s) Q) a x O w):WpK ok fn (.loop c) Q a x O w:=by
 intro b k t v D g;have key:∀n a x O w,I n a x O w->ok x O w (G (b.at a (.code c::.inLoop c::k)) t):=by
  intro n;induction n using Nat.strongRecOn with
  | ind n E=>
   intro a x O w C;refine round n a x O w C b (.inLoop c::k) t v D λe r j u s q=>?_
   cases e with
   | normal=>obtain⟨m,H,B⟩:=q;exact T.ctl rfl rfl (λ_=>stepG_inLoop) (E m H _ _ _ _ B)
   | exit id=>exact(g _ _ _ _ _ q).push rfl spz
   | ret=>exact(g _ _ _ _ _ q).push (y:=.inLoop c) rfl spz
   | goto l=>exact g _ _ _ _ _ q
   | panic J=>exact g _ _ _ _ _ q
   | outgrown=>exact g _ _ _ _ _ q
 exact T.ctl rfl rfl (λ_=>stepG_loop) (key N _ _ _ _ A)
theorem Ez (T:OkL P main Low pre ok)(h:Ud ok fn ops (List.range ops.size) Q a x O w):WpK ok fn (.region id ops false) Q a x O w:=
 λb k j e g l=>T.ctl rfl rfl (λ_=>stepG_region) (h b k j e g l)
theorem P6 (T:OkL P main Low pre ok)(h:Q .normal a x O w):Ud ok fn ops [] Q a x O w:=
 λ_b _k _cs _ _ e=>T.ctl rfl rfl (λ_=>stepG_region_end) (e _ _ _ _ _ h)
theorem Vb (T:OkL P main Low pre ok)(l:ops[i]?=some o)(m:Region.wanted o (yielded ops a.tmps)=false)(h:Ud ok fn ops rest Q (a.put o.dst undef) x O w):Ud ok fn ops (i::rest) Q a x O w:=
 λb k j e g n=>T.ctl rfl rfl (λ_=>stepG_unwanted l m) (h b k j e g n)
theorem Xa (T:OkL P main Low pre ok)(q:ops[i]?=some o)(r:Region.wanted o (yielded ops a.tmps)=true)
  (h:∀w₁,Keep Low O w w₁->pre x w₁->∀K:Act->World->Prop,(∀m e,Ap3 Low O w₁ e (listed P fn a o w₁)/\Ud ok fn ops rest Q m x (grown O w₁ e) e->K m e)->uponK o a K ((execOp a.eval o).run P w₁)):Ud ok fn ops (i::rest) Q a x O w:=by
 intro b k s j l n;refine T.own rfl λw₁ t u=>?_
 have:=h w₁ t u (λm e=>Ap3 Low O w₁ e (listed P fn a o w₁)/\Ud ok fn ops rest Q m x (grown O w₁ e) e) λ_ _ z=>z
 revert this
 cases p:(execOp a.eval o).run P w₁ with
 | ok y e=>
  cases y with
  | value v=>rintro⟨d,g⟩;exact⟨_,_,_,stepG_value q r l p,rfl,by rw[j];exact d,g b k s j l n⟩
  | skip=>rintro⟨d,g⟩;exact⟨_,_,_,stepG_none q r l p,rfl,by rw[j];exact d,g b k s j l n⟩
  | _=>exact λz=>z.elim
 | halt _ _=>exact λz=>z.elim
theorem Ax2 (T:OkL P main Low pre ok){args:Array Operand}{C:Array TypeId}{Post:Value->τ->(Nat->Prop)->World->Prop}
  (A:ops[i]?=some o) (V:Region.wanted o (yielded ops a.tmps)=true) (S:o.op=.call {callee:=.value (.func f),args,argTypes:=C})
  (X:Lh P ok f (args.map a.eval) x O w Post) (E:∀v j m g,Post v j m g->Ud ok fn ops rest Q (a.put o.dst v) j m g):Ud ok fn ops (i::rest) Q a x O w:=by
 intro b k cs J B I;obtain⟨F,c,u,R,H,D⟩:=X;have L:∀v,(b.at a (.inRegion ops (i::rest)::k)).finish v=b.at (a.put o.dst v) (.inRegion ops rest::k):=λv=>by rw[Frame.finish_at,A];rfl
 have s:∀(n:Act) (j:τ) (m:Nat->Prop) (g:World) (r:List Item),(n.defers=[]/\∃v,ResultsC P F n.tmps v/\Post v j m g)->
   ok j m g (G {(base f).at n r with mode:=.returning} (b.at a (.inRegion ops (i::rest)::k)::cs)):=by
  rintro n j m g r ⟨hd,v,y,U⟩;refine T.ctl rfl (g':=G (b.at (a.put o.dst v) (.inRegion ops rest::k)) cs) rfl (λw₁=>?_) (E v j m g U b k cs J B I);rw[stepG_leave (b:=base f) rfl hd u (y w₁).1 (y w₁).2,L]
 have W:ok x O w (G ((base f).at {tmps:=args.map a.eval++Array.replicate (F.ntmps - (args.map a.eval).size) undef,defers:=[]} [.code c]) (b.at a (.inRegion ops (i::rest)::k)::cs)):=by
  refine D (base f) [] _ rfl yDa λe n j m g q=>?_
  cases e with
  | normal=>exact T.ctl rfl rfl (λ_=>stepG_end) (s n j m g [] q)
  | ret=>exact λr=>s n j m g r q
  | exit id=>exact q.elim
  | goto l=>exact q.elim
  | panic Y=>exact q.elim
  | outgrown=>exact q.elim
 refine T.ctl rfl (g':=G ((base f).at {tmps:=args.map a.eval++Array.replicate (F.ntmps - (args.map a.eval).size) undef,defers:=[]} [.code c]) (b.at a (.inRegion ops (i::rest)::k)::cs)) rfl (λw₁=>?_) W;obtain⟨g',g,t,N,M⟩:=goes_elim (goes_call (P:=P) (main:=main) (w:=w₁) (cs:=cs) (k:=k) (rest:=rest) (K:=λg' g t=>g'=G ((base f).at {tmps:=args.map a.eval++Array.replicate (F.ntmps - (args.map a.eval).size) undef,defers:=[]} [.code c]) (b.at a (.inRegion ops (i::rest)::k)::cs)/\g=w₁/\t=#[]) A V B S u R H ⟨rfl,rfl,rfl⟩);obtain⟨rfl,rfl,rfl⟩:=M;exact N
theorem Lh.mono {args:Array Value}{Post g:Value->τ->(Nat->Prop)->World->Prop}(h:Lh P ok f args x O w Post)(m:∀v x O w,Post v x O w->g v x O w):Lh P ok f args x O w g:=by
 obtain⟨F,c,j,l,k,n⟩:=h;refine⟨F,c,j,l,k,n.mono λe a x O w q=>?_⟩;cases e<;>first | exact⟨q.1,q.2.choose,q.2.choose_spec.1,m _ _ _ _ q.2.choose_spec.2⟩ | exact q
end
section
variable {P : Program}{Low : Nat}
def okS (P:Program)(Low c:Nat):List Value->(Nat->Prop)->World->Goroutine->Prop:=λvs O w g=>Snd P Low ⟨c,O,vs,g,w⟩
theorem Bd (P:Program)(Low c:Nat):OkL P false Low (λ_ w=>Yd c w) (okS P Low c):=by
 refine⟨fun {x O w w₁ g} h l=>?_,fun {x O w g} m h=>?_⟩
 ·have hi:=Snd.inv h
  refine Snd.mk ⟨hi.1,?_⟩;rcases hi.2 with h | ⟨v,q,e,h⟩ | ⟨n,p,h⟩
  ·exact .inl λj k o=>h j (l.trans k) o
  ·exact .inr (.inl ⟨v,q,e,λj k o=>h j (l.trans k) o⟩)
  ·exact .inr (.inr ⟨n,p,λj s r k o=>h j s r (l.trans k) o⟩)
 ·exact Snd.mk ⟨m, .inl λw₁ k o=>h w₁ k o⟩
def okR (P:Program)(Low:Nat)(Stop:Goroutine->World->Prop):List (Nat × List Value × Bool)->(Nat->Prop)->World->Goroutine->Prop:=λL O w g=>Rcv P Low Stop ⟨O,L,g,w⟩
theorem Bj (P:Program)(Low:Nat)(Stop:Goroutine->World->Prop):OkL P true Low (λ_ _=>True) (okR P Low Stop):=by
 refine⟨fun {x O w w₁ g} h l=>?_,fun {x O w g} q h=>?_⟩
 ·have hi:=Rcv.inv h
  refine Rcv.mk ⟨hi.1,?_⟩;rcases hi.2 with⟨m,h⟩ | h | ⟨c,n,h⟩ | ⟨j,c,vs,z,p,h⟩
  ·exact .inl ⟨m,λe k=>h e (l.trans k)⟩
  ·exact .inr (.inl λe k=>h e (l.trans k))
  ·exact .inr (.inr (.inl ⟨c,n,λe k=>h e (l.trans k)⟩))
  ·exact .inr (.inr (.inr ⟨j,c,vs,z,p,λe k=>h e (l.trans k)⟩))
 ·exact Rcv.mk ⟨q, .inr (.inl λw₁ k=>h w₁ k trivial)⟩
section
variable {F:Func}{args:Array Value}{cd:Code}{f:FuncId}{vs:List Value}{z:Value}
variable {fn : FuncId}{a : Act}{O : Nat -> Prop}{w : World}{c : Nat}{ops : Array Oper}{i : Nat}{rest : List Nat}{o : Oper}
theorem Ak9 {Q:Vw (List Value)}{v:Value}(l:ops[i]?=some o)(r:Region.wanted o (yielded ops a.tmps)=true)(hr:∀w₁:World,(execOp a.eval o).run P w₁=.ok (.comm #[scase c v z] true .send) w₁)
  (n:∀w₁:World,(execOp a.eval o).events P w₁ #[]=#[]) (h:Ud (okS P Low c) fn ops rest Q (a.put o.dst undef) vs O w):Ud (okS P Low c) fn ops (i::rest) Q a (v::vs) O w:=by
 intro b k g p j s;refine Snd.mk ⟨rfl, .inr (.inl ⟨v,vs,rfl,λw₁ m _=>⟨⟨z,?_⟩,?_⟩⟩)⟩
 ·show stepG P false (G (b.at a (.inRegion ops (i::rest)::k)) g) w₁=_
  rw[stepG_comm l r j (hr w₁)];unfold listed;rw[n,seen_none]
 ·have q:(b.at a (.inRegion ops (i::rest)::k)).finish undef=b.at (a.put o.dst undef) (.inRegion ops rest::k):=by rw[Frame.finish_at,l];rfl
  have e:Conc.served (G (b.at a (.inRegion ops (i::rest)::k)) g) undef=G (b.at (a.put o.dst undef) (.inRegion ops rest::k)) g:=by rw[<-q];rfl
  show Snd P Low ⟨c,O,vs,Conc.served (G (b.at a (.inRegion ops (i::rest)::k)) g) undef,w₁⟩
  rw[e];exact(Bd P Low c).rely (h b k g p j s) m
theorem Ax5 {b:Frame}{k:List Item}{cs:List Frame}{y:Operand}{e:Array TypeId}{n:Nat}(g:ops[i]?=some o)(p:Region.wanted o (yielded ops a.tmps)=true)(t:b.kind≠.early)
  (j:o.op=.call {callee:=.builtin .close,args:=#[y],argTypes:=e}) (m:a.eval y=.chan (some c)) (l:(P.funcs[b.fn]?).any (·.norace)=false) (u:mayWake P (G (b.at a (.inRegion ops (i::rest)::k)) cs)=true)
  (h:QuitsIn P n (G (b.at (a.put o.dst (.tuple #[])) (.inRegion ops rest::k)) cs)):okS P Low c [] O w (G (b.at a (.inRegion ops (i::rest)::k)) cs):=by
 refine Snd.mk ⟨rfl, .inr (.inr ⟨rfl,u,λw₁ s r _ q=>⟨_,n,?_,rfl,h⟩⟩)⟩;exact stepG_close g p t j m q l
def A4n (P:Program):Frame:={(default:Frame) with fn:=P.funcs.size,defers:=[],mode:=.panicking [goexitEntry]}
theorem Apr (e:P.funcs[f]?=some F)(j:(F.name== "runtime.NumGoroutine")=false)(h:F.body=some cd)(w:World):
  stepG P false (born P (dcall f args)) w=.go (G ((baseD f).at {tmps:=args++Array.replicate (F.ntmps - args.size) undef,defers:=[]} [.code cd]) [A4n P]) w #[]:=by
 have g:¬F.name= "runtime.NumGoroutine" :=by simpa using j
 simp[born,dcall,stepG,unwind,callDeferred,invoke,callFunc,e,g,h,seen,GStep.after,G,Frame.enter,Frame.at,baseD,A4n]
theorem Axn {a:Act}{ops:Array Oper}(e:P.funcs[f]?=some F)(hr:F.results=#[])(hd:a.defers=[]):QuitsIn P 4 (G ((baseD f).at a [.inRegion ops []]) [A4n P]):=by
 refine .inr ⟨rfl,_,λw=>stepG_region_end,?_⟩;refine .inr ⟨rfl,_,λw=>stepG_end,?_⟩;refine .inr ⟨rfl,G (A4n P) [],λw=>?_,?_⟩
 ·simp[G,stepG,unwind,doReturn,results,Frame.at,baseD,A4n,e,hr,hd,seen,GStep.after,goexitEntry]
 refine .inr ⟨rfl,{G (A4n P) [] with status:=.finished},λw=>?_,rfl⟩;simp[G,stepG,unwind,A4n,goexitEntry,Frame.catches];rfl
theorem A19 (e:P.funcs[f]?=some F)(j:(F.name== "runtime.NumGoroutine")=false)(g:F.body=some cd)
  (h:okS P Low c vs O w (G ((baseD f).at {tmps:=args++Array.replicate (F.ntmps - args.size) undef,defers:=[]} [.code cd]) [A4n P])):okS P Low c vs O w (born P (dcall f args)):=
 (Bd P Low c).ctl rfl rfl (Apr e j g) h
theorem Ala {Stop:Goroutine->World->Prop}{Q:Vw (List (Nat × List Value × Bool))}{L:List (Nat × List Value × Bool)}{j:Nat}(p:ops[i]?=some o)(u:Region.wanted o (yielded ops a.tmps)=true)
  (A:L[j]?=some (c,vs,false)) (hr:∀w₁:World,(execOp a.eval o).run P w₁=.ok (.comm #[rcase c z] true (.recv true)) w₁) (s:∀w₁:World,(execOp a.eval o).events P w₁ #[]=#[])
  (h1:∀v h,vs=v::h->Ud (okR P Low Stop) fn ops rest Q (a.put o.dst (.tuple #[v, .bool true])) (L.set j (c,h,false)) O w)
  (t:vs=[]->Ud (okR P Low Stop) fn ops rest Q (a.put o.dst (.tuple #[z, .bool false])) (L.set j (c,[],true)) O w):Ud (okR P Low Stop) fn ops (i::rest) Q a L O w:=by
 intro b k g r m q;have y:∀v,(b.at a (.inRegion ops (i::rest)::k)).finish v=b.at (a.put o.dst v) (.inRegion ops rest::k):=λv=>by rw[Frame.finish_at,p];rfl
 have e:∀v,Conc.served (G (b.at a (.inRegion ops (i::rest)::k)) g) v=G (b.at (a.put o.dst v) (.inRegion ops rest::k)) g:=λv=>by rw[<-y];rfl
 refine Rcv.mk ⟨rfl, .inr (.inr (.inr ⟨j,c,vs,z,A,λw₁ n=>⟨?_,λv h l=>?_,λl=>?_⟩⟩))⟩
 ·show stepG P true (G (b.at a (.inRegion ops (i::rest)::k)) g) w₁=_
  rw[stepG_comm p u m (hr w₁)];unfold listed;rw[s,seen_none]
 ·show Rcv P Low Stop ⟨O,_,Conc.served (G (b.at a (.inRegion ops (i::rest)::k)) g) (.tuple #[v, .bool true]),w₁⟩
  rw[e];exact(Bj P Low Stop).rely (h1 v h l b k g r m q) n
 ·show Rcv P Low Stop ⟨O,_,Conc.served (G (b.at a (.inRegion ops (i::rest)::k)) g) (.tuple #[z, .bool false]),w₁⟩
  rw[e];exact(Bj P Low Stop).rely (t l b k g r m q) n
theorem A5a {Stop:Goroutine->World->Prop}{Q:Vw (List (Nat × List Value × Bool))}{L:List (Nat × List Value × Bool)}(q:ops[i]?=some o)(t:Region.wanted o (yielded ops a.tmps)=true)
  (hr:∀w₁:World,(execOp a.eval o).run P w₁=.ok (.spawn (dcall f args)) w₁) (p:∀w₁:World,(execOp a.eval o).events P w₁ #[]=#[]) (m:O c) (y:Yd c w)
  (u:okS P Low c vs (λ_=>False) w (born P (dcall f args))) (h:Ud (okR P Low Stop) fn ops rest Q (a.put o.dst undef) (L++[(c,vs,false)]) (λb=>O b/\b≠c) w):Ud (okR P Low Stop) fn ops (i::rest) Q a L O w:=by
 intro b k l v n A;refine Rcv.mk ⟨rfl, .inr (.inr (.inl ⟨c,m,λw₁ g=>⟨G (b.at (a.put o.dst undef) (.inRegion ops rest::k)) l,born P (dcall f args),vs,?_,rfl,rfl,?_,?_,?_⟩⟩))⟩
 ·show stepG P true (G (b.at a (.inRegion ops (i::rest)::k)) l) w₁=_
  rw[stepG_spawn q t n (hr w₁) rfl];unfold listed;rw[p,seen_none]
 ·obtain⟨s,r,e⟩:=y
  exact⟨s,r,(g.mine c m).trans e⟩
 ·exact(Bd P Low c).rely u (g.sub λ_ j=>j.elim)
 ·exact(Bj P Low Stop).rely (h b k l v n A) (g.sub λ_ j=>j.1)
theorem A2a {Stop:Goroutine->World->Prop}{L:List (Nat × List Value × Bool)}{g:Goroutine}(hr:g.status=.running)(j:∀e∈L,e.2.2=true)(h:∀w₁,Keep Low O w w₁->Stop g w₁):okR P Low Stop L O w g:=
 Rcv.mk ⟨hr, .inl ⟨j,h⟩⟩
end
end
section
variable {τ : Type}{P : Program}{main : Bool}{Low : Nat}{pre : τ -> World -> Prop}{ok : τ -> (Nat -> Prop) -> World -> Goroutine -> Prop}{fn : FuncId}{Q : Vw τ}{a : Act}{x : τ}{O : Nat -> Prop}{w : World}
variable {ops : Array Oper}{i : Nat}{rest : List Nat}{o : Oper}
theorem Aba (T:OkL P main Low pre ok)(n:ops[i]?=some o)(q:Region.wanted o (yielded ops a.tmps)=true)
  (m:∀w₁,Keep Low O w w₁->∀e∈(execOp a.eval o).events P w₁ #[],EvO Low O e)
  (h:∀w₁,Keep Low O w w₁->∀K:Act->World->Prop,(∀g,Ud ok fn ops rest Q g x O w->K g w₁)->uponK o a K ((execOp a.eval o).run P w₁)):Ud ok fn ops (i::rest) Q a x O w:=by
 refine Xa T n q λw₁ j _ K l=>?_
 have:=h w₁ j (λg k=>k=w₁/\Ud ok fn ops rest Q g x O w) λg h=>⟨rfl,h⟩
 refine uponK_mono (λg k h=>?_) this;obtain⟨rfl,h⟩:=h;refine l _ _ ⟨⟨λ_ _ _=>rfl,A88 _,rfl,rfl,rfl,λe p=>?_⟩,?_⟩
 ·rw[Jg];exact .inl (m _ j e (mem_listed p))
 ·rw[Jg];exact h.rely T j
theorem O8 (T:OkL P main Low pre ok)(j:ops[i]?=some o)(k:Region.wanted o (yielded ops a.tmps)=true)(g:∀w₁:World,(execOp a.eval o).events P w₁ #[]=#[])
  (h:∀(w₁:World) (K:Act->World->Prop),(∀e,Ud ok fn ops rest Q e x O w->K e w₁)->uponK o a K ((execOp a.eval o).run P w₁)):Ud ok fn ops (i::rest) Q a x O w:=
 Aba T j k (λw₁ _=>by rw[g];simp) λw₁ _=>h w₁
theorem Na (T:OkL P main Low pre ok)(n:ops[i]?=some o)(q:Region.wanted o (yielded ops a.tmps)=true)(m:∀w₁:World,(execOp a.eval o).events P w₁ #[]=#[])
  (h:∀w₁,Keep Low O w w₁->∀K:Act->World->Prop,(∀j g,Ud ok fn ops rest Q j x (λb=>O b\/b=w₁.heap.size) (w₁.alloc g)->K j (w₁.alloc g))->uponK o a K ((execOp a.eval o).run P w₁)):Ud ok fn ops (i::rest) Q a x O w:=by
 refine Xa T n q λw₁ s _ K r=>?_
 have:=h w₁ s (λj k=>∃g,k=w₁.alloc g/\Ud ok fn ops rest Q j x (λb=>O b\/b=w₁.heap.size) k) λj g h=>⟨g,rfl,h⟩
 refine uponK_mono (λj k h=>?_) this;obtain⟨g,rfl,h⟩:=h;refine r _ _ ⟨⟨λb l _=>?_,by simp only[World.alloc,Bb7];omega,rfl,rfl,rfl,λe t=>?_⟩,?_⟩
 ·simp only[World.alloc]
  rw[Bb4 l,Bay l]
 ·have:=mem_listed t
  rw[m] at this;simp at this
 ·have e:grown O w₁ (w₁.alloc g)=λb=>O b\/b=w₁.heap.size:=by
   funext b;apply propext;simp only[grown,World.alloc,Bb7];constructor
   ·rintro(h | h)
    ·exact .inl h
    ·exact .inr omz
   ·rintro(h | h)
    ·exact .inl h
    ·exact .inr omz
  rw[e];exact h
end
section
variable {Low : Nat}{w₀ : World}{bs : List (Nat × Obj)}{O : Nat -> Prop}{w w₁ : World}
end
variable {G G':Prop}
structure Wr (p:Prop):Prop where
 out:p
theorem kW (k:G')(f:Wr G'->G:=by(intro hZ;(repeat (first | (refine Ez (Bd _ _ _) ?_;simp only[A86,A84,A85,Nat.reduceAdd,A9c,List.range,List.range.loop]) | (refine O8 (Bd _ _ _) rfl rrz ?_ ?_;(focus (intro _;first | (simp[go_sem];done) | (simp[go_sem, *];done)));intro _ K hK;go_simp;refine hK _ ?_;clear hK K;try walk_nrm) | (refine Aba (Bd _ _ _) rfl rrz ?_ ?_;(focus (intro W1 hR e he;have hy:=_Y _ hR;simp[go_sem, *] at he;(first | (subst he;(first | (refine⟨_,_,rfl, .inl ?_⟩;assumption) | (refine⟨_,_,rfl, .inr ⟨?_,rfl⟩⟩;assumption) | exact⟨_,_,rfl,_B.imp id (λh=>⟨h,rfl⟩)⟩)) | (rcases he with rfl | rfl<;>(first | (refine⟨_,_,rfl, .inl ?_⟩;assumption) | (refine⟨_,_,rfl, .inr ⟨?_,rfl⟩⟩;assumption) | exact⟨_,_,rfl,_B.imp id (λh=>⟨h,rfl⟩)⟩)) | (rcases he with rfl | rfl | rfl | rfl<;>(first | (refine⟨_,_,rfl, .inl ?_⟩;assumption) | (refine⟨_,_,rfl, .inr ⟨?_,rfl⟩⟩;assumption) | exact⟨_,_,rfl,_B.imp id (λh=>⟨h,rfl⟩)⟩)) | (rcases he with rfl | rfl | rfl | rfl | rfl | rfl<;>(first | (refine⟨_,_,rfl, .inl ?_⟩;assumption) | (refine⟨_,_,rfl, .inr ⟨?_,rfl⟩⟩;assumption) | exact⟨_,_,rfl,_B.imp id (λh=>⟨h,rfl⟩)⟩)));done));intro W1 hR K hK;have hy:=_Y _ hR;go_simp;refine hK _ ?_;clear hK K hR hy W1;try walk_nrm) | (refine Vb (Bd _ _ _) rfl ?_ ?_;(focus (rfl;done));try walk_nrm) | (refine Ak9 (z:=.tuple #[]) rfl rrz ?_ ?_ ?_;(focus (intro _;simp[execOp,scase,Act.eval];done));(focus (intro _;simp[execOp];done));try walk_nrm) | (refine Ac7 (Bd _ _ _) (t:=true) ?_ ?_;(focus (simp[Act.eval, *];done));simp only[if_true,reduceIte]) | (refine Ac7 (Bd _ _ _) (t:=false) ?_ ?_;(focus (simp[Act.eval, *];done));simp only[A89,Bam,reduceIte]) | ((first | refine J6 (Bd _ _ _) ?_ | refine Rl (Bd _ _ _) ?_ | refine U2 (Bd _ _ _) ?_ | refine Rk (Bd _ _ _) ?_ | refine Yv (Bd _ _ _) ?_ | refine U3 (Bd _ _ _) ?_ | refine P6 (Bd _ _ _) ?_);try (simp only[U5,Lu,if_true,Bam,reduceIte,Nat.reduceEqDiff]))));exact hZ.out)):G:=f ⟨k⟩
theorem kV (k:G')(f:Wr G'->G:=by(intro hZ;(repeat (first | (refine Ez (Bj _ _ _) ?_;simp only[A86,A84,A85,Nat.reduceAdd,A9c,List.range,List.range.loop]) | (refine O8 (Bj _ _ _) rfl rrz ?_ ?_;(focus (intro _;first | (simp[go_sem];done) | (simp[go_sem, *];done)));intro _ K hK;go_simp;refine hK _ ?_;clear hK K;try walk_nrm) | (refine Aba (Bj _ _ _) rfl rrz ?_ ?_;(focus (intro W1 hR e he;have hy:=_Y _ hR;simp[go_sem, *] at he;(first | (subst he;(first | (refine⟨_,_,rfl, .inl ?_⟩;assumption) | (refine⟨_,_,rfl, .inr ⟨?_,rfl⟩⟩;assumption) | exact⟨_,_,rfl,_B.imp id (λh=>⟨h,rfl⟩)⟩)) | (rcases he with rfl | rfl<;>(first | (refine⟨_,_,rfl, .inl ?_⟩;assumption) | (refine⟨_,_,rfl, .inr ⟨?_,rfl⟩⟩;assumption) | exact⟨_,_,rfl,_B.imp id (λh=>⟨h,rfl⟩)⟩)) | (rcases he with rfl | rfl | rfl | rfl<;>(first | (refine⟨_,_,rfl, .inl ?_⟩;assumption) | (refine⟨_,_,rfl, .inr ⟨?_,rfl⟩⟩;assumption) | exact⟨_,_,rfl,_B.imp id (λh=>⟨h,rfl⟩)⟩)) | (rcases he with rfl | rfl | rfl | rfl | rfl | rfl<;>(first | (refine⟨_,_,rfl, .inl ?_⟩;assumption) | (refine⟨_,_,rfl, .inr ⟨?_,rfl⟩⟩;assumption) | exact⟨_,_,rfl,_B.imp id (λh=>⟨h,rfl⟩)⟩)));done));intro W1 hR K hK;have hy:=_Y _ hR;go_simp;refine hK _ ?_;clear hK K hR hy W1;try walk_nrm) | (refine Vb (Bj _ _ _) rfl ?_ ?_;(focus (rfl;done));try walk_nrm) | (refine Ak9 (z:=.tuple #[]) rfl rrz ?_ ?_ ?_;(focus (intro _;simp[execOp,scase,Act.eval];done));(focus (intro _;simp[execOp];done));try walk_nrm) | (refine Ac7 (Bj _ _ _) (t:=true) ?_ ?_;(focus (simp[Act.eval, *];done));simp only[if_true,reduceIte]) | (refine Ac7 (Bj _ _ _) (t:=false) ?_ ?_;(focus (simp[Act.eval, *];done));simp only[A89,Bam,reduceIte]) | ((first | refine J6 (Bj _ _ _) ?_ | refine Rl (Bj _ _ _) ?_ | refine U2 (Bj _ _ _) ?_ | refine Rk (Bj _ _ _) ?_ | refine Yv (Bj _ _ _) ?_ | refine U3 (Bj _ _ _) ?_ | refine P6 (Bj _ _ _) ?_);try (simp only[U5,Lu,if_true,Bam,reduceIte,Nat.reduceEqDiff]))));exact hZ.out)):G:=f ⟨k⟩
section
variable {K : World -> Prop}{b : Nat}{v0 v1 v2 v3 v4 v5 : Value}
theorem cs2 (h:∀W,K W->∀e,W.cell? ⟨b,e,none⟩=(#[v0,v1]:Array Value)[e]?)(W:World)(k:K W):W.cell? ⟨b,0,none⟩=some v0/\W.cell? ⟨b,1,none⟩=some v1:=⟨h W k 0,h W k 1⟩
theorem cs3 (h:∀W,K W->∀e,W.cell? ⟨b,e,none⟩=(#[v0,v1,v2]:Array Value)[e]?)(W:World)(k:K W):W.cell? ⟨b,0,none⟩=some v0/\W.cell? ⟨b,1,none⟩=some v1/\W.cell? ⟨b,2,none⟩=some v2:=⟨h W k 0,h W k 1,h W k 2⟩
theorem cs4 (h:∀W,K W->∀e,W.cell? ⟨b,e,none⟩=(#[v0,v1,v2,v3]:Array Value)[e]?)(W:World)(k:K W):W.cell? ⟨b,0,none⟩=some v0/\W.cell? ⟨b,1,none⟩=some v1/\W.cell? ⟨b,2,none⟩=some v2/\W.cell? ⟨b,3,none⟩=some v3:=⟨h W k 0,h W k 1,h W k 2,h W k 3⟩
theorem cs6 (h:∀W,K W->∀e,W.cell? ⟨b,e,none⟩=(#[v0,v1,v2,v3,v4,v5]:Array Value)[e]?)(W:World)(k:K W):W.cell? ⟨b,0,none⟩=some v0/\W.cell? ⟨b,1,none⟩=some v1/\W.cell? ⟨b,2,none⟩=some v2/\W.cell? ⟨b,3,none⟩=some v3/\W.cell? ⟨b,4,none⟩=some v4/\W.cell? ⟨b,5,none⟩=some v5:=⟨h W k 0,h W k 1,h W k 2,h W k 3,h W k 4,h W k 5⟩
end
end Go.Co
